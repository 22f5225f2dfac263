import Derived.Test.YtpmcefkhkkpnbaaGreatDoorW23
set_option linter.all false
set_option maxRecDepth 100000
set_option maxHeartbeats 8000000
open Go.Proofs Go.RowKit Go.W Tryz
namespace Go.W
variable {a:Nat->Addr}{w w0 w2 w3:Bb}{b p L c1 c2 c3 c':Nat}{t:Ay}{x:Tk}{k:Bk}{p1 p2 p3 p':Bp}{F1 F2 F3 F':Cg}
def Zxr:Da 138:=EH func138 zt rfl
def Zrk (Z:AZ a w)(h:Rd w b t p x):
  Calls prog 78 #[zq b 0] w (JO a b t (S9 69 4 (DI AV 4) w.heap.size) w<|ZR t x p):=by
 have Ho:=MR;have hg:=h.2.2.2;have ht:=h.2.1;have CW:=AC<|jc ⟨#[105,102]⟩ Z h;rw[show(⟨#[105,102]⟩:Ay).toList=[105,102]from ZJ [105,102]]at CW;have F:AF (ZR t x p=Bf (Nk t [105,102] x p) fun _ x1 p1=>Jd t (UZ t) [111,114] 4 5 [] x1 p1):=⟨rfl⟩;have ZW:=AC Z;clear Z h;go_in
 go_wp2_with fail
 apply CW.o.mono;rintro e w1 ⟨AX,⟨n,r,hy,hn,L,hL,rfl,hB⟩ | ⟨v,y,x1,r1,hy,rfl,hv,hr1⟩⟩
 .exact⟨rfl,AX,Or.inl ⟨n,r,F.o.trans<|Es hy,hn,L,hL,rfl,hB⟩⟩
 obtain rfl:v= .tuple #[]:=hv;have Z1:=ZW.o.keeps AX hg;have C:=AC (Zsy (d:=4) (f:=UZ t) Zxr (first:=#[zq b 0]) (cap:=#[]) (m:=4) ⟨#[111,114]⟩ Z1 hr1 (qI ht hy) zx fun u q y hu=>Zyn hu.2.2.1 hu.1 hu.2.2.2);rw[show(⟨#[111,114]⟩:Ay).toList=[111,114]from ZJ [111,114]]at C;have Y1:=AC<|F.o.trans<|Ee hy;have K1:=AC AX;have hs1:=AX.size;clear AX hy hr1 Z1 CW F;go_wp2_with fail
 apply C.o.mono;rintro e w2 ⟨hk2,⟨n,r,hy,hn,L,hL,rfl,hB⟩ | ⟨v,l,x2,r2,hy,rfl,⟨G,hR,hN⟩,hr2⟩⟩
 .exact⟨rfl,K1.o.trans hk2,Or.inl ⟨n,r,Y1.o.trans hy,hn,L,zx,rfl,hB⟩⟩
 obtain⟨p1,cc,rfl⟩:=AQ.form hR;have R:=AC<|AJ (K1.o.trans hk2)<|AJ hr2<|AJ (Y1.o.trans hy)<|AJ hR hN;clear hk2 hy hr2 hR hN;go_wp2
 go_ret
 obtain⟨hk,hr,hy,hR,hN⟩:=R.o;exact⟨hk,Or.inr ⟨_,l,x2,r2,hy,rfl,⟨G,hR,hN.la hs1 lr⟩,hr⟩⟩
structure PH (w wr:Bb) (L:Nat) (k:Bk) (p1:Bp) (c1:Nat) (p2:Bp) (c2:Nat) (p3:Bp) (c3:Nat) (F1 F2 F3:Cg):Prop where
 blk:AO wr L #[sP p1 k.fa.length c1,sP p2 k.ru.length c2,sP p3 k.ck.length c3] 38
 row1:AQ 64 2 (Bz AV 4) wr (sP p1 k.fa.length c1) k.fa F1
 row2:AQ 69 4 (DI AV 4) wr (sP p2 k.ru.length c2) k.ru F2
 row3:AQ 134 1 (Ew AV 4) wr (sP p3 k.ck.length c3) k.ck F3
 new1:Ag (L+1) wr F1
 new2:Ag (L+1) wr F2
 new3:Ag (L+1) wr F3
 a12: ∀ j,j∈F1->j∉F2
 a13: ∀ j,j∈F1->j∉F3
 a23: ∀ j,j∈F2->j∉F3
 le1:k.fa.length<=24
 le2:k.ru.length<=24
 le3:k.ck.length<=24
def PH.keep {wr wq:Bb}(h:PH w wr L k p1 c1 p2 c2 p3 c3 F1 F2 F3)(hs:wr.heap.size<=wq.heap.size)(e: ∀ j,L<=j->j<wr.heap.size->wq.heap[j]?=wr.heap[j]?):PH w wq L k p1 c1 p2 c2 p3 c3 F1 F2 F3:=
 ⟨h.blk.of<|e _ lr h.blk.lt,AQ.sb (Bz.sb (ty:=AV) 4) _ _ _ _ _ h.row1 fun j hj=>e j (by have:=h.new1.ge j hj;omega) (h.new1.lt j hj),AQ.sb (DI.sb (ty:=AV) 4) _ _ _ _ _ h.row2 fun j hj=>e j (by have:=h.new2.ge j hj;omega) (h.new2.lt j hj),AQ.sb (Ew.sb (ty:=AV) 4) _ _ _ _ _ h.row3 fun j hj=>e j (by have:=h.new3.ge j hj;omega) (h.new3.lt j hj),h.new1.la lr hs,h.new2.la lr hs,h.new3.la lr hs,h.a12,h.a13,h.a23,h.le1,h.le2,h.le3⟩
def PH.add1 {G:Cg}{z:A}(h:PH w0 w2 L k p1 c1 p2 c2 p3 c3 F1 F2 F3)(g:YI 64 2 (Bz AV 4) (L+1) w2 w3 F1 G (sP p' (k.fa.length+1) c') (k.fa++[z]) F')(hne:k.fa.length≠24)(d2: ∀ j,j∈G->j∉F2)(d3: ∀ j,j∈G->j∉F3):
  PH w0 (w3.setCell (zm L 0)<|sP p' (k.fa.length+1) c') L {k with fa:=k.fa++[z]} p' c' p2 c2 p3 c3 F' F2 F3:=by
 have hl:=h.blk.of<|g.same L h.blk.lt (fun hj=>fw (h.new1.ge _ hj));have l1:=h.le1
 exact{blk:=(by have:=hl.set 0<|sP p' (k.fa.length+1) c';simpa using this),row1:=(by have:=AQ.sb (Bz.sb (ty:=AV) 4) _ (w3.setCell (zm L 0)<|sP p' (k.fa.length+1) c') _ _ _ g.row fun j hj=>Aw _ _ _ j (by show j≠L;have:=g.new.ge j hj;omega);simpa using this),row2:=AQ.sb (DI.sb (ty:=AV) 4) _ _ _ _ _ h.row2 fun j hj=>(Aw _ _ _ j (by show j≠L;have:=h.new2.ge j hj;omega)).trans (g.same j (h.new2.lt j hj) fun Am=>h.a12 j Am hj),row3:=AQ.sb (Ew.sb (ty:=AV) 4) _ _ _ _ _ h.row3 fun j hj=>(Aw _ _ _ j (by show j≠L;have:=h.new3.ge j hj;omega)).trans (g.same j (h.new3.lt j hj) fun Am=>h.a13 j Am hj),new1:=g.new.la lr zw,new2:=h.new2.la lr (by have:=g.size;simp;omega),new3:=h.new3.la lr (by have:=g.size;simp;omega),a12:=(fun j hj Am=>by
  rcases g.sub j hj with h1 | h1 | h1
  .exact h.a12 j h1 Am
  .exact d2 j h1 Am
  .have:=h.new2.lt j Am;omega),a13:=(fun j hj Am=>by
  rcases g.sub j hj with h1 | h1 | h1
  .exact h.a13 j h1 Am
  .exact d3 j h1 Am
  .have:=h.new3.lt j Am;omega),a23:=h.a23,le1:=zc,le2:=h.le2,le3:=h.le3}
def PH.add2 {G:Cg}{z:R}(h:PH w0 w2 L k p1 c1 p2 c2 p3 c3 F1 F2 F3)(g:YI 69 4 (DI AV 4) (L+1) w2 w3 F2 G (sP p' (k.ru.length+1) c') (k.ru++[z]) F')(hne:k.ru.length≠24)(d1: ∀ j,j∈G->j∉F1)(d3: ∀ j,j∈G->j∉F3):
  PH w0 (w3.setCell (zm L 1)<|sP p' (k.ru.length+1) c') L {k with ru:=k.ru++[z]} p1 c1 p' c' p3 c3 F1 F' F3:=by
 have hl:=h.blk.of<|g.same L h.blk.lt (fun hj=>fw (h.new2.ge _ hj));have l2:=h.le2
 exact{blk:=(by have:=hl.set 1<|sP p' (k.ru.length+1) c';simpa using this),row1:=AQ.sb (Bz.sb (ty:=AV) 4) _ _ _ _ _ h.row1 fun j hj=>(Aw _ _ _ j (by show j≠L;have:=h.new1.ge j hj;omega)).trans (g.same j (h.new1.lt j hj) fun Am=>h.a12 j hj Am),row2:=(by have:=AQ.sb (DI.sb (ty:=AV) 4) _ (w3.setCell (zm L 1)<|sP p' (k.ru.length+1) c') _ _ _ g.row fun j hj=>Aw _ _ _ j (by show j≠L;have:=g.new.ge j hj;omega);simpa using this),row3:=AQ.sb (Ew.sb (ty:=AV) 4) _ _ _ _ _ h.row3 fun j hj=>(Aw _ _ _ j (by show j≠L;have:=h.new3.ge j hj;omega)).trans (g.same j (h.new3.lt j hj) fun Am=>h.a23 j Am hj),new1:=h.new1.la lr (by have:=g.size;simp;omega),new2:=g.new.la lr zw,new3:=h.new3.la lr (by have:=g.size;simp;omega),a12:=(fun j hj Am=>by
  rcases g.sub j Am with h1 | h1 | h1
  .exact h.a12 j hj h1
  .exact d1 j h1 hj
  .have:=h.new1.lt j hj;omega),a13:=h.a13,a23:=(fun j hj Am=>by
  rcases g.sub j hj with h1 | h1 | h1
  .exact h.a23 j h1 Am
  .exact d3 j h1 Am
  .have:=h.new3.lt j Am;omega),le1:=h.le1,le2:=zc,le3:=h.le3}
def PH.add3 {G:Cg}{z:(List R)}(h:PH w0 w2 L k p1 c1 p2 c2 p3 c3 F1 F2 F3)(g:YI 134 1 (Ew AV 4) (L+1) w2 w3 F3 G (sP p' (k.ck.length+1) c') (k.ck++[z]) F')(hne:k.ck.length≠24)(d1: ∀ j,j∈G->j∉F1)(d2: ∀ j,j∈G->j∉F2):
  PH w0 (w3.setCell (zm L 2)<|sP p' (k.ck.length+1) c') L {k with ck:=k.ck++[z]} p1 c1 p2 c2 p' c' F1 F2 F':=by
 have hl:=h.blk.of<|g.same L h.blk.lt (fun hj=>fw (h.new3.ge _ hj));have l3:=h.le3
 exact{blk:=(by have:=hl.set 2<|sP p' (k.ck.length+1) c';simpa using this),row1:=AQ.sb (Bz.sb (ty:=AV) 4) _ _ _ _ _ h.row1 fun j hj=>(Aw _ _ _ j (by show j≠L;have:=h.new1.ge j hj;omega)).trans (g.same j (h.new1.lt j hj) fun Am=>h.a13 j hj Am),row2:=AQ.sb (DI.sb (ty:=AV) 4) _ _ _ _ _ h.row2 fun j hj=>(Aw _ _ _ j (by show j≠L;have:=h.new2.ge j hj;omega)).trans (g.same j (h.new2.lt j hj) fun Am=>h.a23 j hj Am),row3:=(by have:=AQ.sb (Ew.sb (ty:=AV) 4) _ (w3.setCell (zm L 2)<|sP p' (k.ck.length+1) c') _ _ _ g.row fun j hj=>Aw _ _ _ j (by show j≠L;have:=g.new.ge j hj;omega);simpa using this),new1:=h.new1.la lr (by have:=g.size;simp;omega),new2:=h.new2.la lr (by have:=g.size;simp;omega),new3:=g.new.la lr zw,a12:=h.a12,a13:=(fun j hj Am=>by
  rcases g.sub j Am with h1 | h1 | h1
  .exact h.a13 j hj h1
  .exact d1 j h1 hj
  .have:=h.new1.lt j hj;omega),a23:=(fun j hj Am=>by
  rcases g.sub j Am with h1 | h1 | h1
  .exact h.a23 j hj h1
  .exact d2 j h1 hj
  .have:=h.new2.lt j hj;omega),le1:=h.le1,le2:=h.le2,le3:=zc}
def Yhe (a:Nat->Addr) (b:Nat) (t:Ay) (w0:Bb) (L:Nat) (Y:Re Bk) (e:Ending) (w':Bb):Prop:=
 Ad b w0 w'/\((∃ n p,Y= .error (n,p)/\n≠0/\Wm a n p w0.heap.size e w')\/ ∃ k p1 c1 p2 c2 p3 c3 F1 F2 F3 x q,Y= .ok (k,x,q)/\e=uY (.tuple #[])/\PH w0 w' L k p1 c1 p2 c2 p3 c3 F1 F2 F3/\Rd w' b t q x)
def Z9l {d:Nat}{p:Bp}{c:Nat}{l:List R}{F:Cg}(h:AQ 69 4 (DI AV d) w (sP p l.length c) l F):Ew AV d w [sP p l.length c] l F:=⟨_,rfl,h⟩
def Z59 (Z:AZ a w)(h:Rd w b t p x)(hK:Ad b w0 w)(hb:b<w0.heap.size)(Yr:w0.heap.size<=L)(hI:PH w0 w L k p1 c1 p2 c2 p3 c3 F1 F2 F3):
  Calls prog 72 #[zq b 0,zq L 0] w (Yhe a b t w0 L<|fK t k x p):=by
 have hg:=h.2.2.2;have ht:=h.2.1;have CT:=AC<|Vg Z h;have F:AF (fK t k x p=Bf (En t x p) fun _ x1 p1=>Bf (ZR t x1 p1) fun l x2 p2=>if k.ck.length=24 then .error (4,x.at_)else .ok ({k with ck:=k.ck++[l]},x2,p2)):=⟨rfl⟩;have ZW:=AC Z;have HI:=AC hI;have HK:=AC hK;have hlL:=hI.blk.lt;have hs0:=hK.size;have le3:=hI.le3;clear Z h hI hK;go_in
 go_wp2_with fail
 apply CT.o.mono;rintro e w1 ⟨AX,⟨n,r,hy,hn,L',hL,rfl,hB⟩ | ⟨v,y,x1,r1,hy,rfl,hv,hr1⟩⟩
 .exact⟨rfl,HK.o.trans AX,Or.inl ⟨n,r,F.o.trans<|Es hy,hn,L',zx,rfl,hB⟩⟩
 obtain rfl:v=Jc y:=hv;obtain⟨hx1,rfl⟩:=Wn ht hy;have Y1:=AC<|F.o.trans<|Ee hy;have K1:=AC (HK.o.trans AX).drew;have Z1:=AC (ZW.o.keeps AX hg).drew;have Dl:=AC hr1.drew;have hs1:w.heap.size<=w1.drew.heap.size:=AX.size;have I1:AF (PH w0 w1.drew L k p1 c1 p2 c2 p3 c3 F1 F2 F3):=⟨HI.o.keep AX.size fun j h1 h2=>AX.block j h2 zx⟩;have CB:=AC<|Zrk Z1.o Dl.o;obtain⟨f0,f1,f2,sg⟩:=(HI.o.keep (wq:=w1) AX.size fun j h1 h2=>AX.block j h2 zx).blk.three;have fa:=Yii y;clear AX hy hr1 CT F HI HK ZW;unfold Jc;go_wp2
 go_region_with (first
  | (go_at_call 78
     apply CB.o.mono;rintro e w2 ⟨hk2,⟨n2,r2,hy,Hl,L',hL,rfl,hB⟩ | ⟨v,l,x2,r2,hy,rfl,⟨G,hR,hN⟩,hr2⟩⟩
     .exact⟨rfl,K1.o.trans hk2,Or.inl ⟨n2,r2,Y1.o.trans<|Es hy,Hl,L',zx,rfl,hB⟩⟩
     obtain⟨pp,cc,rfl⟩:=AQ.form hR;have I2:=I1.o.keep hk2.size fun j h1 h2=>hk2.block j h2 zx;have hs2:=hk2.size;have Z2:=Z1.o.keeps hk2 hg;have CJ:=AC<|Zx3 (d:=4) (B:=L+1) (m:=24) (k:=y.at_) Z2 I2.row3 (Z9l hR) I2.blk.lt I2.new3 (hN.la zx lr) (fun j hj Am=>jE (I1.o.new3.lt j hj) (hN.ge j Am)) zx le3;have D1:AF (∀ j,j∈G->j∉F1):=⟨fun j hj Am=>jE (I1.o.new1.lt j Am) (hN.ge j hj)⟩;have D2:AF (∀ j,j∈G->j∉F2):=⟨fun j hj Am=>jE (I1.o.new2.lt j Am) (hN.ge j hj)⟩;have HP:=AC<|Y1.o.trans<|Ee hy;have U4:=AC<|K1.o.trans hk2;have Hf:=AC<|AJ I2<|AJ hr2 Z2;obtain⟨e0,e1,e2,se⟩:=I2.blk.three;clear hk2 hy hR hN hr2 I2 Z2)
  | (go_at_call 134
     apply CJ.o.mono;rintro e w3 (⟨hE,⟨L',hL,rfl,hB⟩,hb3⟩ | ⟨hne,p',c',F',rfl,hG⟩)
     .exact⟨rfl,U4.o.AU hb3,Or.inl ⟨4,_,HP.o.trans<|xj hE,zu,L',Ab U4.o.size hL,rfl,hB⟩⟩
     have YL:=Hf.o.1.blk.of<|hG.same L Hf.o.1.blk.lt (fun hj=>fw (Hf.o.1.new3.ge _ hj));obtain⟨e0,e1,e2,se⟩:=YL.three;have HG:=AC hG;clear hG YL))
 all_goals
  have I3:=Hf.o.1.add3 HG.o hne D1.o D2.o;have hr3:Rd (w3.setCell (zm L 2)<|sP p' (k.ck.length+1) c') b t r2 x2:=⟨(Hf.o.2.1.1.of<|HG.o.same b Hf.o.2.1.1.lt (fun hj=>fw (Hf.o.1.new3.ge _ hj))).away _ _ zx _,Hf.o.2.1.2⟩;have K3:Ad b w0 (w3.setCell (zm L 2)<|sP p' (k.ck.length+1) c'):=(Ad.Py HG.o U4.o (fun j hj=>fw (Hf.o.1.new3.ge j hj))).Ai _ _ _ Yr;have R:=AC<|AJ K3<|AJ I3<|AJ hr3<|HP.o.trans<|xd hne;clear I3 hr3 K3;go_wp2_with fail
  exact⟨rfl,_,(by simp[results,results72,go_sem];try rfl),R.o.1,Or.inr ⟨_,_,_,_,_,_,_,_,_,_,x2,r2,R.o.2.2.2,rfl,R.o.2.1,R.o.2.2.1⟩⟩
variable {z:A}{x1:Tk}{p1:Nat}
section
variable {t:Ay} {k:Bk} {x:Tk} {p:Nat}
def Z5d {e:Int×Nat}(h:VT t x p= .error e):Wu t k x p= .error e:=Es h
def Z8t (h:VT t x p= .ok (z,x1,p1))(hm:x1.text.toList≠[60,45]):Wu t k x p=if ET z.te []=false then .error (5,x.at_)else if k.fa.length=24 then .error (4,x.at_)else .ok ({k with fa:=k.fa++[z]},x1,p1):=by
 unfold Wu;rw[Ee h,xd hm]
def Z8u (h:VT t x p= .ok (z,x1,p1))(hm:x1.text.toList=[60,45]):Wu t k x p=Bf (En t x1 p1) fun _ x2 p2=>Bf (UZ t x2 p2) fun r x3 p3=>if ET z.te r.body=false then .error (5,x.at_)else if k.ru.length=24 then .error (4,x.at_)else .ok ({k with ru:=k.ru++[{r with head:=z}]},x3,p3):=by
 unfold Wu;rw[Ee h,xj hm]
end
variable {d:Nat}{F:Cg}
def Z6f {r:R}{v0 v1 v2 v3:Value}(h:DI AV d w [v0,v1,v2,v3] r F): ∃ Fh Fb Fg,PG AV d w v2 r.body Fb/\Wl AV d w v3 r.gu Fg/\F=Fh++(Fb++Fg):=by
 obtain⟨hv,bv,gv,Fh,Fb,Fg,he,hh,hb,hg,rfl⟩:=h;obtain⟨tv,rfl,_⟩:=hh;simp only[EC,JU,List.cons.injEq,and_true]at he;obtain⟨_,_,rfl,rfl⟩:=he;exact⟨Fh,Fb,Fg,hb,hg,rfl⟩
def Bz.row {z:A}{p:Bp}{c:Nat}(h:Bz AV d w [um z.name,sP p z.te.length c] z F):ZM AV d w (sP p z.te.length c) z.te F:=by
 obtain⟨tv,he,_,h⟩:=h;cases he;exact h
def Yaj {a:Nat->Addr}{w0:Bb}{b L:Nat}{t:Ay}{p:Nat}{x:Tk}{k:Bk}{p1 p2 p3:Bp}{c1 c2 c3:Nat}{F1 F2 F3:Cg}(Z:AZ a w)(h:Rd w b t p x)(hx:Jr x)(hK:Ad b w0 w)(hb:b<w0.heap.size)(Yr:w0.heap.size<=L)(hI:PH w0 w L k p1 c1 p2 c2 p3 c3 F1 F2 F3):
  Calls prog 73 #[zq b 0,zq L 0] w (Yhe a b t w0 L<|Wu t k x p):=by
 have hg:=h.2.2.2;have ht:=h.2.1;obtain⟨b0,b1,b2,b3,b4,b5,b6,b7,bs⟩:=h.1.eight;have CA:=AC<|Zym Z h hx;have ZW:=AC Z;have HI:=AC hI;have HK:=AC hK;have hlL:=hI.blk.lt;have hs0:=hK.size;have le1:=hI.le1;have le2:=hI.le2;clear Z h hI hK;go_in
 go_wp2_with fail
 apply CA.o.mono;rintro e w1 ⟨AX,⟨n,r,hy,hn,L',hL,rfl,hB⟩ | ⟨v,z,x1,r1,hy,rfl,⟨vs,G,rfl,hQ,hN⟩,hr1⟩⟩
 .exact⟨rfl,HK.o.trans AX,Or.inl ⟨n,r,Z5d hy,hn,L',zx,rfl,hB⟩⟩
 obtain⟨pz,cz,rfl⟩:=Bz.vals hQ;have HY:=AC hy;have hs1:=AX.size;have K1:=AC<|(HK.o.trans AX).alloc<|.cells #[um z.name,sP pz z.te.length cz] 64;have B1:=AC<|(AR _ w1).alloc lr<|.cells #[um z.name,sP pz z.te.length cz] 64;have Z1:=AC<|(ZW.o.keeps AX hg).be B1.o;have Dl:=AC<|hr1.of B1.o;have LH:=AC<|AO.new w1 #[um z.name,sP pz z.te.length cz] 64;have I1:=AC<|(HI.o.keep AX.size fun j h1 h2=>AX.block j h2 zx).keep B1.o.size fun j _ h2=>B1.o.block j h2;have Q1:=AC<|Bz.sb (ty:=AV) 4 _ _ _ _ _ hQ fun j hj=>B1.o.block j (hN.lt j hj);have N1:=hN;have AP0:AF ((∀ j,j∈F1->j<w.heap.size)/\(∀ j,j∈F2->j<w.heap.size)/\ ∀ j,j∈F3->j<w.heap.size):=⟨HI.o.new1.lt,HI.o.new2.lt,HI.o.new3.lt⟩;have AP1:AF (∀ j,j∈G->j∉F1):=⟨fun j hj Am=>jE (HI.o.new1.lt j Am) (hN.ge j hj)⟩;have AP2:AF (∀ j,j∈G->j∉F2):=⟨fun j hj Am=>jE (HI.o.new2.lt j Am) (hN.ge j hj)⟩;have AP3:AF (∀ j,j∈G->j∉F3):=⟨fun j hj Am=>jE (HI.o.new3.lt j Am) (hN.ge j hj)⟩;have dL:(w1.alloc<|.cells #[um z.name,sP pz z.te.length cz] 64).heap.size=w1.heap.size+1:=zw
 obtain⟨W,hW⟩:=fu (w1.alloc (.cells #[um z.name,sP pz z.te.length cz] 64));rw[hW]at K1 B1 Z1 Dl LH I1 Q1 dL;have HW:=AC hW;clear AX hy hQ hr1 HI HK ZW CA b0 b1 b2 b3 b4 b5 b6 b7 bs hW hN;obtain⟨b0,b1,b2,b3,b4,b5,b6,b7,bs⟩:=Dl.o.1.eight;rw[<- HW.o]at b0 b1 b2 b3 b4 b5 b6 b7 bs;by_cases hm:x1.text.toList=[60,45]
 .have g1:(x1.text.toList==[60,45])=true:=by rw[DR];exact hm
  have Y:=AC<|Z8u (k:=k) HY.o hm;clear hm;go_wp2_with fail
  rw[HW.o];apply(Vg Z1.o Dl.o).mono;rintro e w2 ⟨hk2,⟨n,r,hy,hn,L',hL,rfl,hB⟩ | ⟨v,y2,x2,r2,hy,rfl,hv,hr2⟩⟩
  .exact⟨rfl,K1.o.trans hk2,Or.inl ⟨n,r,Y.o.trans<|Es hy,hn,L',zx,rfl,hB⟩⟩
  obtain rfl:v=Jc y2:=hv;have hx2:=(Wn ht hy).1;have Y2:=AC<|Y.o.trans<|Ee hy;have hs2:=hk2.size;have K2:=AC<|K1.o.trans hk2;have Z2:=AC<|Z1.o.keeps hk2 hg;have Ao:=AC hr2;have I2:=AC<|I1.o.keep hk2.size fun j h1 h2=>hk2.block j h2 zx;have Q2:=AC<|Bz.sb (ty:=AV) 4 _ _ _ _ _ Q1.o fun j hj=>hk2.block j (fw (N1.lt j hj)) (fw (N1.ge j hj));have xR:=AC<|LH.o.of<|hk2.block _ zx zx;clear hk2 hy hr2 Y b0 b1 b2 b3 b4 b5 b6 b7 bs K1 Z1 Dl I1 Q1 LH B1 HW;go_wp2_with fail
  apply(Zyn Z2.o Ao.o hx2).mono;rintro e w3 ⟨hk3,⟨n,r,hy,hn,L',hL,rfl,hB⟩ | ⟨v,r,x3,r3,hy,rfl,⟨vs,G3,rfl,hQ,aP⟩,hr3⟩⟩
  .exact⟨rfl,K2.o.trans hk3,Or.inl ⟨n,r,Y2.o.trans<|Es hy,hn,L',zx,rfl,hB⟩⟩
  obtain⟨ph,ch,pb,cb,pg,cg,rfl⟩:=DI.vals hQ;have hs3:=hk3.size;obtain⟨Fh,Fb,Fg,hBd,hGd,rfl⟩:=Z6f hQ;have QB:=AC<|AJ hBd hGd;have Y3:=AC<|Y2.o.trans<|Ee hy;have K3:=AC<|K2.o.trans hk3;have Z3:=AC<|Z2.o.keeps hk3 hg;have Dn:=AC hr3;have I3:=AC<|I2.o.keep hk3.size fun j h1 h2=>hk3.block j h2 zx;have Q3:=AC<|Bz.sb (ty:=AV) 4 _ _ _ _ _ Q2.o fun j hj=>hk3.block j (fw (N1.lt j hj)) (fw (N1.ge j hj));have xQ:=AC<|xR.o.of<|hk3.block _ zx zx;have LR:=AC<|AO.new w3 #[um z.name,sP pz z.te.length cz,sP pb r.body.length cb,sP pg r.gu.length cg] 69;have B4:=AC<|(AR _ w3).alloc lr<|.cells #[um z.name,sP pz z.te.length cz,sP pb r.body.length cb,sP pg r.gu.length cg] 69;have yf:(w3.alloc<|.cells #[um z.name,sP pz z.te.length cz,sP pb r.body.length cb,sP pg r.gu.length cg] 69).heap.size=w3.heap.size+1:=zw
  obtain⟨k0,k1,ks⟩:=(xQ.o.alloc<|.cells #[um r.head.name,sP ph r.head.te.length ch,sP pb r.body.length cb,sP pg r.gu.length cg] 69).two;obtain⟨l0,l1,ls⟩:=(xQ.o.alloc<|.cells #[um z.name,sP pz z.te.length cz,sP pb r.body.length cb,sP pg r.gu.length cg] 69).two;obtain⟨u0,u1,u2,u3,us⟩:=LR.o.four;have lne:w1.heap.size≠w3.heap.size:=zx
  clear hk3 hy hr3 K2 Z2 Ao I2 Q2 xR Y2 hBd hGd hQ;go_wp2_with fail
  obtain⟨W4,Eh⟩: ∃ W,w3.alloc (.cells #[um z.name,sP pz z.te.length cz,sP pb r.body.length cb,sP pg r.gu.length cg] 69)=W:=⟨_,rfl⟩;have K4:=AC<|K3.o.AU B4.o;have Z4:=AC<|Z3.o.be B4.o;have Vu:=AC<|Dn.o.of B4.o;have I4:=AC<|I3.o.keep B4.o.size fun j _ h2=>B4.o.block j h2;have Q4:=AC<|Bz.sb (ty:=AV) 4 _ _ _ _ _ Q3.o fun j hj=>B4.o.block j (fw (N1.lt j hj));have NB: ∀ j,j∈Fb->w2.heap.size<=j/\j<w3.heap.size:=fun j hj=>⟨aP.ge j (by simp[hj]),aP.lt j (by simp[hj])⟩;have NG: ∀ j,j∈Fg->w2.heap.size<=j/\j<w3.heap.size:=fun j hj=>⟨aP.ge j (by simp[hj]),aP.lt j (by simp[hj])⟩;have xN:=AC<|AQ.sb (Bz.sb (ty:=AV) 4) _ _ _ _ _ QB.o.1 fun j hj=>B4.o.block j (NB j hj).2;have QG4:=AC<|AQ.sb (Eo.sb (ty:=AV) 4) _ _ _ _ _ QB.o.2 fun j hj=>B4.o.block j (NG j hj).2;rw[Eh]at K4 Z4 Vu I4 Q4 xN QG4 LR yf⊢;clear B4 k0 k1 ks l0 l1 ls u0 u1 u2 u3 us K3 Z3 Dn I3 Q3 QB;obtain⟨tp,tc,Ib,_,mX⟩:=ZM.Ll (ty:=AV) (d:=4) (B:=W4.heap.size) (Bz.row Q4.o) (fun j hj=>fw (N1.lt j hj));cases Ib;obtain⟨ap,ac,ha0,_,oO⟩:=PG.Ll (ty:=AV) (d:=4) (B:=W4.heap.size) xN.o (fun j hj=>fw (NB j hj));cases ha0;have LH4:AF (AO W4 w1.heap.size #[um z.name,sP pz z.te.length cz] 64):=⟨Eh▸xQ.o.alloc _⟩;clear Eh xQ;apply(gN (D:=3) (c:=cz) (c':=cb) (B:=W4.heap.size) mX oO lr).mono;rintro e w5 ⟨rfl,BX⟩;have hs5:=BX.size;have K5:=AC (K4.o.AU BX).drew;have KP:=AC<|K4.o.AU BX;have Z5:=AC<|Z4.o.be BX;have iE:=AC<|Vu.o.of BX;have I5:=AC<|(I4.o.keep BX.size fun j _ h2=>BX.block j h2).keep (wq:=w5.drew) lr fun _ _ _=>rfl;have Q5:=AC<|Bz.sb (ty:=AV) 4 _ w5.drew _ _ _ Q4.o fun j hj=>BX.block j (fw (N1.lt j hj));have QB5:=AC<|AQ.sb (Bz.sb (ty:=AV) 4) _ w5.drew _ _ _ xN.o fun j hj=>BX.block j (fw (NB j hj));have QG5:=AC<|AQ.sb (Eo.sb (ty:=AV) 4) _ w5.drew _ _ _ QG4.o fun j hj=>BX.block j (fw (NG j hj));have LR5:=AC<|LR.o.of<|BX.block _ zx;clear BX mX oO K4 Z4 Vu I4 Q4 xN QG4 LR LH4;cases KJ:ET z.te r.body
  .have Y4:=AC<|Y3.o.trans<|xj KJ;have z5:=Z5.o.c5;have CS:=AC<|Xw a (n:=5) zu x.at_ w5;go_wp2_with fail
   apply CS.o.mono;rintro e w6 ⟨⟨L',hL,rfl,hB⟩,Gp⟩;exact⟨rfl,KP.o.AU Gp,Or.inl ⟨5,_,Y4.o,zu,L',Ab KP.o.size hL,rfl,hB⟩⟩
  .have Y4:=AC<|Y3.o.trans<|xd (by rw[KJ];simp);have QR:DI AV 4 w5.drew [um z.name,sP pz z.te.length cz,sP pb r.body.length cb,sP pg r.gu.length cg] {r with head:=z} (G++(Fb++Fg)):=⟨[um z.name,sP pz z.te.length cz],_,_,G,Fb,Fg,rfl,Q5.o,QB5.o,QG5.o,rfl⟩;have oN:=aP.once;have NR:Ag (L+1) w5.drew (G++(Fb++Fg)):=⟨Mc.2 ⟨N1.once,(Mc.1 oN).2.1,fun i hi j hj e=>by
     subst e
     have:=N1.lt i hi
     rcases Aj.1 hj with h1 | h1
     .have:=NB i h1;omega
     .have:=NG i h1;omega⟩,fun j hj=>by
     rcases Aj.1 hj with h1 | h1
     .have:=N1.ge j h1;omega
     .rcases Aj.1 h1 with h2 | h2
      .have:=NB j h2;omega
      .have:=NG j h2;omega,fun j hj=>by
     show j<w5.heap.size;rcases Aj.1 hj with h1 | h1
     .have:=N1.lt j h1;omega
     .rcases Aj.1 h1 with h2 | h2
      .have:=NB j h2;omega
      .have:=NG j h2;omega⟩
   have far: ∀ j,j∈G++(Fb++Fg)->w.heap.size<=j:=fun j hj=>by
    rcases Aj.1 hj with h1 | h1
    .exact N1.ge j h1
    .rcases Aj.1 h1 with h2 | h2
     .have:=NB j h2;omega
     .have:=NG j h2;omega
   have DD1:AF (∀ j,j∈G++(Fb++Fg)->j∉F1):=⟨fun j hj Am=>jE (AP0.o.1 j Am) (far j hj)⟩;have DD2:AF (∀ j,j∈G++(Fb++Fg)->j∉F2):=⟨fun j hj Am=>jE (AP0.o.2.1 j Am) (far j hj)⟩;have DD3:AF (∀ j,j∈G++(Fb++Fg)->j∉F3):=⟨fun j hj Am=>jE (AP0.o.2.2 j Am) (far j hj)⟩;have CJ:=AC<|Zq4 (d:=4) (B:=L+1) (m:=24) (k:=x.at_) Z5.o.drew I5.o.row2 QR I5.o.blk.lt I5.o.new2 NR (fun j hj Am=>DD2.o j Am hj) zx le2;obtain⟨l0,l1,l2,l3,ls⟩:=LR5.o.four;obtain⟨f0,f1,f2,sg⟩:=(I5.o.keep (wq:=w5) lr fun _ _ _=>rfl).blk.three;clear QR NR far;go_wp2
   go_region_with (first
    | (go_at_call 139
       apply CJ.o.mono;rintro e w6 (⟨hE,⟨L',hL,rfl,hB⟩,Gp⟩ | ⟨hne,p',c',F',rfl,hG⟩)
       .exact⟨rfl,K5.o.AU Gp,Or.inl ⟨4,_,Y4.o.trans<|xj hE,zu,L',Ab K5.o.size hL,rfl,hB⟩⟩
       have e1:=(I5.o.blk.of<|hG.same L I5.o.blk.lt (fun hj=>fw (I5.o.new2.ge _ hj))).three.2.1;have se:=(I5.o.blk.of<|hG.same L I5.o.blk.lt (fun hj=>fw (I5.o.new2.ge _ hj))).three.2.2.2;have HG:=AC hG;have sG:=AC hne;clear hG hne))
   all_goals
    have I6:=I5.o.add2 HG.o sG.o DD1.o DD3.o;have ic:Rd (w6.setCell (zm L 1)<|sP p' (k.ru.length+1) c') b t r3 x3:=⟨(iE.o.1.of<|HG.o.same b iE.o.1.lt (fun hj=>fw (I5.o.new2.ge _ hj))).away _ _ zx _,iE.o.2⟩;have K6:Ad b w0 (w6.setCell (zm L 1)<|sP p' (k.ru.length+1) c'):=(Ad.Py HG.o K5.o (fun j hj=>fw (I5.o.new2.ge j hj))).Ai _ _ _ Yr;have R:=AC<|AJ K6<|AJ I6<|AJ ic<|Y4.o.trans<|xd sG.o;clear I6 ic K6;go_wp2_with fail
    exact⟨rfl,_,(by simp[results,results73,go_sem];try rfl),R.o.1,Or.inr ⟨_,_,_,_,_,_,_,_,_,_,x3,r3,R.o.2.2.2,rfl,R.o.2.1,R.o.2.2.1⟩⟩
 .have g1:(x1.text.toList==[60,45])=false:=by rw[BJ];exact hm
  have Y:=AC<|Z8t (k:=k) HY.o hm;obtain⟨l0,l1,ls⟩:=LH.o.two;rw[<- HW.o]at l0 l1 ls;clear hm;obtain⟨tp,tc,Ib,_,mX⟩:=ZM.Ll (ty:=AV) (d:=4) (B:=W.heap.size) (Bz.row Q1.o) (fun j hj=>fw (N1.lt j hj));cases Ib;have AB:=AC<|gN (D:=3) (c:=cz) (p':=none) (ys:=[]) (c':=0) (B:=W.heap.size) mX ⟨zw,fun i x h=>by simp at h⟩ lr;go_wp2_with fail
  rw[HW.o];apply mq AB.o;rintro w2 hb2;have hs2:=hb2.size;have K2:=AC (K1.o.AU hb2).drew;have KP:=AC<|K1.o.AU hb2;have Z2:=AC<|Z1.o.be hb2;have Ao:=AC<|Dl.o.of hb2;have I2:=AC<|(I1.o.keep hb2.size fun j _ h2=>hb2.block j h2).keep (wq:=w2.drew) lr fun _ _ _=>rfl;have Q2:=AC<|Bz.sb (ty:=AV) 4 _ w2.drew _ _ _ Q1.o fun j hj=>hb2.block j (fw (N1.lt j hj));have xR:=AC<|LH.o.of<|hb2.block _ zx;clear hb2 AB mX l0 l1 ls b0 b1 b2 b3 b4 b5 b6 b7 bs K1 Z1 Dl I1 Q1 LH B1 HW;cases KJ:ET z.te []
  .have Y2:=AC<|Y.o.trans<|xj KJ;have z5:=Z2.o.c5;have CS:=AC<|Xw a (n:=5) zu x.at_ w2;go_wp2_with fail
   apply CS.o.mono;rintro e w3 ⟨⟨L',hL,rfl,hB⟩,hb3⟩;exact⟨rfl,KP.o.AU hb3,Or.inl ⟨5,_,Y2.o,zu,L',Ab KP.o.size hL,rfl,hB⟩⟩
  .have Y2:=AC<|Y.o.trans<|xd (by rw[KJ];simp);have NG:Ag (L+1) w2.drew G:=N1.la zx (by show w1.heap.size<=w2.heap.size;omega);have CJ:=AC<|Zq3 (d:=4) (B:=L+1) (m:=24) (k:=x.at_) Z2.o.drew I2.o.row1 Q2.o I2.o.blk.lt I2.o.new1 NG (fun j hj Am=>AP1.o j Am hj) zx le1;obtain⟨l0,l1,ls⟩:=xR.o.two;obtain⟨f0,f1,f2,sg⟩:=(I2.o.keep (wq:=w2) lr fun _ _ _=>rfl).blk.three;go_wp2
   go_region_with (first
    | (go_at_call 137
       apply CJ.o.mono;rintro e w3 (⟨hE,⟨L',hL,rfl,hB⟩,hb3⟩ | ⟨hne,p',c',F',rfl,hG⟩)
       .exact⟨rfl,K2.o.AU hb3,Or.inl ⟨4,_,Y2.o.trans<|xj hE,zu,L',Ab K2.o.size hL,rfl,hB⟩⟩
       have e0:=(I2.o.blk.of<|hG.same L I2.o.blk.lt (fun hj=>fw (I2.o.new1.ge _ hj))).three.1;have se:=(I2.o.blk.of<|hG.same L I2.o.blk.lt (fun hj=>fw (I2.o.new1.ge _ hj))).three.2.2.2;have HG:=AC hG;have sG:=AC hne;clear hG hne))
   all_goals
    have I3:=I2.o.add1 HG.o sG.o AP2.o AP3.o;have hr3:Rd (w3.setCell (zm L 0)<|sP p' (k.fa.length+1) c') b t r1 x1:=⟨(Ao.o.1.of<|HG.o.same b Ao.o.1.lt (fun hj=>fw (I2.o.new1.ge _ hj))).away _ _ zx _,Ao.o.2⟩;have K3:Ad b w0 (w3.setCell (zm L 0)<|sP p' (k.fa.length+1) c'):=(Ad.Py HG.o K2.o (fun j hj=>fw (I2.o.new1.ge j hj))).Ai _ _ _ Yr;have R:=AC<|AJ K3<|AJ I3<|AJ hr3<|Y2.o.trans<|xd sG.o;clear I3 hr3 K3;go_wp2
    refine Bg (by simp[results,results73,go_sem];try rfl) rfl ?_;exact⟨R.o.1,Or.inr ⟨_,_,_,_,_,_,_,_,_,_,x1,r1,R.o.2.2.2,rfl,R.o.2.1,R.o.2.2.1⟩⟩
variable {k1:Bk}
section
variable {t:Ay} {k:Bk} {x:Tk} {p n:Nat}
def gQ (t:Ay) (k:Bk) (x:Tk) (p:Nat):Re Bk:=if x.text.toList=ww then fK t k x p else Wu t k x p
def Z7z (h:Go.W.Oo x=true):Ve t (n+1) k x p= .ok (k,x,p):=by rw[Ve,xj h]
def Zp1 (h:Go.W.Oo x=false){e:Int×Nat}(hs:gQ t k x p= .error e):Ve t (n+1) k x p= .error e:=by rw[Ve,xd (by rw[h];simp)];exact Es hs
def Ztb (h:Go.W.Oo x=false)(hs:gQ t k x p= .ok (k1,x1,p1)):(∀ e,Nk t [59] x1 p1= .error e->Ve t (n+1) k x p= .error e)/\ ∀ u x2 p2,Nk t [59] x1 p1= .ok (u,x2,p2)->Ve t (n+1) k x p=Ve t n k1 x2 p2:=by
 rw[Ve,xd (by rw[h];simp),show(if x.text.toList=ww then fK t k x p else Wu t k x p)=gQ t k x p from rfl,Ee hs];exact⟨fun e he=>Es he,fun u x2 p2 he=>Ee he⟩
def Zy0 (h:gQ t k x p= .ok (k1,x1,p1)):k1.fa.length+k1.ru.length+k1.ck.length=k.fa.length+k.ru.length+k.ck.length+1:=by
 have lN: ∀ {α β:Type} {m:Re α} {f:α->Tk->Nat->Re β} {y:β} {x2:Tk} {p2:Nat},Bf m f= .ok (y,x2,p2)-> ∃ z x3 p3,f z x3 p3= .ok (y,x2,p2):=by
  intro α β m f y x2 p2 h;unfold Bf at h;split at h
  .cases h
  .exact⟨_,_,_,h⟩
 unfold gQ at h;split at h
 .unfold fK at h;obtain⟨_,_,_,h⟩:=lN h;obtain⟨_,_,_,h⟩:=lN h;split at h
  .cases h
  .cases h;simp;omega
 .unfold Wu at h;obtain⟨_,_,_,h⟩:=lN h;split at h
  .obtain⟨_,_,_,h⟩:=lN h;obtain⟨_,_,_,h⟩:=lN h;split at h
   .cases h
   .split at h
    .cases h
    .cases h;simp;omega
  .split at h
   .cases h
   .split at h
    .cases h
    .cases h;simp;omega
end
def Ybg (a:Nat->Addr) (b:Nat) (t:Ay) (Y:Re Bk) (w:Bb) (L:Nat) (wr:Bb):Prop:= ∃ (k:Bk) (p1:Bp) (c1:Nat) (p2:Bp) (c2:Nat) (p3:Bp) (c3:Nat) (F1 F2 F3:Cg) (x:Tk) (p:Nat),PH w wr L k p1 c1 p2 c2 p3 c3 F1 F2 F3/\MJ a b w t wr p x/\Ve t (73-(k.fa.length+k.ru.length+k.ck.length)) k x p=Y
def Z58 {a:Nat->Addr}{w:Bb}{b:Nat}{t:Ay}{p:Nat}{x:Tk}(Z:AZ a w)(h:Rd w b t p x)(hx:Jr x):
  Calls prog 34 #[zq b 0] w (JO a b t (Ie (Dx AV 4) w.heap.size) w<|QG t x p):=by
 have hg:=h.2.2.2;have ht:=h.2.1;have hb:=h.1.lt;obtain⟨W0,hW0⟩: ∃ W,w.alloc (.cells #[zn,zn,zn] 38)=W:=⟨_,rfl⟩;have hs0:W0.heap.size=w.heap.size+1:=by rw[<- hW0];simp
 have BW:AF (Bl w W0):=⟨hW0▸(AR _ w).alloc lr _⟩;have RB:AF (AO W0 w.heap.size #[zn,zn,zn] 38):=⟨hW0▸AO.new w _ _⟩;have Z0:=AC<|Z.be BW.o;have D0:AF (MJ a b W0 t (W0.alloc<|.cells #[zn,zn,zn] 38) p x):=⟨(h.of BW.o).alloc _,(Ad.refl b W0).alloc _,Z0.o.be<|(AR _ W0).alloc lr _,hx⟩;have B0:AF (PH W0 (W0.alloc<|.cells #[zn,zn,zn] 38) (w.heap.size+1) ⟨[],[],[]⟩ none 0 none 0 none 0 [] [] []):=⟨{blk:=(by have:=AO.new W0 #[zn,zn,zn] 38;rw[hs0]at this;exact this),row1:=AQ.nil,row2:=AQ.nil,row3:=AQ.nil,new1:=Ag.nil _ _,new2:=Ag.nil _ _,new3:=Ag.nil _ _,a12:=fun _ hj=>absurd hj Lj,a13:=fun _ hj=>absurd hj Lj,a23:=fun _ hj=>absurd hj Lj,le1:=zu,le2:=zu,le3:=by decide}⟩;have HW:=AC hW0;clear Z h hW0;go_in
 go_wp2
 go_loopw [4] (fun _ wr=>Ybg a b t (QG t x p) W0 (w.heap.size+1) wr) (fun _ wr=>73-(gT wr (w.heap.size+1) 0+gT wr (w.heap.size+1) 1+gT wr (w.heap.size+1) 2))
 .rw[HW.o];exact⟨⟨[],[],[]⟩,none,0,none,0,none,0,[],[],[],x,p,B0.o,D0.o,rfl⟩
 .clear D0 B0;obtain⟨k,p1,c1,p2,c2,p3,c3,F1,F2,F3,y,q,hI,hD,hY⟩:=hrel;obtain⟨b0,b1,b2,b3,b4,b5,b6,b7,bs⟩:=hD.1.1.eight;have m1:=Om hI.blk.three.1;have m2:=Om hI.blk.three.2.1;have m3:=Om hI.blk.three.2.2.1;have le1:=hI.le1;have le2:=hI.le2;have le3:=hI.le3;obtain⟨n,hn⟩: ∃ n,73-(k.fa.length+k.ru.length+k.ck.length)=n+1:=⟨72-(k.fa.length+k.ru.length+k.ck.length),zx⟩;rw[hn]at hY;have CE:=AC<|Zx1 y wr;unfold Jc at CE;have HI:=AC hI;have HD:=AC hD;have HY:=AC hY;generalize QG t x p=Y at*;clear hI hD hY;go_wp2_with fail
  apply mq CE.o;rintro w1 hb1;have hs1:=hb1.size;have D1:AF (MJ a b W0 t w1 q y):=⟨HD.o.1.of hb1,HD.o.2.1.AU hb1,HD.o.2.2.1.be hb1,HD.o.2.2.2⟩;have I1:=AC<|HI.o.keep hb1.size fun j _ h2=>hb1.block j h2;have RR:=AC<|RB.o.of<|D1.o.2.1.block _ zx zx;clear hb1 HD HI CE b0 b1 b2 b3 b4 b5 b6 b7 bs;cases he:Go.W.Oo y
  case' true=>
   have E:=AC<|HY.o.symm.trans<|Z7z he;obtain⟨f0,f1,f2,sg⟩:=I1.o.blk.three;obtain⟨y0,y1,y2,sy⟩:=RR.o.three;have GU:=I1.o.blk.lt;go_wp2
   refine Bg (by simp[results,results34,go_sem,y0,y1,y2];try rfl) rfl ?_;have hI:=I1.o;have hN:Ag w.heap.size w1 (F1++(F2++F3)):=⟨Mc.2 ⟨hI.new1.once,Mc.2 ⟨hI.new2.once,hI.new3.once,fun i hi j hj e=>hI.a23 i hi (e▸hj)⟩,fun i hi j hj e=>by
    subst e;rcases Aj.1 hj with h1 | h1
    .exact hI.a12 i hi h1
    .exact hI.a13 i hi h1⟩,fun j hj=>by
    rcases Aj.1 hj with h1 | h1
    .have:=hI.new1.ge j h1;omega
    .rcases Aj.1 h1 with h2 | h2
     .have:=hI.new2.ge j h2;omega
     .have:=hI.new3.ge j h2;omega,fun j hj=>by
    rcases Aj.1 hj with h1 | h1
    .exact hI.new1.lt j h1
    .rcases Aj.1 h1 with h2 | h2
     .exact hI.new2.lt j h2
     .exact hI.new3.lt j h2⟩
   exact⟨(Ad.la BW.o D1.o.2.1).r3 lr,Or.inr ⟨_,k,y,q,E.o,rfl,⟨[sP p1 k.fa.length c1,sP p2 k.ru.length c2,sP p3 k.ck.length c3],F1++(F2++F3),rfl,⟨_,_,_,F1,F2,F3,rfl,AQ.sb (Bz.sb (ty:=AV) 4) _ _ _ _ _ hI.row1 fun j hj=>Vd (fw (hI.new1.ge j hj)),AQ.sb (DI.sb (ty:=AV) 4) _ _ _ _ _ hI.row2 fun j hj=>Vd (fw (hI.new2.ge j hj)),AQ.sb (Ew.sb (ty:=AV) 4) _ _ _ _ _ hI.row3 fun j hj=>Vd (fw (hI.new3.ge j hj)),rfl⟩,hN.la lr zw⟩,D1.o.1.Gz<|Vd zx⟩⟩
  obtain⟨b0,b1,b2,b3,b4,b5,b6,b7,bs⟩:=D1.o.1.1.eight;by_cases hc:y.text.toList=ww
  .have g1:(y.text.toList==[99,104,101,99,107])=true:=by rw[DR];exact hc
   have ST:AF (gQ t k y q=fK t k y q):=⟨xj hc⟩;have CS:=AC<|Z59 D1.o.2.2.1 D1.o.1 D1.o.2.1 zx zx I1.o;clear hc;go_wp2_with fail
   apply CS.o.mono;rintro e w2 ⟨hk2,⟨n2,r2,hy,Hl,L',hL,rfl,hB⟩ | ⟨k2,q1,d1,q2,d2,q3,d3,G1,G2,G3,x2,r2,hy,rfl,ou,hr2⟩⟩
   .exact⟨rfl,Ad.la BW.o hk2,Or.inl ⟨n2,r2,HY.o.symm.trans<|Zp1 he<|ST.o.trans hy,Hl,L',zx,rfl,hB⟩⟩
   have M:=AC<|Ztb (n:=n) he<|ST.o.trans hy;have mo:=Zy0<|ST.o.trans hy;have Z2:=AC<|Z0.o.keeps hk2 hg;have CW:=AC<|jc ⟨#[59]⟩ Z2.o hr2;rw[show(⟨#[59]⟩:Ay).toList=[59]from ZJ [59]]at CW;have R2:=AC<|AJ hk2<|AJ ou hr2;clear hk2 hy hr2 ou CS ST D1 I1 b0 b1 b2 b3 b4 b5 b6 b7 bs;go_wp2_with fail
   apply CW.o.mono;rintro e w3 ⟨hk3,⟨n3,r3,hy,dV,L',hL,rfl,hB⟩ | ⟨v,u,x3,r3,hy,rfl,hv,hr3⟩⟩
   .exact⟨rfl,Ad.la BW.o<|R2.o.1.trans hk3,Or.inl ⟨n3,r3,HY.o.symm.trans<|M.o.1 _ hy,dV,L',fw (R2.o.1.size),rfl,hB⟩⟩
   obtain rfl:v= .tuple #[]:=hv;have I3:=R2.o.2.1.keep hk3.size fun j h1 h2=>hk3.block j h2 zx;have l1:=Om I3.blk.three.1;have l2:=Om I3.blk.three.2.1;have l3:=Om I3.blk.three.2.2.1;have R3:=AC<|AJ I3<|AJ (show MJ a b W0 t w3 r3 x3 from⟨hr3,R2.o.1.trans hk3,Z2.o.keeps hk3 hg,qI ht hy⟩)<|HY.o.symm.trans<|M.o.2 _ _ _ hy;have lb1:=I3.le1;have lb2:=I3.le2;have lb3:=I3.le3;clear I3 hk3 hy hr3;go_wp2_with fail
   refine⟨⟨k2,_,_,_,_,_,_,_,_,_,x3,r3,R3.o.1,R3.o.2.1,?_⟩,?_⟩
   .rw[R3.o.2.2];congr 1
    omega
   .rw[l1,l2,l3,m1,m2,m3];omega
  .have g1:(y.text.toList==[99,104,101,99,107])=false:=by rw[BJ];exact hc
   have ST:AF (gQ t k y q=Wu t k y q):=⟨xd hc⟩;have CS:=AC<|Yaj D1.o.2.2.1 D1.o.1 D1.o.2.2.2 D1.o.2.1 zx zx I1.o;clear hc;go_wp2_with fail
   apply CS.o.mono;rintro e w2 ⟨hk2,⟨n2,r2,hy,Hl,L',hL,rfl,hB⟩ | ⟨k2,q1,d1,q2,d2,q3,d3,G1,G2,G3,x2,r2,hy,rfl,ou,hr2⟩⟩
   .exact⟨rfl,Ad.la BW.o hk2,Or.inl ⟨n2,r2,HY.o.symm.trans<|Zp1 he<|ST.o.trans hy,Hl,L',zx,rfl,hB⟩⟩
   have M:=AC<|Ztb (n:=n) he<|ST.o.trans hy;have mo:=Zy0<|ST.o.trans hy;have Z2:=AC<|Z0.o.keeps hk2 hg;have CW:=AC<|jc ⟨#[59]⟩ Z2.o hr2;rw[show(⟨#[59]⟩:Ay).toList=[59]from ZJ [59]]at CW;have R2:=AC<|AJ hk2<|AJ ou hr2;clear hk2 hy hr2 ou CS ST D1 I1 b0 b1 b2 b3 b4 b5 b6 b7 bs;go_wp2_with fail
   apply CW.o.mono;rintro e w3 ⟨hk3,⟨n3,r3,hy,dV,L',hL,rfl,hB⟩ | ⟨v,u,x3,r3,hy,rfl,hv,hr3⟩⟩
   .exact⟨rfl,Ad.la BW.o<|R2.o.1.trans hk3,Or.inl ⟨n3,r3,HY.o.symm.trans<|M.o.1 _ hy,dV,L',fw (R2.o.1.size),rfl,hB⟩⟩
   obtain rfl:v= .tuple #[]:=hv;have I3:=R2.o.2.1.keep hk3.size fun j h1 h2=>hk3.block j h2 zx;have l1:=Om I3.blk.three.1;have l2:=Om I3.blk.three.2.1;have l3:=Om I3.blk.three.2.2.1;have R3:=AC<|AJ I3<|AJ (show MJ a b W0 t w3 r3 x3 from⟨hr3,R2.o.1.trans hk3,Z2.o.keeps hk3 hg,qI ht hy⟩)<|HY.o.symm.trans<|M.o.2 _ _ _ hy;have lb1:=I3.le1;have lb2:=I3.le2;have lb3:=I3.le3;clear I3 hk3 hy hr3;go_wp2_with fail
   refine⟨⟨k2,_,_,_,_,_,_,_,_,_,x3,r3,R3.o.1,R3.o.2.1,?_⟩,?_⟩
   .rw[R3.o.2.2];congr 1
    omega
   .rw[l1,l2,l3,m1,m2,m3];omega
end Go.W
