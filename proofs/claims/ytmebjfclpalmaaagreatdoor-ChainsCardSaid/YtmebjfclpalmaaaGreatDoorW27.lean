import Derived.Test.YtmebjfclpalmaaaGreatDoorW26
set_option maxRecDepth 100000
set_option maxHeartbeats 8000000
set_option linter.unusedSimpArgs false
open Go.Proofs Go.RowKit Go.W Tryz
namespace Go.P
variable {a:Nat->Addr}{w w0 w2 w3:World}{b p L c1 c2 c3 c':Nat}{t:ByteArray}{x:Tk}{k:Bk}{p1 p2 p3 p':Option Addr}{F1 F2 F3 F':List Nat}
theorem Zt1:Zaq 135:=Zam func135 (by kernel_rfl) rfl
theorem Zon (Z:Zao a w)(h:Rd w b t p x):
  Calls prog 86 #[.pointer (some ⟨b,0,none⟩)] w (Ze6 a b t (Zkd 115 4 (Zbs Zad 4) w.heap.size) w (Zjx t x p)):=by
 have hmf:=Zgm;have hg:=h.2.2.2;have ht:=h.2.1;have CW:=Zaa (Zjc ⟨#[105,102]⟩ Z h);rw[show(⟨#[105,102]⟩:ByteArray).toList=[105,102]from Zla [105,102]]at CW;have F:Box (Zjx t x p=Zbg (Zh5 t [105,102] x p) fun _ x1 p1=>Zor t (Znk t) [111,114] 4 5 [] x1 p1):=⟨rfl⟩;have ZW:=Zaa Z;clear Z h;go_in
 go_wp2_with fail
 refine CW.out.mono ?_;rintro e w1 ⟨hk1,⟨n,r,hy,hn,L,hL,rfl,hB⟩ | ⟨v,y,x1,r1,hy,rfl,hv,hr1⟩⟩
 ·exact⟨rfl,hk1,Or.inl ⟨n,r,F.out.trans (Zai hy),hn,L,hL,rfl,hB⟩⟩
 obtain rfl:v= .tuple #[]:=hv;have Z1:=ZW.out.keeps hk1 hg;have C:=Zaa (Zp8 (d:=4) (f:=Znk t) Zt1 (first:=#[.pointer (some ⟨b,0,none⟩)]) (cap:=#[]) (m:=4) ⟨#[111,114]⟩ Z1 hr1 (Zlb ht hy) (by omega) fun u q y hu=>Zuu hu.2.2.1 hu.1 hu.2.2.2);rw[show(⟨#[111,114]⟩:ByteArray).toList=[111,114]from Zla [111,114]]at C;have Y1:=Zaa (F.out.trans (Zas hy));have K1:=Zaa hk1;have hs1:=hk1.size;clear hk1 hy hr1 Z1 CW F;go_wp2_with fail
 refine C.out.mono ?_;rintro e w2 ⟨hk2,⟨n,r,hy,hn,L,hL,rfl,hB⟩ | ⟨v,l,x2,r2,hy,rfl,⟨G,hR,hN⟩,hr2⟩⟩
 ·exact⟨rfl,K1.out.trans hk2,Or.inl ⟨n,r,Y1.out.trans hy,hn,L,by omega,rfl,hB⟩⟩
 obtain⟨p1,cc,rfl⟩:=Zag.form hR;have R:=Zaa (Yda (K1.out.trans hk2) (Yda hr2 (Yda (Y1.out.trans hy) (Yda hR hN))));clear hk2 hy hr2 hR hN;go_wp2
 go_ret
 obtain⟨hk,hr,hy,hR,hN⟩:=R.out;exact⟨hk,Or.inr ⟨_,l,x2,r2,hy,rfl,⟨G,hR,hN.later hs1 lr⟩,hr⟩⟩
structure Zda (w wr:World) (L:Nat) (k:Bk) (p1:Option Addr) (c1:Nat) (p2:Option Addr) (c2:Nat) (p3:Option Addr) (c3:Nat) (F1 F2 F3:List Nat):Prop where
 blk:Blk wr L #[.slice p1 k.facts.length c1,.slice p2 k.rules.length c2,.slice p3 k.checks.length c3] 45
 row1:Zag 112 2 (Zbk Zad 4) wr (.slice p1 k.facts.length c1) k.facts F1
 row2:Zag 115 4 (Zbs Zad 4) wr (.slice p2 k.rules.length c2) k.rules F2
 row3:Zag 72 1 (Zbw Zad 4) wr (.slice p3 k.checks.length c3) k.checks F3
 new1:Za7 (L+1) wr F1
 new2:Za7 (L+1) wr F2
 new3:Za7 (L+1) wr F3
 a12: ∀ j,j∈F1->j∉F2
 a13: ∀ j,j∈F1->j∉F3
 a23: ∀ j,j∈F2->j∉F3
 le1:k.facts.length<=24
 le2:k.rules.length<=24
 le3:k.checks.length<=24
theorem Zda.keep {wr wq:World}(h:Zda w wr L k p1 c1 p2 c2 p3 c3 F1 F2 F3)(hs:wr.heap.size<=wq.heap.size)(e: ∀ j,L<=j->j < wr.heap.size->wq.heap[j]?=wr.heap[j]?):Zda w wq L k p1 c1 p2 c2 p3 c3 F1 F2 F3:=
 ⟨h.blk.of (e _ lr h.blk.lt),Zag.stable (Zbk.stable (ty:=Zad) 4) _ _ _ _ _ h.row1 fun j hj=>e j (by have:=h.new1.ge j hj;omega) (h.new1.lt j hj),Zag.stable (Zbs.stable (ty:=Zad) 4) _ _ _ _ _ h.row2 fun j hj=>e j (by have:=h.new2.ge j hj;omega) (h.new2.lt j hj),Zag.stable (Zbw.stable (ty:=Zad) 4) _ _ _ _ _ h.row3 fun j hj=>e j (by have:=h.new3.ge j hj;omega) (h.new3.lt j hj),h.new1.later lr hs,h.new2.later lr hs,h.new3.later lr hs,h.a12,h.a13,h.a23,h.le1,h.le2,h.le3⟩
theorem Zda.add1 {G:List Nat}{z:A}(h:Zda w0 w2 L k p1 c1 p2 c2 p3 c3 F1 F2 F3)(g:Z5k 112 2 (Zbk Zad 4) (L+1) w2 w3 F1 G (.slice p' (k.facts.length+1) c') (k.facts++[z]) F')(hne:k.facts.length≠24)(d2: ∀ j,j∈G->j∉F2)(d3: ∀ j,j∈G->j∉F3):
  Zda w0 (w3.setCell ⟨L,0,none⟩ (.slice p' (k.facts.length+1) c')) L {k with facts:=k.facts++[z]} p' c' p2 c2 p3 c3 F' F2 F3:=by
 have hl:=h.blk.of (g.same L h.blk.lt (fun hj=>by have:=h.new1.ge _ hj;omega));have l1:=h.le1
 exact{blk:=(by have:=hl.set 0 (.slice p' (k.facts.length+1) c');simpa using this),row1:=(by have:=Zag.stable (Zbk.stable (ty:=Zad) 4) _ (w3.setCell ⟨L,0,none⟩ (.slice p' (k.facts.length+1) c')) _ _ _ g.row (fun j hj=>Ydg _ _ _ j (by show j≠L;have:=g.new.ge j hj;omega));simpa using this),row2:=Zag.stable (Zbs.stable (ty:=Zad) 4) _ _ _ _ _ h.row2 (fun j hj=>(Ydg _ _ _ j (by show j≠L;have:=h.new2.ge j hj;omega)).trans (g.same j (h.new2.lt j hj) (fun hj2=>h.a12 j hj2 hj))),row3:=Zag.stable (Zbw.stable (ty:=Zad) 4) _ _ _ _ _ h.row3 (fun j hj=>(Ydg _ _ _ j (by show j≠L;have:=h.new3.ge j hj;omega)).trans (g.same j (h.new3.lt j hj) (fun hj2=>h.a13 j hj2 hj))),new1:=g.new.later lr (by simp),new2:=h.new2.later lr (by have:=g.size;simp;omega),new3:=h.new3.later lr (by have:=g.size;simp;omega),a12:=(fun j hj hj2=>by
  rcases g.sub j hj with h1 | h1 | h1
  ·exact h.a12 j h1 hj2
  ·exact d2 j h1 hj2
  ·have:=h.new2.lt j hj2;omega),a13:=(fun j hj hj2=>by
  rcases g.sub j hj with h1 | h1 | h1
  ·exact h.a13 j h1 hj2
  ·exact d3 j h1 hj2
  ·have:=h.new3.lt j hj2;omega),a23:=h.a23,le1:=(by simp;omega),le2:=h.le2,le3:=h.le3}
theorem Zda.add2 {G:List Nat}{z:R}(h:Zda w0 w2 L k p1 c1 p2 c2 p3 c3 F1 F2 F3)(g:Z5k 115 4 (Zbs Zad 4) (L+1) w2 w3 F2 G (.slice p' (k.rules.length+1) c') (k.rules++[z]) F')(hne:k.rules.length≠24)(d1: ∀ j,j∈G->j∉F1)(d3: ∀ j,j∈G->j∉F3):
  Zda w0 (w3.setCell ⟨L,1,none⟩ (.slice p' (k.rules.length+1) c')) L {k with rules:=k.rules++[z]} p1 c1 p' c' p3 c3 F1 F' F3:=by
 have hl:=h.blk.of (g.same L h.blk.lt (fun hj=>by have:=h.new2.ge _ hj;omega));have l2:=h.le2
 exact{blk:=(by have:=hl.set 1 (.slice p' (k.rules.length+1) c');simpa using this),row1:=Zag.stable (Zbk.stable (ty:=Zad) 4) _ _ _ _ _ h.row1 (fun j hj=>(Ydg _ _ _ j (by show j≠L;have:=h.new1.ge j hj;omega)).trans (g.same j (h.new1.lt j hj) (fun hj2=>h.a12 j hj hj2))),row2:=(by have:=Zag.stable (Zbs.stable (ty:=Zad) 4) _ (w3.setCell ⟨L,1,none⟩ (.slice p' (k.rules.length+1) c')) _ _ _ g.row (fun j hj=>Ydg _ _ _ j (by show j≠L;have:=g.new.ge j hj;omega));simpa using this),row3:=Zag.stable (Zbw.stable (ty:=Zad) 4) _ _ _ _ _ h.row3 (fun j hj=>(Ydg _ _ _ j (by show j≠L;have:=h.new3.ge j hj;omega)).trans (g.same j (h.new3.lt j hj) (fun hj2=>h.a23 j hj2 hj))),new1:=h.new1.later lr (by have:=g.size;simp;omega),new2:=g.new.later lr (by simp),new3:=h.new3.later lr (by have:=g.size;simp;omega),a12:=(fun j hj hj2=>by
  rcases g.sub j hj2 with h1 | h1 | h1
  ·exact h.a12 j hj h1
  ·exact d1 j h1 hj
  ·have:=h.new1.lt j hj;omega),a13:=h.a13,a23:=(fun j hj hj2=>by
  rcases g.sub j hj with h1 | h1 | h1
  ·exact h.a23 j h1 hj2
  ·exact d3 j h1 hj2
  ·have:=h.new3.lt j hj2;omega),le1:=h.le1,le2:=(by simp;omega),le3:=h.le3}
theorem Zda.add3 {G:List Nat}{z:(List R)}(h:Zda w0 w2 L k p1 c1 p2 c2 p3 c3 F1 F2 F3)(g:Z5k 72 1 (Zbw Zad 4) (L+1) w2 w3 F3 G (.slice p' (k.checks.length+1) c') (k.checks++[z]) F')(hne:k.checks.length≠24)(d1: ∀ j,j∈G->j∉F1)(d2: ∀ j,j∈G->j∉F2):
  Zda w0 (w3.setCell ⟨L,2,none⟩ (.slice p' (k.checks.length+1) c')) L {k with checks:=k.checks++[z]} p1 c1 p2 c2 p' c' F1 F2 F':=by
 have hl:=h.blk.of (g.same L h.blk.lt (fun hj=>by have:=h.new3.ge _ hj;omega));have l3:=h.le3
 exact{blk:=(by have:=hl.set 2 (.slice p' (k.checks.length+1) c');simpa using this),row1:=Zag.stable (Zbk.stable (ty:=Zad) 4) _ _ _ _ _ h.row1 (fun j hj=>(Ydg _ _ _ j (by show j≠L;have:=h.new1.ge j hj;omega)).trans (g.same j (h.new1.lt j hj) (fun hj2=>h.a13 j hj hj2))),row2:=Zag.stable (Zbs.stable (ty:=Zad) 4) _ _ _ _ _ h.row2 (fun j hj=>(Ydg _ _ _ j (by show j≠L;have:=h.new2.ge j hj;omega)).trans (g.same j (h.new2.lt j hj) (fun hj2=>h.a23 j hj hj2))),row3:=(by have:=Zag.stable (Zbw.stable (ty:=Zad) 4) _ (w3.setCell ⟨L,2,none⟩ (.slice p' (k.checks.length+1) c')) _ _ _ g.row (fun j hj=>Ydg _ _ _ j (by show j≠L;have:=g.new.ge j hj;omega));simpa using this),new1:=h.new1.later lr (by have:=g.size;simp;omega),new2:=h.new2.later lr (by have:=g.size;simp;omega),new3:=g.new.later lr (by simp),a12:=h.a12,a13:=(fun j hj hj2=>by
  rcases g.sub j hj2 with h1 | h1 | h1
  ·exact h.a13 j hj h1
  ·exact d1 j h1 hj
  ·have:=h.new1.lt j hj;omega),a23:=(fun j hj hj2=>by
  rcases g.sub j hj2 with h1 | h1 | h1
  ·exact h.a23 j hj h1
  ·exact d2 j h1 hj
  ·have:=h.new2.lt j hj;omega),le1:=h.le1,le2:=h.le2,le3:=(by simp;omega)}
def Yag (a:Nat->Addr) (b:Nat) (t:ByteArray) (w0:World) (L:Nat) (Y:Re Bk) (e:Ending) (w':World):Prop:=
 Zah b w0 w'/\((∃ n p,Y= .error (n,p)/\n≠0/\Zfv a n p w0.heap.size e w')\/ ∃ k p1 c1 p2 c2 p3 c3 F1 F2 F3 x q,Y= .ok (k,x,q)/\e= .returned (.tuple #[])/\Zda w0 w' L k p1 c1 p2 c2 p3 c3 F1 F2 F3/\Rd w' b t q x)
theorem Z3t {d:Nat}{p:Option Addr}{c:Nat}{l:List R}{F:List Nat}(h:Zag 115 4 (Zbs Zad d) w (.slice p l.length c) l F):Zbw Zad d w [.slice p l.length c] l F:=⟨_,rfl,h⟩
theorem Z03 (Z:Zao a w)(h:Rd w b t p x)(hK:Zah b w0 w)(hb:b < w0.heap.size)(hL0:w0.heap.size<=L)(hI:Zda w0 w L k p1 c1 p2 c2 p3 c3 F1 F2 F3):
  Calls prog 80 #[.pointer (some ⟨b,0,none⟩),.pointer (some ⟨L,0,none⟩)] w (Yag a b t w0 L (Znq t k x p)):=by
 have hg:=h.2.2.2;have ht:=h.2.1;have CT:=Zaa (Zc8 Z h);have F:Box (Znq t k x p=Zbg (Zdc t x p) fun _ x1 p1=>Zbg (Zjx t x1 p1) fun l x2 p2=>if k.checks.length=24 then .error (4,x.at_)else .ok ({k with checks:=k.checks++[l]},x2,p2)):=⟨rfl⟩;have ZW:=Zaa Z;have HI:=Zaa hI;have HK:=Zaa hK;have hlL:=hI.blk.lt;have hs0:=hK.size;have le3:=hI.le3;clear Z h hI hK;go_in
 go_wp2_with fail
 refine CT.out.mono ?_;rintro e w1 ⟨hk1,⟨n,r,hy,hn,L',hL,rfl,hB⟩ | ⟨v,y,x1,r1,hy,rfl,hv,hr1⟩⟩
 ·exact⟨rfl,HK.out.trans hk1,Or.inl ⟨n,r,F.out.trans (Zai hy),hn,L',by omega,rfl,hB⟩⟩
 obtain rfl:v=Zm2 y:=hv;obtain⟨hx1,rfl⟩:=Zeq ht hy;have Y1:=Zaa (F.out.trans (Zas hy));have K1:=Zaa (HK.out.trans hk1).drew;have Z1:=Zaa (ZW.out.keeps hk1 hg).drew;have HR1:=Zaa hr1.drew;have hs1:w.heap.size<=w1.drew.heap.size:=hk1.size;have I1:Box (Zda w0 w1.drew L k p1 c1 p2 c2 p3 c3 F1 F2 F3):=⟨HI.out.keep hk1.size fun j h1 h2=>hk1.block j h2 (by omega)⟩;have CB:=Zaa (Zon Z1.out HR1.out);obtain⟨f0,f1,f2,sg⟩:=(HI.out.keep (wq:=w1) hk1.size fun j h1 h2=>hk1.block j h2 (by omega)).blk.three;have fa:=Ybf y;clear hk1 hy hr1 CT F HI HK ZW;unfold Zm2;go_wp2
 go_region_with (first
  | (go_at_call 86
     refine CB.out.mono ?_;rintro e w2 ⟨hk2,⟨n2,r2,hy,hn2,L',hL,rfl,hB⟩ | ⟨v,l,x2,r2,hy,rfl,⟨G,hR,hN⟩,hr2⟩⟩
     ·exact⟨rfl,K1.out.trans hk2,Or.inl ⟨n2,r2,Y1.out.trans (Zai hy),hn2,L',by omega,rfl,hB⟩⟩
     obtain⟨pp,cc,rfl⟩:=Zag.form hR;have I2:=I1.out.keep hk2.size (fun j h1 h2=>hk2.block j h2 (by omega));have hs2:=hk2.size;have Z2:=Z1.out.keeps hk2 hg;have CJ:=Zaa (Zub (d:=4) (B:=L+1) (m:=24) (k:=y.at_) Z2 I2.row3 (Z3t hR) I2.blk.lt I2.new3 (hN.later (by omega) lr) (fun j hj hj2=>by have:=I1.out.new3.lt j hj;have:=hN.ge j hj2;omega) (by omega) le3);have D1:Box (∀ j,j∈G->j∉F1):=⟨fun j hj hj2=>by have:=I1.out.new1.lt j hj2;have:=hN.ge j hj;omega⟩;have D2:Box (∀ j,j∈G->j∉F2):=⟨fun j hj hj2=>by have:=I1.out.new2.lt j hj2;have:=hN.ge j hj;omega⟩;have HP:=Zaa (Y1.out.trans (Zas hy));have KK2:=Zaa (K1.out.trans hk2);have HH2:=Zaa (Yda I2 (Yda hr2 Z2));obtain⟨e0,e1,e2,se⟩:=I2.blk.three;clear hk2 hy hR hN hr2 I2 Z2)
  | (go_at_call 130
     refine CJ.out.mono ?_;rintro e w3 (⟨hE,⟨L',hL,rfl,hB⟩,hb3⟩ | ⟨hne,p',c',F',rfl,hG⟩)
     ·exact⟨rfl,KK2.out.ofBelow hb3,Or.inl ⟨4,_,HP.out.trans (if_pos hE),by decide,L',Ydc KK2.out.size hL,rfl,hB⟩⟩
     have LB3:=HH2.out.1.blk.of (hG.same L HH2.out.1.blk.lt (fun hj=>by have:=HH2.out.1.new3.ge _ hj;omega));obtain⟨e0,e1,e2,se⟩:=LB3.three;have HG:=Zaa hG;clear hG LB3))
 all_goals
  have I3:=HH2.out.1.add3 HG.out hne D1.out D2.out;have hr3:Rd (w3.setCell ⟨L,2,none⟩ (.slice p' (k.checks.length+1) c')) b t r2 x2:=⟨(HH2.out.2.1.1.of (HG.out.same b HH2.out.2.1.1.lt (fun hj=>by have:=HH2.out.1.new3.ge _ hj;omega))).away _ _ (by omega) _,HH2.out.2.1.2⟩;have K3:Zah b w0 (w3.setCell ⟨L,2,none⟩ (.slice p' (k.checks.length+1) c')):=(Zah.grew HG.out KK2.out (fun j hj=>by have:=HH2.out.1.new3.ge j hj;omega)).setNew _ _ _ hL0;have R:=Zaa (Yda K3 (Yda I3 (Yda hr3 (HP.out.trans (if_neg hne)))));clear I3 hr3 K3;go_wp2_with fail
  exact⟨rfl,_,(by simp[results,results80,go_sem];try rfl),R.out.1,Or.inr ⟨_,_,_,_,_,_,_,_,_,_,x2,r2,R.out.2.2.2,rfl,R.out.2.1,R.out.2.2.1⟩⟩
end Go.P
namespace Go.W
variable {z:A}{x1:Tk}{p1:Nat}
section
variable {t:ByteArray} {k:Bk} {x:Tk} {p:Nat}
theorem Z0g {e:Int×Nat}(h:Zpm t x p= .error e):Zcg t k x p= .error e:=Zai h
theorem Z23 (h:Zpm t x p= .ok (z,x1,p1))(hm:x1.text.toList≠[60,45]):Zcg t k x p=if Zc4 z.terms []=false then .error (5,x.at_)else if k.facts.length=24 then .error (4,x.at_)else .ok ({k with facts:=k.facts++[z]},x1,p1):=by
 unfold Zcg;rw[Zas h,if_neg hm]
theorem Z24 (h:Zpm t x p= .ok (z,x1,p1))(hm:x1.text.toList=[60,45]):Zcg t k x p=Zbg (Zdc t x1 p1) fun _ x2 p2=>Zbg (Znk t x2 p2) fun r x3 p3=>if Zc4 z.terms r.body=false then .error (5,x.at_)else if k.rules.length=24 then .error (4,x.at_)else .ok ({k with rules:=k.rules++[{r with head:=z}]},x3,p3):=by
 unfold Zcg;rw[Zas h,if_pos hm]
end
end Go.W
namespace Go.P
variable {d:Nat}{w:World}{F:List Nat}
theorem Z08 {r:R}{v0 v1 v2 v3:Value}(h:Zbs Zad d w [v0,v1,v2,v3] r F): ∃ Fh Fb Fg,Zeu Zad d w v2 r.body Fb/\Zfw Zad d w v3 r.guards Fg/\F=Fh++(Fb++Fg):=by
 obtain⟨hv,bv,gv,Fh,Fb,Fg,he,hh,hb,hg,rfl⟩:=h;obtain⟨tv,rfl,_⟩:=hh;simp only[Ydv,Ydy,List.cons.injEq,and_true]at he;obtain⟨_,_,rfl,rfl⟩:=he;exact⟨Fh,Fb,Fg,hb,hg,rfl⟩
theorem Zbk.row {z:A}{p:Option Addr}{c:Nat}(h:Zbk Zad d w [.string z.name,.slice p z.terms.length c] z F):Zkf Zad d w (.slice p z.terms.length c) z.terms F:=by
 obtain⟨tv,he,_,h⟩:=h;cases he;exact h
theorem Z4m {a:Nat->Addr}{w0:World}{b L:Nat}{t:ByteArray}{p:Nat}{x:Tk}{k:Bk}{p1 p2 p3:Option Addr}{c1 c2 c3:Nat}{F1 F2 F3:List Nat}(Z:Zao a w)(h:Rd w b t p x)(hx:Zm5 x)(hK:Zah b w0 w)(hb:b < w0.heap.size)(hL0:w0.heap.size<=L)(hI:Zda w0 w L k p1 c1 p2 c2 p3 c3 F1 F2 F3):
  Calls prog 81 #[.pointer (some ⟨b,0,none⟩),.pointer (some ⟨L,0,none⟩)] w (Yag a b t w0 L (Zcg t k x p)):=by
 have hg:=h.2.2.2;have ht:=h.2.1;obtain⟨b0,b1,b2,b3,b4,b5,b6,b7,bs⟩:=h.1.eight;have CA:=Zaa (Zut Z h hx);have ZW:=Zaa Z;have HI:=Zaa hI;have HK:=Zaa hK;have hlL:=hI.blk.lt;have hs0:=hK.size;have le1:=hI.le1;have le2:=hI.le2;clear Z h hI hK;go_in
 go_wp2_with fail
 refine CA.out.mono ?_;rintro e w1 ⟨hk1,⟨n,r,hy,hn,L',hL,rfl,hB⟩ | ⟨v,z,x1,r1,hy,rfl,⟨vs,G,rfl,hQ,hN⟩,hr1⟩⟩
 ·exact⟨rfl,HK.out.trans hk1,Or.inl ⟨n,r,Z0g hy,hn,L',by omega,rfl,hB⟩⟩
 obtain⟨pz,cz,rfl⟩:=Zbk.vals hQ;have HY:=Zaa hy;have hs1:=hk1.size;have K1:=Zaa ((HK.out.trans hk1).alloc (.cells #[.string z.name,.slice pz z.terms.length cz] 112));have B1:=Zaa ((Ydb _ w1).alloc lr (.cells #[.string z.name,.slice pz z.terms.length cz] 112));have Z1:=Zaa ((ZW.out.keeps hk1 hg).below B1.out);have HR1:=Zaa (hr1.of B1.out);have LH:=Zaa (Blk.new w1 #[.string z.name,.slice pz z.terms.length cz] 112);have I1:=Zaa ((HI.out.keep hk1.size (fun j h1 h2=>hk1.block j h2 (by omega))).keep B1.out.size (fun j _ h2=>B1.out.block j h2));have Q1:=Zaa (Zbk.stable (ty:=Zad) 4 _ _ _ _ _ hQ (fun j hj=>B1.out.block j (hN.lt j hj)));have N1:=hN;have AP0:Box ((∀ j,j∈F1->j < w.heap.size)/\(∀ j,j∈F2->j < w.heap.size)/\ ∀ j,j∈F3->j < w.heap.size):=⟨HI.out.new1.lt,HI.out.new2.lt,HI.out.new3.lt⟩;have AP1:Box (∀ j,j∈G->j∉F1):=⟨fun j hj hj2=>by have:=HI.out.new1.lt j hj2;have:=hN.ge j hj;omega⟩;have AP2:Box (∀ j,j∈G->j∉F2):=⟨fun j hj hj2=>by have:=HI.out.new2.lt j hj2;have:=hN.ge j hj;omega⟩;have AP3:Box (∀ j,j∈G->j∉F3):=⟨fun j hj hj2=>by have:=HI.out.new3.lt j hj2;have:=hN.ge j hj;omega⟩;have hsA:(w1.alloc (.cells #[.string z.name,.slice pz z.terms.length cz] 112)).heap.size=w1.heap.size+1:=by simp
 obtain⟨W,hW⟩: ∃ W,w1.alloc (.cells #[.string z.name,.slice pz z.terms.length cz] 112)=W:=⟨_,rfl⟩;rw[hW]at K1 B1 Z1 HR1 LH I1 Q1 hsA;have HW:=Zaa hW;clear hk1 hy hQ hr1 HI HK ZW CA b0 b1 b2 b3 b4 b5 b6 b7 bs hW hN;obtain⟨b0,b1,b2,b3,b4,b5,b6,b7,bs⟩:=HR1.out.1.eight;rw[<- HW.out]at b0 b1 b2 b3 b4 b5 b6 b7 bs;by_cases hm:x1.text.toList=[60,45]
 ·have g1:(x1.text.toList==[60,45])=true:=by rw[Yfb];exact hm
  have Y:=Zaa (Z24 (k:=k) HY.out hm);clear hm;go_wp2_with fail
  rw[HW.out];refine(Zc8 Z1.out HR1.out).mono ?_;rintro e w2 ⟨hk2,⟨n,r,hy,hn,L',hL,rfl,hB⟩ | ⟨v,y2,x2,r2,hy,rfl,hv,hr2⟩⟩
  ·exact⟨rfl,K1.out.trans hk2,Or.inl ⟨n,r,Y.out.trans (Zai hy),hn,L',by omega,rfl,hB⟩⟩
  obtain rfl:v=Zm2 y2:=hv;have hx2:=(Zeq ht hy).1;have Y2:=Zaa (Y.out.trans (Zas hy));have hs2:=hk2.size;have K2:=Zaa (K1.out.trans hk2);have Z2:=Zaa (Z1.out.keeps hk2 hg);have HR2:=Zaa hr2;have I2:=Zaa (I1.out.keep hk2.size (fun j h1 h2=>hk2.block j h2 (by omega)));have Q2:=Zaa (Zbk.stable (ty:=Zad) 4 _ _ _ _ _ Q1.out (fun j hj=>hk2.block j (by have:=N1.lt j hj;omega) (by have:=N1.ge j hj;omega)));have LH2:=Zaa (LH.out.of (hk2.block _ (by omega) (by omega)));clear hk2 hy hr2 Y b0 b1 b2 b3 b4 b5 b6 b7 bs K1 Z1 HR1 I1 Q1 LH B1 HW;go_wp2_with fail
  refine(Zuu Z2.out HR2.out hx2).mono ?_;rintro e w3 ⟨hk3,⟨n,r,hy,hn,L',hL,rfl,hB⟩ | ⟨v,r,x3,r3,hy,rfl,⟨vs,G3,rfl,hQ,hN3⟩,hr3⟩⟩
  ·exact⟨rfl,K2.out.trans hk3,Or.inl ⟨n,r,Y2.out.trans (Zai hy),hn,L',by omega,rfl,hB⟩⟩
  obtain⟨ph,ch,pb,cb,pg,cg,rfl⟩:=Zbs.vals hQ;have hs3:=hk3.size;obtain⟨Fh,Fb,Fg,hBd,hGd,rfl⟩:=Z08 hQ;have QB:=Zaa (Yda hBd hGd);have Y3:=Zaa (Y2.out.trans (Zas hy));have K3:=Zaa (K2.out.trans hk3);have Z3:=Zaa (Z2.out.keeps hk3 hg);have HR3:=Zaa hr3;have I3:=Zaa (I2.out.keep hk3.size (fun j h1 h2=>hk3.block j h2 (by omega)));have Q3:=Zaa (Zbk.stable (ty:=Zad) 4 _ _ _ _ _ Q2.out (fun j hj=>hk3.block j (by have:=N1.lt j hj;omega) (by have:=N1.ge j hj;omega)));have LH3:=Zaa (LH2.out.of (hk3.block _ (by omega) (by omega)));have LR:=Zaa (Blk.new w3 #[.string z.name,.slice pz z.terms.length cz,.slice pb r.body.length cb,.slice pg r.guards.length cg] 115);have B4:=Zaa ((Ydb _ w3).alloc lr (.cells #[.string z.name,.slice pz z.terms.length cz,.slice pb r.body.length cb,.slice pg r.guards.length cg] 115));have hsA4:(w3.alloc (.cells #[.string z.name,.slice pz z.terms.length cz,.slice pb r.body.length cb,.slice pg r.guards.length cg] 115)).heap.size=w3.heap.size+1:=by simp
  obtain⟨k0,k1,ks⟩:=(LH3.out.alloc (.cells #[.string r.head.name,.slice ph r.head.terms.length ch,.slice pb r.body.length cb,.slice pg r.guards.length cg] 115)).two;obtain⟨l0,l1,ls⟩:=(LH3.out.alloc (.cells #[.string z.name,.slice pz z.terms.length cz,.slice pb r.body.length cb,.slice pg r.guards.length cg] 115)).two;obtain⟨u0,u1,u2,u3,us⟩:=LR.out.four;have lne:w1.heap.size≠w3.heap.size:=by omega
  clear hk3 hy hr3 K2 Z2 HR2 I2 Q2 LH2 Y2 hBd hGd hQ;go_wp2_with fail
  obtain⟨W4,hW4⟩: ∃ W,w3.alloc (.cells #[.string z.name,.slice pz z.terms.length cz,.slice pb r.body.length cb,.slice pg r.guards.length cg] 115)=W:=⟨_,rfl⟩;have K4:=Zaa (K3.out.ofBelow B4.out);have Z4:=Zaa (Z3.out.below B4.out);have HR4:=Zaa (HR3.out.of B4.out);have I4:=Zaa (I3.out.keep B4.out.size (fun j _ h2=>B4.out.block j h2));have Q4:=Zaa (Zbk.stable (ty:=Zad) 4 _ _ _ _ _ Q3.out (fun j hj=>B4.out.block j (by have:=N1.lt j hj;omega)));have NB: ∀ j,j∈Fb->w2.heap.size<=j/\j < w3.heap.size:=fun j hj=>⟨hN3.ge j (by simp[hj]),hN3.lt j (by simp[hj])⟩;have NG: ∀ j,j∈Fg->w2.heap.size<=j/\j < w3.heap.size:=fun j hj=>⟨hN3.ge j (by simp[hj]),hN3.lt j (by simp[hj])⟩;have QB4:=Zaa (Zag.stable (Zbk.stable (ty:=Zad) 4) _ _ _ _ _ QB.out.1 (fun j hj=>B4.out.block j (NB j hj).2));have QG4:=Zaa (Zag.stable (Zbr.stable (ty:=Zad) 4) _ _ _ _ _ QB.out.2 (fun j hj=>B4.out.block j (NG j hj).2));rw[hW4]at K4 Z4 HR4 I4 Q4 QB4 QG4 LR hsA4⊢;clear B4 k0 k1 ks l0 l1 ls u0 u1 u2 u3 us K3 Z3 HR3 I3 Q3 QB;obtain⟨tp,tc,ht0,_,htr⟩:=Zkf.rep (ty:=Zad) (d:=4) (B:=W4.heap.size) (Zbk.row Q4.out) (fun j hj=>by have:=N1.lt j hj;omega);cases ht0;obtain⟨ap,ac,ha0,_,har⟩:=Zeu.rep (ty:=Zad) (d:=4) (B:=W4.heap.size) QB4.out (fun j hj=>by have:=NB j hj;omega);cases ha0;have LH4:Box (Blk W4 w1.heap.size #[.string z.name,.slice pz z.terms.length cz] 112):=⟨hW4▸LH3.out.alloc _⟩;clear hW4 LH3;refine(Zdg (D:=3) (c:=cz) (c':=cb) (B:=W4.heap.size) htr har lr).mono ?_;rintro e w5 ⟨rfl,hb5⟩;have hs5:=hb5.size;have K5:=Zaa (K4.out.ofBelow hb5).drew;have KP:=Zaa (K4.out.ofBelow hb5);have Z5:=Zaa (Z4.out.below hb5);have HR5:=Zaa (HR4.out.of hb5);have I5:=Zaa ((I4.out.keep hb5.size (fun j _ h2=>hb5.block j h2)).keep (wq:=w5.drew) lr (fun _ _ _=>rfl));have Q5:=Zaa (Zbk.stable (ty:=Zad) 4 _ w5.drew _ _ _ Q4.out (fun j hj=>hb5.block j (by have:=N1.lt j hj;omega)));have QB5:=Zaa (Zag.stable (Zbk.stable (ty:=Zad) 4) _ w5.drew _ _ _ QB4.out (fun j hj=>hb5.block j (by have:=NB j hj;omega)));have QG5:=Zaa (Zag.stable (Zbr.stable (ty:=Zad) 4) _ w5.drew _ _ _ QG4.out (fun j hj=>hb5.block j (by have:=NG j hj;omega)));have LR5:=Zaa (LR.out.of (hb5.block _ (by omega)));clear hb5 htr har K4 Z4 HR4 I4 Q4 QB4 QG4 LR LH4;cases hbd:Zc4 z.terms r.body
  ·have Y4:=Zaa (Y3.out.trans (if_pos hbd));have z5:=Z5.out.c5;have CS:=Zaa (Ze3 a (n:=5) (by decide) x.at_ w5);go_wp2_with fail
   refine CS.out.mono ?_;rintro e w6 ⟨⟨L',hL,rfl,hB⟩,hb6⟩;exact⟨rfl,KP.out.ofBelow hb6,Or.inl ⟨5,_,Y4.out,by decide,L',Ydc KP.out.size hL,rfl,hB⟩⟩
  ·have Y4:=Zaa (Y3.out.trans (if_neg (by rw[hbd];simp)));have QR:Zbs Zad 4 w5.drew [.string z.name,.slice pz z.terms.length cz,.slice pb r.body.length cb,.slice pg r.guards.length cg] {r with head:=z} (G++(Fb++Fg)):=⟨[.string z.name,.slice pz z.terms.length cz],_,_,G,Fb,Fg,rfl,Q5.out,QB5.out,QG5.out,rfl⟩;have oN:=hN3.once;have NR:Za7 (L+1) w5.drew (G++(Fb++Fg)):=⟨Yem.2 ⟨N1.once,(Yem.1 oN).2.1,fun i hi j hj e=>by
     subst e
     have:=N1.lt i hi
     rcases Ydk.1 hj with h1 | h1
     ·have:=NB i h1;omega
     ·have:=NG i h1;omega⟩,fun j hj=>by
     rcases Ydk.1 hj with h1 | h1
     ·have:=N1.ge j h1;omega
     ·rcases Ydk.1 h1 with h2 | h2
      ·have:=NB j h2;omega
      ·have:=NG j h2;omega,fun j hj=>by
     show j < w5.heap.size;rcases Ydk.1 hj with h1 | h1
     ·have:=N1.lt j h1;omega
     ·rcases Ydk.1 h1 with h2 | h2
      ·have:=NB j h2;omega
      ·have:=NG j h2;omega⟩
   have far: ∀ j,j∈G++(Fb++Fg)->w.heap.size<=j:=fun j hj=>by
    rcases Ydk.1 hj with h1 | h1
    ·exact N1.ge j h1
    ·rcases Ydk.1 h1 with h2 | h2
     ·have:=NB j h2;omega
     ·have:=NG j h2;omega
   have DD1:Box (∀ j,j∈G++(Fb++Fg)->j∉F1):=⟨fun j hj hj2=>by have:=AP0.out.1 j hj2;have:=far j hj;omega⟩;have DD2:Box (∀ j,j∈G++(Fb++Fg)->j∉F2):=⟨fun j hj hj2=>by have:=AP0.out.2.1 j hj2;have:=far j hj;omega⟩;have DD3:Box (∀ j,j∈G++(Fb++Fg)->j∉F3):=⟨fun j hj hj2=>by have:=AP0.out.2.2 j hj2;have:=far j hj;omega⟩;have CJ:=Zaa (Zn9 (d:=4) (B:=L+1) (m:=24) (k:=x.at_) Z5.out.drew I5.out.row2 QR I5.out.blk.lt I5.out.new2 NR (fun j hj hj2=>DD2.out j hj2 hj) (by omega) le2);obtain⟨l0,l1,l2,l3,ls⟩:=LR5.out.four;obtain⟨f0,f1,f2,sg⟩:=(I5.out.keep (wq:=w5) lr (fun _ _ _=>rfl)).blk.three;clear QR NR far;go_wp2
   go_region_with (first
    | (go_at_call 136
       refine CJ.out.mono ?_;rintro e w6 (⟨hE,⟨L',hL,rfl,hB⟩,hb6⟩ | ⟨hne,p',c',F',rfl,hG⟩)
       ·exact⟨rfl,K5.out.ofBelow hb6,Or.inl ⟨4,_,Y4.out.trans (if_pos hE),by decide,L',Ydc K5.out.size hL,rfl,hB⟩⟩
       have e1:=(I5.out.blk.of (hG.same L I5.out.blk.lt (fun hj=>by have:=I5.out.new2.ge _ hj;omega))).three.2.1;have se:=(I5.out.blk.of (hG.same L I5.out.blk.lt (fun hj=>by have:=I5.out.new2.ge _ hj;omega))).three.2.2.2;have HG:=Zaa hG;have HNE:=Zaa hne;clear hG hne))
   all_goals
    have I6:=I5.out.add2 HG.out HNE.out DD1.out DD3.out;have hr6:Rd (w6.setCell ⟨L,1,none⟩ (.slice p' (k.rules.length+1) c')) b t r3 x3:=⟨(HR5.out.1.of (HG.out.same b HR5.out.1.lt (fun hj=>by have:=I5.out.new2.ge _ hj;omega))).away _ _ (by omega) _,HR5.out.2⟩;have K6:Zah b w0 (w6.setCell ⟨L,1,none⟩ (.slice p' (k.rules.length+1) c')):=(Zah.grew HG.out K5.out (fun j hj=>by have:=I5.out.new2.ge j hj;omega)).setNew _ _ _ hL0;have R:=Zaa (Yda K6 (Yda I6 (Yda hr6 (Y4.out.trans (if_neg HNE.out)))));clear I6 hr6 K6;go_wp2_with fail
    exact⟨rfl,_,(by simp[results,results81,go_sem];try rfl),R.out.1,Or.inr ⟨_,_,_,_,_,_,_,_,_,_,x3,r3,R.out.2.2.2,rfl,R.out.2.1,R.out.2.2.1⟩⟩
 ·have g1:(x1.text.toList==[60,45])=false:=by rw[Ye4];exact hm
  have Y:=Zaa (Z23 (k:=k) HY.out hm);obtain⟨l0,l1,ls⟩:=LH.out.two;rw[<- HW.out]at l0 l1 ls;clear hm;obtain⟨tp,tc,ht0,_,htr⟩:=Zkf.rep (ty:=Zad) (d:=4) (B:=W.heap.size) (Zbk.row Q1.out) (fun j hj=>by have:=N1.lt j hj;omega);cases ht0;have AB:=Zaa (Zdg (D:=3) (c:=cz) (p':=none) (ys:=[]) (c':=0) (B:=W.heap.size) htr ⟨by simp,fun i x h=>by simp at h⟩ lr);go_wp2_with fail
  rw[HW.out];refine mq AB.out ?_;rintro w2 hb2;have hs2:=hb2.size;have K2:=Zaa (K1.out.ofBelow hb2).drew;have KP:=Zaa (K1.out.ofBelow hb2);have Z2:=Zaa (Z1.out.below hb2);have HR2:=Zaa (HR1.out.of hb2);have I2:=Zaa ((I1.out.keep hb2.size (fun j _ h2=>hb2.block j h2)).keep (wq:=w2.drew) lr (fun _ _ _=>rfl));have Q2:=Zaa (Zbk.stable (ty:=Zad) 4 _ w2.drew _ _ _ Q1.out (fun j hj=>hb2.block j (by have:=N1.lt j hj;omega)));have LH2:=Zaa (LH.out.of (hb2.block _ (by omega)));clear hb2 AB htr l0 l1 ls b0 b1 b2 b3 b4 b5 b6 b7 bs K1 Z1 HR1 I1 Q1 LH B1 HW;cases hbd:Zc4 z.terms []
  ·have Y2:=Zaa (Y.out.trans (if_pos hbd));have z5:=Z2.out.c5;have CS:=Zaa (Ze3 a (n:=5) (by decide) x.at_ w2);go_wp2_with fail
   refine CS.out.mono ?_;rintro e w3 ⟨⟨L',hL,rfl,hB⟩,hb3⟩;exact⟨rfl,KP.out.ofBelow hb3,Or.inl ⟨5,_,Y2.out,by decide,L',Ydc KP.out.size hL,rfl,hB⟩⟩
  ·have Y2:=Zaa (Y.out.trans (if_neg (by rw[hbd];simp)));have NG:Za7 (L+1) w2.drew G:=N1.later (by omega) (by show w1.heap.size<=w2.heap.size;omega);have CJ:=Zaa (Zn8 (d:=4) (B:=L+1) (m:=24) (k:=x.at_) Z2.out.drew I2.out.row1 Q2.out I2.out.blk.lt I2.out.new1 NG (fun j hj hj2=>AP1.out j hj2 hj) (by omega) le1);obtain⟨l0,l1,ls⟩:=LH2.out.two;obtain⟨f0,f1,f2,sg⟩:=(I2.out.keep (wq:=w2) lr (fun _ _ _=>rfl)).blk.three;go_wp2
   go_region_with (first
    | (go_at_call 134
       refine CJ.out.mono ?_;rintro e w3 (⟨hE,⟨L',hL,rfl,hB⟩,hb3⟩ | ⟨hne,p',c',F',rfl,hG⟩)
       ·exact⟨rfl,K2.out.ofBelow hb3,Or.inl ⟨4,_,Y2.out.trans (if_pos hE),by decide,L',Ydc K2.out.size hL,rfl,hB⟩⟩
       have e0:=(I2.out.blk.of (hG.same L I2.out.blk.lt (fun hj=>by have:=I2.out.new1.ge _ hj;omega))).three.1;have se:=(I2.out.blk.of (hG.same L I2.out.blk.lt (fun hj=>by have:=I2.out.new1.ge _ hj;omega))).three.2.2.2;have HG:=Zaa hG;have HNE:=Zaa hne;clear hG hne))
   all_goals
    have I3:=I2.out.add1 HG.out HNE.out AP2.out AP3.out;have hr3:Rd (w3.setCell ⟨L,0,none⟩ (.slice p' (k.facts.length+1) c')) b t r1 x1:=⟨(HR2.out.1.of (HG.out.same b HR2.out.1.lt (fun hj=>by have:=I2.out.new1.ge _ hj;omega))).away _ _ (by omega) _,HR2.out.2⟩;have K3:Zah b w0 (w3.setCell ⟨L,0,none⟩ (.slice p' (k.facts.length+1) c')):=(Zah.grew HG.out K2.out (fun j hj=>by have:=I2.out.new1.ge j hj;omega)).setNew _ _ _ hL0;have R:=Zaa (Yda K3 (Yda I3 (Yda hr3 (Y2.out.trans (if_neg HNE.out)))));clear I3 hr3 K3;go_wp2
    refine Ye6 (by simp[results,results81,go_sem];try rfl) rfl ?_;exact⟨R.out.1,Or.inr ⟨_,_,_,_,_,_,_,_,_,_,x1,r1,R.out.2.2.2,rfl,R.out.2.1,R.out.2.2.1⟩⟩
end Go.P
namespace Go.W
variable {k1:Bk}{x1:Tk}{p1:Nat}
section
variable {t:ByteArray} {k:Bk} {x:Tk} {p n:Nat}
def Zxd (t:ByteArray) (k:Bk) (x:Tk) (p:Nat):Re Bk:=if x.text.toList=Zx1 then Znq t k x p else Zcg t k x p
theorem Z2i (h:Go.W.Z73 x=true):Zfd t (n+1) k x p= .ok (k,x,p):=by rw[Zfd,if_pos h]
theorem Zni (h:Go.W.Z73 x=false){e:Int×Nat}(hs:Zxd t k x p= .error e):Zfd t (n+1) k x p= .error e:=by rw[Zfd,if_neg (by rw[h];simp)];exact Zai hs
theorem Zqg (h:Go.W.Z73 x=false)(hs:Zxd t k x p= .ok (k1,x1,p1)):(∀ e,Zh5 t [59] x1 p1= .error e->Zfd t (n+1) k x p= .error e)/\ ∀ u x2 p2,Zh5 t [59] x1 p1= .ok (u,x2,p2)->Zfd t (n+1) k x p=Zfd t n k1 x2 p2:=by
 rw[Zfd,if_neg (by rw[h];simp),show(if x.text.toList=Zx1 then Znq t k x p else Zcg t k x p)=Zxd t k x p from rfl,Zas hs];exact⟨fun e he=>Zai he,fun u x2 p2 he=>Zas he⟩
theorem Zu4 (h:Zxd t k x p= .ok (k1,x1,p1)):k1.facts.length+k1.rules.length+k1.checks.length=k.facts.length+k.rules.length+k.checks.length+1:=by
 have thn: ∀ {α β:Type} {m:Re α} {f:α->Tk->Nat->Re β} {y:β} {x2:Tk} {p2:Nat},Zbg m f= .ok (y,x2,p2)-> ∃ z x3 p3,f z x3 p3= .ok (y,x2,p2):=by
  intro α β m f y x2 p2 h;unfold Zbg at h;split at h
  ·cases h
  ·exact⟨_,_,_,h⟩
 unfold Zxd at h;split at h
 ·unfold Znq at h;obtain⟨_,_,_,h⟩:=thn h;obtain⟨_,_,_,h⟩:=thn h;split at h
  ·cases h
  ·cases h;simp;omega
 ·unfold Zcg at h;obtain⟨_,_,_,h⟩:=thn h;split at h
  ·obtain⟨_,_,_,h⟩:=thn h;obtain⟨_,_,_,h⟩:=thn h;split at h
   ·cases h
   ·split at h
    ·cases h
    ·cases h;simp;omega
  ·split at h
   ·cases h
   ·split at h
    ·cases h
    ·cases h;simp;omega
end
end Go.W
namespace Go.P
def Z5m (a:Nat->Addr) (b:Nat) (t:ByteArray) (Y:Re Bk) (w:World) (L:Nat) (wr:World):Prop:= ∃ (k:Bk) (p1:Option Addr) (c1:Nat) (p2:Option Addr) (c2:Nat) (p3:Option Addr) (c3:Nat) (F1 F2 F3:List Nat) (x:Tk) (p:Nat),Zda w wr L k p1 c1 p2 c2 p3 c3 F1 F2 F3/\Zpi a b w t wr p x/\Zfd t (73 - (k.facts.length+k.rules.length+k.checks.length)) k x p=Y
theorem Z02 {a:Nat->Addr}{w:World}{b:Nat}{t:ByteArray}{p:Nat}{x:Tk}(Z:Zao a w)(h:Rd w b t p x)(hx:Zm5 x):
  Calls prog 50 #[.pointer (some ⟨b,0,none⟩)] w (Ze6 a b t (Zlh (Zbj Zad 4) w.heap.size) w (Ze7 t x p)):=by
 have hg:=h.2.2.2;have ht:=h.2.1;have hb:=h.1.lt;obtain⟨W0,hW0⟩: ∃ W,w.alloc (.cells #[.slice none 0 0,.slice none 0 0,.slice none 0 0] 45)=W:=⟨_,rfl⟩;have hs0:W0.heap.size=w.heap.size+1:=by rw[<- hW0];simp
 have BW:Box (Below w.heap.size w W0):=⟨hW0▸(Ydb _ w).alloc lr _⟩;have RB:Box (Blk W0 w.heap.size #[.slice none 0 0,.slice none 0 0,.slice none 0 0] 45):=⟨hW0▸Blk.new w _ _⟩;have Z0:=Zaa (Z.below BW.out);have D0:Box (Zpi a b W0 t (W0.alloc (.cells #[.slice none 0 0,.slice none 0 0,.slice none 0 0] 45)) p x):=⟨(h.of BW.out).alloc _,(Zah.refl b W0).alloc _,Z0.out.below ((Ydb _ W0).alloc lr _),hx⟩;have B0:Box (Zda W0 (W0.alloc (.cells #[.slice none 0 0,.slice none 0 0,.slice none 0 0] 45)) (w.heap.size+1) ⟨[],[],[]⟩ none 0 none 0 none 0 [] [] []):=⟨{blk:=(by have:=Blk.new W0 #[.slice none 0 0,.slice none 0 0,.slice none 0 0] 45;rw[hs0]at this;exact this),row1:=Zag.nil,row2:=Zag.nil,row3:=Zag.nil,new1:=Za7.nil _ _,new2:=Za7.nil _ _,new3:=Za7.nil _ _,a12:=fun _ hj=>absurd hj Yeu,a13:=fun _ hj=>absurd hj Yeu,a23:=fun _ hj=>absurd hj Yeu,le1:=by decide,le2:=by decide,le3:=by decide}⟩;have HW:=Zaa hW0;clear Z h hW0;go_in
 go_wp2
 go_loopw [4] (fun _ wr=>Z5m a b t (Ze7 t x p) W0 (w.heap.size+1) wr) (fun _ wr=>73 - (Zwl wr (w.heap.size+1) 0+Zwl wr (w.heap.size+1) 1+Zwl wr (w.heap.size+1) 2))
 case atStart=>rw[HW.out];exact⟨⟨[],[],[]⟩,none,0,none,0,none,0,[],[],[],x,p,B0.out,D0.out,rfl⟩
 case round=>
  clear D0 B0;obtain⟨k,p1,c1,p2,c2,p3,c3,F1,F2,F3,y,q,hI,hD,hY⟩:=hrel;obtain⟨b0,b1,b2,b3,b4,b5,b6,b7,bs⟩:=hD.1.1.eight;have m1:=Zcb hI.blk.three.1;have m2:=Zcb hI.blk.three.2.1;have m3:=Zcb hI.blk.three.2.2.1;have le1:=hI.le1;have le2:=hI.le2;have le3:=hI.le3;obtain⟨n,hn⟩: ∃ n,73 - (k.facts.length+k.rules.length+k.checks.length)=n+1:=⟨72 - (k.facts.length+k.rules.length+k.checks.length),by omega⟩;rw[hn]at hY;have CE:=Zaa (Zt9 y wr);unfold Zm2 at CE;have HI:=Zaa hI;have HD:=Zaa hD;have HY:=Zaa hY;generalize Ze7 t x p=Y at*;clear hI hD hY;go_wp2_with fail
  refine mq CE.out ?_;rintro w1 hb1;have hs1:=hb1.size;have D1:Box (Zpi a b W0 t w1 q y):=⟨HD.out.1.of hb1,HD.out.2.1.ofBelow hb1,HD.out.2.2.1.below hb1,HD.out.2.2.2⟩;have I1:=Zaa (HI.out.keep hb1.size (fun j _ h2=>hb1.block j h2));have RR:=Zaa (RB.out.of (D1.out.2.1.block _ (by omega) (by omega)));clear hb1 HD HI CE b0 b1 b2 b3 b4 b5 b6 b7 bs;cases he:Go.W.Z73 y
  case' true=>
   have E:=Zaa (HY.out.symm.trans (Z2i he));obtain⟨f0,f1,f2,sg⟩:=I1.out.blk.three;obtain⟨y0,y1,y2,sy⟩:=RR.out.three;have hl1:=I1.out.blk.lt;go_wp2
   refine Ye6 (by simp[results,results50,go_sem,y0,y1,y2];try rfl) rfl ?_;have hI:=I1.out;have hN:Za7 w.heap.size w1 (F1++(F2++F3)):=⟨Yem.2 ⟨hI.new1.once,Yem.2 ⟨hI.new2.once,hI.new3.once,fun i hi j hj e=>hI.a23 i hi (e▸hj)⟩,fun i hi j hj e=>by
    subst e;rcases Ydk.1 hj with h1 | h1
    ·exact hI.a12 i hi h1
    ·exact hI.a13 i hi h1⟩,fun j hj=>by
    rcases Ydk.1 hj with h1 | h1
    ·have:=hI.new1.ge j h1;omega
    ·rcases Ydk.1 h1 with h2 | h2
     ·have:=hI.new2.ge j h2;omega
     ·have:=hI.new3.ge j h2;omega,fun j hj=>by
    rcases Ydk.1 hj with h1 | h1
    ·exact hI.new1.lt j h1
    ·rcases Ydk.1 h1 with h2 | h2
     ·exact hI.new2.lt j h2
     ·exact hI.new3.lt j h2⟩
   exact⟨(Zah.later BW.out D1.out.2.1).r3 lr,Or.inr ⟨_,k,y,q,E.out,rfl,⟨[.slice p1 k.facts.length c1,.slice p2 k.rules.length c2,.slice p3 k.checks.length c3],F1++(F2++F3),rfl,⟨_,_,_,F1,F2,F3,rfl,Zag.stable (Zbk.stable (ty:=Zad) 4) _ _ _ _ _ hI.row1 fun j hj=>Zfe (by have:=hI.new1.ge j hj;omega),Zag.stable (Zbs.stable (ty:=Zad) 4) _ _ _ _ _ hI.row2 fun j hj=>Zfe (by have:=hI.new2.ge j hj;omega),Zag.stable (Zbw.stable (ty:=Zad) 4) _ _ _ _ _ hI.row3 fun j hj=>Zfe (by have:=hI.new3.ge j hj;omega),rfl⟩,hN.later lr (by simp)⟩,D1.out.1.keepN (Zfe (by omega))⟩⟩
  obtain⟨b0,b1,b2,b3,b4,b5,b6,b7,bs⟩:=D1.out.1.1.eight;by_cases hc:y.text.toList=Zx1
  ·have g1:(y.text.toList==[99,104,101,99,107])=true:=by rw[Yfb];exact hc
   have ST:Box (Zxd t k y q=Znq t k y q):=⟨if_pos hc⟩;have CS:=Zaa (Z03 D1.out.2.2.1 D1.out.1 D1.out.2.1 (by omega) (by omega) I1.out);clear hc;go_wp2_with fail
   refine CS.out.mono ?_;rintro e w2 ⟨hk2,⟨n2,r2,hy,hn2,L',hL,rfl,hB⟩ | ⟨k2,q1,d1,q2,d2,q3,d3,G1,G2,G3,x2,r2,hy,rfl,hI2,hr2⟩⟩
   ·exact⟨rfl,Zah.later BW.out hk2,Or.inl ⟨n2,r2,HY.out.symm.trans (Zni he (ST.out.trans hy)),hn2,L',by omega,rfl,hB⟩⟩
   have M:=Zaa (Zqg (n:=n) he (ST.out.trans hy));have mo:=Zu4 (ST.out.trans hy);have Z2:=Zaa (Z0.out.keeps hk2 hg);have CW:=Zaa (Zjc ⟨#[59]⟩ Z2.out hr2);rw[show(⟨#[59]⟩:ByteArray).toList=[59]from Zla [59]]at CW;have R2:=Zaa (Yda hk2 (Yda hI2 hr2));clear hk2 hy hr2 hI2 CS ST D1 I1 b0 b1 b2 b3 b4 b5 b6 b7 bs;go_wp2_with fail
   refine CW.out.mono ?_;rintro e w3 ⟨hk3,⟨n3,r3,hy,hn3,L',hL,rfl,hB⟩ | ⟨v,u,x3,r3,hy,rfl,hv,hr3⟩⟩
   ·exact⟨rfl,Zah.later BW.out (R2.out.1.trans hk3),Or.inl ⟨n3,r3,HY.out.symm.trans (M.out.1 _ hy),hn3,L',by have:=R2.out.1.size;omega,rfl,hB⟩⟩
   obtain rfl:v= .tuple #[]:=hv;have I3:=R2.out.2.1.keep hk3.size (fun j h1 h2=>hk3.block j h2 (by omega));have l1:=Zcb I3.blk.three.1;have l2:=Zcb I3.blk.three.2.1;have l3:=Zcb I3.blk.three.2.2.1;have R3:=Zaa (Yda I3 (Yda (show Zpi a b W0 t w3 r3 x3 from⟨hr3,R2.out.1.trans hk3,Z2.out.keeps hk3 hg,Zlb ht hy⟩) (HY.out.symm.trans (M.out.2 _ _ _ hy))));have lb1:=I3.le1;have lb2:=I3.le2;have lb3:=I3.le3;clear I3 hk3 hy hr3;go_wp2_with fail
   refine⟨⟨k2,_,_,_,_,_,_,_,_,_,x3,r3,R3.out.1,R3.out.2.1,?_⟩,?_⟩
   ·rw[R3.out.2.2];congr 1
    omega
   ·rw[l1,l2,l3,m1,m2,m3];omega
  ·have g1:(y.text.toList==[99,104,101,99,107])=false:=by rw[Ye4];exact hc
   have ST:Box (Zxd t k y q=Zcg t k y q):=⟨if_neg hc⟩;have CS:=Zaa (Z4m D1.out.2.2.1 D1.out.1 D1.out.2.2.2 D1.out.2.1 (by omega) (by omega) I1.out);clear hc;go_wp2_with fail
   refine CS.out.mono ?_;rintro e w2 ⟨hk2,⟨n2,r2,hy,hn2,L',hL,rfl,hB⟩ | ⟨k2,q1,d1,q2,d2,q3,d3,G1,G2,G3,x2,r2,hy,rfl,hI2,hr2⟩⟩
   ·exact⟨rfl,Zah.later BW.out hk2,Or.inl ⟨n2,r2,HY.out.symm.trans (Zni he (ST.out.trans hy)),hn2,L',by omega,rfl,hB⟩⟩
   have M:=Zaa (Zqg (n:=n) he (ST.out.trans hy));have mo:=Zu4 (ST.out.trans hy);have Z2:=Zaa (Z0.out.keeps hk2 hg);have CW:=Zaa (Zjc ⟨#[59]⟩ Z2.out hr2);rw[show(⟨#[59]⟩:ByteArray).toList=[59]from Zla [59]]at CW;have R2:=Zaa (Yda hk2 (Yda hI2 hr2));clear hk2 hy hr2 hI2 CS ST D1 I1 b0 b1 b2 b3 b4 b5 b6 b7 bs;go_wp2_with fail
   refine CW.out.mono ?_;rintro e w3 ⟨hk3,⟨n3,r3,hy,hn3,L',hL,rfl,hB⟩ | ⟨v,u,x3,r3,hy,rfl,hv,hr3⟩⟩
   ·exact⟨rfl,Zah.later BW.out (R2.out.1.trans hk3),Or.inl ⟨n3,r3,HY.out.symm.trans (M.out.1 _ hy),hn3,L',by have:=R2.out.1.size;omega,rfl,hB⟩⟩
   obtain rfl:v= .tuple #[]:=hv;have I3:=R2.out.2.1.keep hk3.size (fun j h1 h2=>hk3.block j h2 (by omega));have l1:=Zcb I3.blk.three.1;have l2:=Zcb I3.blk.three.2.1;have l3:=Zcb I3.blk.three.2.2.1;have R3:=Zaa (Yda I3 (Yda (show Zpi a b W0 t w3 r3 x3 from⟨hr3,R2.out.1.trans hk3,Z2.out.keeps hk3 hg,Zlb ht hy⟩) (HY.out.symm.trans (M.out.2 _ _ _ hy))));have lb1:=I3.le1;have lb2:=I3.le2;have lb3:=I3.le3;clear I3 hk3 hy hr3;go_wp2_with fail
   refine⟨⟨k2,_,_,_,_,_,_,_,_,_,x3,r3,R3.out.1,R3.out.2.1,?_⟩,?_⟩
   ·rw[R3.out.2.2];congr 1
    omega
   ·rw[l1,l2,l3,m1,m2,m3];omega
end Go.P
