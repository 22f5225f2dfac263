import Derived.Test.YtmebjfclpalmaaaGreatDoorW25
import Derived.Deep.CutBlock
import Derived.Deep.DeepCutAuto
set_option maxRecDepth 100000
set_option maxHeartbeats 8000000
set_option linter.unusedSimpArgs false
open Go.Proofs Go.RowKit Go.W Tryz
namespace Go.W
variable {x1:Tk}{p1:Nat}
section
variable {t:ByteArray} {r:R} {x:Tk} {p n:Nat}
theorem Z4a (h:Zi1 x.text=true/\Zjy x.text=false):Zww t r x p=Zbg (Zpm t x p) fun a x1 p1=>if r.body.length=4 then .error (4,x.at_)else .ok ({r with body:=r.body++[a]},x1,p1):=if_pos h
theorem Z0z (h: ¬ (Zi1 x.text=true/\Zjy x.text=false)):Zww t r x p=Zbg (Zt6 t x p) fun g x1 p1=>if r.guards.length=4 then .error (4,x.at_)else .ok ({r with guards:=r.guards++[g]},x1,p1):=if_neg h
theorem Zhq {e:Int×Nat}(h:Zww t r x p= .error e):Zfk t (n+1) r x p= .error e:=by rw[Zfk];exact Zai h
theorem Zun {r1:R}(h:Zww t r x p= .ok (r1,x1,p1))(hc:x1.text.toList≠[44]):Zfk t (n+1) r x p= .ok (r1,x1,p1):=by rw[Zfk,Zas h,if_neg hc]
theorem Zq6 {r1:R}(h:Zww t r x p= .ok (r1,x1,p1))(hc:x1.text.toList=[44]):(∀ e,Zdc t x1 p1= .error e->Zfk t (n+1) r x p= .error e)/\ ∀ y x2 p2,Zdc t x1 p1= .ok (y,x2,p2)->Zfk t (n+1) r x p=Zfk t n r1 x2 p2:=by
 rw[Zfk,Zas h,if_pos hc];exact⟨fun e he=>Zai he,fun y x2 p2 he=>Zas he⟩
end
end Go.W
namespace Go.P
variable {w wr wq:World}{r:R}{pb pg:Option Addr}{cb cg b:Nat}{Fb Fg:List Nat}
structure Ze5 (w wr:World) (r:R) (pb:Option Addr) (cb:Nat) (pg:Option Addr) (cg:Nat) (Fb Fg:List Nat):Prop where
 res:Blk wr w.heap.size #[.string ⟨#[]⟩,.slice none 0 0,.slice none 0 0,.slice none 0 0] 115
 blk:Blk wr (w.heap.size+1) #[.string ⟨#[]⟩,.slice none 0 0,.slice pb r.body.length cb,.slice pg r.guards.length cg] 115
 rowB:Zag 112 2 (Zbk Zad 4) wr (.slice pb r.body.length cb) r.body Fb
 rowG:Zag 119 9 (Zbr Zad (3+1)) wr (.slice pg r.guards.length cg) r.guards Fg
 newB:Za7 (w.heap.size+2) wr Fb
 newG:Za7 (w.heap.size+2) wr Fg
 apart: ∀ j,j∈Fb->j∉Fg
 leB:r.body.length<=4
 leG:r.guards.length<=4
 bare:r.head=⟨⟨#[]⟩,[]⟩
theorem Ze5.keep (h:Ze5 w wr r pb cb pg cg Fb Fg)(hs:wr.heap.size<=wq.heap.size)(k: ∀ j,w.heap.size<=j->j < wr.heap.size->wq.heap[j]?=wr.heap[j]?):Ze5 w wq r pb cb pg cg Fb Fg:=
 ⟨h.res.of (k _ (by omega) h.res.lt),h.blk.of (k _ (by omega) h.blk.lt),Zag.stable (Zbk.stable (ty:=Zad) 4) _ _ _ _ _ h.rowB fun j hj=>k j (by have:=h.newB.ge j hj;omega) (h.newB.lt j hj),Zag.stable (Zbr.stable (ty:=Zad) (3+1)) _ _ _ _ _ h.rowG fun j hj=>k j (by have:=h.newG.ge j hj;omega) (h.newG.lt j hj),h.newB.later lr hs,h.newG.later lr hs,h.apart,h.leB,h.leG,h.bare⟩
theorem Ze5.later (h:Ze5 w wr r pb cb pg cg Fb Fg)(k:Below wr.heap.size wr wq):Ze5 w wq r pb cb pg cg Fb Fg:=h.keep k.size fun j _ hj=>k.block j hj
theorem Ze5.keeps (h:Ze5 w wr r pb cb pg cg Fb Fg)(k:Zah b wr wq)(hb:b < w.heap.size):Ze5 w wq r pb cb pg cg Fb Fg:=h.keep k.size fun j h1 hj=>k.block j hj (by omega)
def Z8i (a:Nat->Addr) (b:Nat) (t:ByteArray) (Y:Re R) (w:World) (wr:World):Prop:= ∃ (r:R) (pb:Option Addr) (cb:Nat) (pg:Option Addr) (cg:Nat) (Fb Fg:List Nat) (x:Tk) (p:Nat),Ze5 w wr r pb cb pg cg Fb Fg/\Zpi a b w t wr p x/\Zfk t (9 - (r.body.length+r.guards.length)) r x p=Y
def Z8h (a:Nat->Addr) (b:Nat) (t:ByteArray) (Y:Re R) (w:World) (wr:World):Prop:= ∃ (r:R) (pb:Option Addr) (cb:Nat) (pg:Option Addr) (cg:Nat) (Fb Fg:List Nat) (x:Tk) (p:Nat),Ze5 w wr r pb cb pg cg Fb Fg/\Rd wr b t p x/\Zah b w wr/\Zao a wr/\Y= .ok (r,x,p)
def Yca (a:Nat->Addr) (b:Nat) (t:ByteArray) (w:World) (r:R) (pb:Option Addr) (cb:Nat) (pg:Option Addr) (cg:Nat) (Fb Fg:List Nat) (x:Tk) (p:Nat) (iv:Value) (wr:World):Prop:= ∃ k:Nat,k<=r.guards.length/\iv= .int .i64 (k:Int)/\Ze5 w wr r pb cb pg cg Fb Fg/\(Rd wr b t p x/\Zah b w wr/\Zao a wr)/\ ∀ j g,j < k->r.guards[j]?=some g->Zc4 [g.a,g.b] r.body=true
def Zwl (w:World) (L o:Nat):Nat:=match w.cell? ⟨L,o,none⟩with
 | some v=>Zmd v
 | none=>0
theorem Zcb {L o n c:Nat}{p:Option Addr}(h:w.cell? ⟨L,o,none⟩=some (.slice p n c)):Zwl w L o=n:=by unfold Zwl;rw[h];rfl
theorem Zuu {a:Nat->Addr}{t:ByteArray}{p:Nat}{x:Tk}(Z:Zao a w)(h:Rd w b t p x)(hx:Zm5 x):
  Calls prog 135 #[.pointer (some ⟨b,0,none⟩)] w (Ze6 a b t (Zlh (Zbs Zad 4) w.heap.size) w (Znk t x p)):=by
 have hg:=h.2.2.2;have ht:=h.2.1;have hb:=h.1.lt;obtain⟨c0,c1,c2,c3,c4,c5,c6,c7,sf⟩:=h.1.eight;have K0:=Zaa (((Zah.refl b w).alloc (.cells #[.string ⟨#[]⟩,.slice none 0 0,.slice none 0 0,.slice none 0 0] 115)).alloc (.cells #[.string ⟨#[]⟩,.slice none 0 0,.slice none 0 0,.slice none 0 0] 115));have D0:Box (Zpi a b w t ((w.alloc (.cells #[.string ⟨#[]⟩,.slice none 0 0,.slice none 0 0,.slice none 0 0] 115)).alloc (.cells #[.string ⟨#[]⟩,.slice none 0 0,.slice none 0 0,.slice none 0 0] 115)) p x):=⟨(h.alloc _).alloc _,K0.out,Z.keeps K0.out hg,hx⟩;have B0:Box (Ze5 w ((w.alloc (.cells #[.string ⟨#[]⟩,.slice none 0 0,.slice none 0 0,.slice none 0 0] 115)).alloc (.cells #[.string ⟨#[]⟩,.slice none 0 0,.slice none 0 0,.slice none 0 0] 115)) Zvs none 0 none 0 [] []):=⟨{res:=(Blk.new w _ _).alloc _,blk:=(by have:=Blk.new (w.alloc (.cells #[.string ⟨#[]⟩,.slice none 0 0,.slice none 0 0,.slice none 0 0] 115)) #[.string ⟨#[]⟩,.slice none 0 0,.slice none 0 0,.slice none 0 0] 115;simp only[Ydm]at this;exact this),rowB:=Zag.nil,rowG:=Zag.nil,newB:=Za7.nil _ _,newG:=Za7.nil _ _,apart:=fun _ hj=>absurd hj Yeu,leB:=by decide,leG:=by decide,bare:=rfl}⟩;have F:Box (Znk t x p=Zbg (Zfk t 9 Zvs x p) fun r x1 p1=>if r.guards.all (fun g=>Zc4 [g.a,g.b] r.body)=true then .ok (r,x1,p1)else .error (5,x.at_)):=⟨rfl⟩;have ZW:=Zaa Z;clear Z h;go_in
 go_upto_block 0 with fail
 go_cut [5] (fun _ wc=>Z8h a b t (Zfk t 9 Zvs x p) w wc)
 case first=>
  go_wp2
  go_loopw [5] (fun _ wr=>Z8i a b t (Zfk t 9 Zvs x p) w wr) (fun _ wr=>9 - (Zwl wr (w.heap.size+1) 2+Zwl wr (w.heap.size+1) 3))
  case atStart=>exact⟨Zvs,none,0,none,0,[],[],x,p,B0.out,D0.out,rfl⟩
  case round=>
   clear D0 B0 K0 c0 c1 c2 c3 c4 c5 c6 c7 sf;obtain⟨r,pb,cb,pg,cg,Fb,Fg,y,q,hI,hD,hY⟩:=hrel;obtain⟨c0,c1,c2,c3,c4,c5,c6,c7,sf⟩:=hD.1.1.eight;have HI:=Zaa hI;have HD:=Zaa hD;have HY:=Zaa hY;have hszr:=hI.blk.lt;have m2:=Zcb hI.blk.four.2.2.1;have m3:=Zcb hI.blk.four.2.2.2.1;have leB:=hI.leB;have leG:=hI.leG;have CW:=Zaa (Zqw y hD.2.2.2.1 wr);have CB:=Zaa (Zqv y.text);unfold Zm2 at CW;generalize Zfk t 9 Zvs x p=Y at*;clear hI hD hY;go_wp2_with fail
   refine mq CW.out ?_;rintro w1 hb1;have D1:Box (Zpi a b w t w1 q y):=⟨HD.out.1.of hb1,HD.out.2.1.ofBelow hb1,HD.out.2.2.1.below hb1,HD.out.2.2.2⟩;have I1:=Zaa (HI.out.later hb1);have hs1:=hb1.size;clear hb1 c0 c1 c2 c3 c4 c5 c6 c7 sf HD HI CW;obtain⟨c0,c1,c2,c3,c4,c5,c6,c7,sf⟩:=D1.out.1.1.eight;obtain⟨f0,f1,f2,f3,sg⟩:=I1.out.blk.four;obtain⟨n,hn⟩: ∃ n,9 - (r.body.length+r.guards.length)=n+1:=⟨8 - (r.body.length+r.guards.length),by omega⟩;rw[hn]at HY;by_cases hwb:Zi1 y.text=true/\Zjy y.text=false
   ·have P:=Zaa (Z4a (t:=t) (r:=r) (p:=q) hwb);rw[hwb.2]at CB;rw[hwb.1];have CA:=Zaa (Zut D1.out.2.2.1.drew D1.out.1.drew D1.out.2.2.2);have ID:Box (Ze5 w w1.drew r pb cb pg cg Fb Fg):=⟨I1.out.keep lr fun _ _ _=>rfl⟩;have KD:=Zaa D1.out.2.1.drew;have hszd:w.heap.size+2<=w1.drew.heap.size:=I1.out.blk.lt;have ZD:=Zaa D1.out.2.2.1.drew;clear hwb;go_wp2_with (go_at_call 176;refine(CB.out _).mono ?_;rintro e w' ⟨rfl,rfl⟩)
    go_region_with (first
     | (go_at_call 131
        refine CA.out.mono ?_;rintro e w2 ⟨hk2,⟨n2,r2,hy,hn2,L,hL,rfl,hB⟩ | ⟨v,z,x2,r2,hy,rfl,⟨vs,F2,rfl,hQ,hN2⟩,hr2⟩⟩
        ·exact⟨rfl,KD.out.trans hk2,Or.inl ⟨n2,r2,F.out.trans (Zai (HY.out.symm.trans (Zhq (P.out.trans (Zai hy))))),hn2,L,Ydc KD.out.size hL,rfl,hB⟩⟩
        obtain⟨p1,cc,rfl⟩:=Zbk.vals hQ;have I2:=ID.out.keeps hk2 hb;have hs2:=hk2.size;have Z2:=ZD.out.keeps hk2 hg;have CJ:=Zaa (Zn8 (d:=4) (B:=w.heap.size+2) (m:=4) (k:=y.at_) Z2 I2.rowB hQ (by have:=I2.blk.lt;omega) I2.newB (hN2.later hszd lr) (fun j hj hj2=>by have:=ID.out.newB.lt j hj;have:=hN2.ge j hj2;omega) (by omega) leB);have HP:=Zaa (P.out.trans (Zas hy));have AP:Box (∀ j,j∈F2->j∉Fg):=⟨fun j hj hj2=>by have:=ID.out.newG.lt j hj2;have:=hN2.ge j hj;omega⟩;have KK2:=Zaa (KD.out.trans hk2);have HH2:=Zaa (Yda I2 (Yda hr2 Z2));obtain⟨e0,e1,e2,e3,se⟩:=I2.blk.four;clear hk2 hy hQ hN2 hr2 I2 Z2)
     | (go_at_call 134
        refine CJ.out.mono ?_;rintro e w3 (⟨hE,⟨L,hL,rfl,hB⟩,hb3⟩ | ⟨hne,p',c',F',rfl,hG⟩)
        ·exact⟨rfl,KK2.out.ofBelow hb3,Or.inl ⟨4,_,F.out.trans (Zai (HY.out.symm.trans (Zhq (HP.out.trans (if_pos hE))))),by decide,L,Ydc KK2.out.size hL,rfl,hB⟩⟩
        have LB3:=HH2.out.1.blk.of (hG.same (w.heap.size+1) HH2.out.1.blk.lt (fun hj=>by have:=HH2.out.1.newB.ge _ hj;omega));obtain⟨e0,e1,e2,e3,se⟩:=LB3.four;have HG:=Zaa hG;have HL3:=Zaa LB3;clear hG LB3))
    all_goals
     have I3:Ze5 w (w3.setCell ⟨w.heap.size+1,2,none⟩ (.slice p' (r.body.length+1) c')) {r with body:=r.body++[z]} p' c' pg cg F' Fg:=by
      have I2:=HH2.out.1;have lw:w.heap.size+1 < w3.heap.size:=HL3.out.lt
      exact{res:=(I2.res.of (HG.out.same _ I2.res.lt (fun hj=>by have:=I2.newB.ge _ hj;omega))).away _ _ (by omega) _,blk:=(by have:=HL3.out.set 2 (.slice p' (r.body.length+1) c');simpa using this),rowB:=(by have:=Zag.stable (Zbk.stable (ty:=Zad) 4) _ (w3.setCell ⟨w.heap.size+1,2,none⟩ (.slice p' (r.body.length+1) c')) _ _ _ HG.out.row (fun j hj=>Ydg _ _ _ j (by show j≠w.heap.size+1;have:=HG.out.new.ge j hj;omega));simpa using this),rowG:=Zag.stable (Zbr.stable (ty:=Zad) (3+1)) _ _ _ _ _ I2.rowG (fun j hj=>(Ydg _ _ _ j (by show j≠w.heap.size+1;have:=I2.newG.ge j hj;omega)).trans (HG.out.same j (I2.newG.lt j hj) (fun hj2=>I2.apart j hj2 hj))),newB:=HG.out.new.later lr (by simp),newG:=I2.newG.later lr (by have:=HG.out.size;simp;omega),apart:=(fun j hj hj2=>by
       rcases HG.out.sub j hj with h1 | h1 | h1
       ·exact I2.apart j h1 hj2
       ·exact AP.out j h1 hj2
       ·have:=I2.newG.lt j hj2;omega),leB:=(by simp;omega),leG:=leG,bare:=I2.bare}
     have hr3:Rd (w3.setCell ⟨w.heap.size+1,2,none⟩ (.slice p' (r.body.length+1) c')) b t r2 x2:=⟨(HH2.out.2.1.1.of (HG.out.same b HH2.out.2.1.1.lt (fun hj=>by have:=HH2.out.1.newB.ge _ hj;omega))).away _ _ (by omega) _,HH2.out.2.1.2⟩;have K3:Zah b w (w3.setCell ⟨w.heap.size+1,2,none⟩ (.slice p' (r.body.length+1) c')):=(Zah.grew HG.out KK2.out (fun j hj=>by have:=HH2.out.1.newB.ge j hj;omega)).setNew _ _ _ (by omega);have Q3:=HP.out.trans (if_neg hne);have n2:=Zcb I3.blk.four.2.2.1;have n3:=Zcb I3.blk.four.2.2.2.1;obtain⟨w4,hw4⟩: ∃ w4,w3.setCell ⟨w.heap.size+1,2,none⟩ (.slice p' (r.body.length+1) c')=w4:=⟨_,rfl⟩;rw[hw4]at I3 hr3 K3 n2 n3⊢;have R3:=Zaa (Yda I3 (Yda hr3 (Yda K3 (Yda (ZW.out.keeps K3 hg) Q3))));clear hw4 I3 hr3 K3 Q3 e0 e1 e2 e3 se f0 f1 f2 f3 sg HG HL3 HH2 KK2 HP CJ ID KD ZD CA P D1 I1 CB c0 c1 c2 c3 c4 c5 c6 c7 sf;obtain⟨c0,c1,c2,c3,c4,c5,c6,c7,sf⟩:=R3.out.2.1.1.eight;by_cases hc:x2.text.toList=[44]
     ·have g1:(x2.text.toList==[44])=true:=by rw[Yfb];exact hc
      have M:=Zaa (Zq6 (n:=n) R3.out.2.2.2.2 hc);have CT:=Zaa (Zc8 R3.out.2.2.2.1 R3.out.2.1);clear hc;go_wp2_with fail
      refine CT.out.mono ?_;rintro e w5 ⟨hk5,⟨n5,r5,hy,hn5,L,hL,rfl,hB⟩ | ⟨v,y5,x5,r5,hy,rfl,hv,hr5⟩⟩
      ·exact⟨rfl,R3.out.2.2.1.trans hk5,Or.inl ⟨n5,r5,F.out.trans (Zai (HY.out.symm.trans (M.out.1 _ hy))),hn5,L,Ydc R3.out.2.2.1.size hL,rfl,hB⟩⟩
      obtain rfl:v=Zm2 y5:=hv;have I5:=R3.out.1.keeps hk5 hb;have l2:=Zcb I5.blk.four.2.2.1;have l3:=Zcb I5.blk.four.2.2.2.1;have R5:=Zaa (Yda I5 (Yda (show Zpi a b w t w5 r5 x5 from⟨hr5,R3.out.2.2.1.trans hk5,R3.out.2.2.2.1.keeps hk5 hg,(Zeq ht hy).1⟩) (HY.out.symm.trans (M.out.2 _ _ _ hy))));have lb5:=I5.leB;have lg5:=I5.leG;clear I5 hk5 hy hr5;go_wp2_with fail
      refine⟨⟨_,_,_,_,_,_,_,x5,r5,R5.out.1,R5.out.2.1,?_⟩,?_⟩
      ·rw[R5.out.2.2];congr 1
       simp;omega
      ·rw[l2,l3,m2,m3];simp at lb5 lg5⊢;omega
     ·have g1:(x2.text.toList==[44])=false:=by rw[Ye4];exact hc
      have M:=Zaa (HY.out.symm.trans (Zun (n:=n) R3.out.2.2.2.2 hc));clear hc;go_wp2_with fail
      go_meet
      case rel=>exact⟨_,_,_,_,_,_,_,x2,r2,R3.out.1,R3.out.2.1,R3.out.2.2.1,R3.out.2.2.2.1,M.out⟩
   ·have P:=Zaa (Z0z (t:=t) (r:=r) (p:=q) hwb);have GG:Zi1 y.text=false\/Zi1 y.text=true/\Zjy y.text=true:=by
     cases h1:Zi1 y.text
     ·exact Or.inl rfl
     ·cases h2:Zjy y.text
      ·exact absurd ⟨h1,h2⟩ hwb
      ·exact Or.inr ⟨rfl,rfl⟩
    have CA:=Zaa (Z05 D1.out.2.2.1.drew D1.out.1.drew D1.out.2.2.2);have ID:Box (Ze5 w w1.drew r pb cb pg cg Fb Fg):=⟨I1.out.keep lr fun _ _ _=>rfl⟩;have KD:=Zaa D1.out.2.1.drew;have hszd:w.heap.size+2<=w1.drew.heap.size:=I1.out.blk.lt;have ZD:=Zaa D1.out.2.2.1.drew;clear hwb;rcases GG with ga | ⟨ga,gb⟩
    case' inr=>rw[gb]at CB
    all_goals
     rw[ga];go_wp2_with (go_at_call 176;refine(CB.out _).mono ?_;rintro e w' ⟨rfl,rfl⟩)
     go_region_with (first
      | (go_at_call 178
         refine CA.out.mono ?_;rintro e w2 ⟨hk2,⟨n2,r2,hy,hn2,L,hL,rfl,hB⟩ | ⟨v,z,x2,r2,hy,rfl,⟨vs,F2,rfl,hQ,hN2⟩,hr2⟩⟩
         ·exact⟨rfl,KD.out.trans hk2,Or.inl ⟨n2,r2,F.out.trans (Zai (HY.out.symm.trans (Zhq (P.out.trans (Zai hy))))),hn2,L,Ydc KD.out.size hL,rfl,hB⟩⟩
         obtain⟨p1,cc,p2,cc2,rfl⟩:=Zbr.vals hQ;have I2:=ID.out.keeps hk2 hb;have hs2:=hk2.size;have Z2:=ZD.out.keeps hk2 hg;have CJ:=Zaa (Zuc (d:=3) (B:=w.heap.size+2) (m:=4) (k:=y.at_) Z2 I2.rowG hQ (by have:=I2.blk.lt;omega) I2.newG (hN2.later hszd lr) (fun j hj hj2=>by have:=ID.out.newG.lt j hj;have:=hN2.ge j hj2;omega) (by omega) leG);have HP:=Zaa (P.out.trans (Zas hy));have AP:Box (∀ j,j∈F2->j∉Fb):=⟨fun j hj hj2=>by have:=ID.out.newB.lt j hj2;have:=hN2.ge j hj;omega⟩;have KK2:=Zaa (KD.out.trans hk2);have HH2:=Zaa (Yda I2 (Yda hr2 Z2));obtain⟨e0,e1,e2,e3,se⟩:=I2.blk.four;clear hk2 hy hQ hN2 hr2 I2 Z2)
      | (go_at_call 177
         refine CJ.out.mono ?_;rintro e w3 (⟨hE,⟨L,hL,rfl,hB⟩,hb3⟩ | ⟨hne,p',c',F',rfl,hG⟩)
         ·exact⟨rfl,KK2.out.ofBelow hb3,Or.inl ⟨4,_,F.out.trans (Zai (HY.out.symm.trans (Zhq (HP.out.trans (if_pos hE))))),by decide,L,Ydc KK2.out.size hL,rfl,hB⟩⟩
         have LB3:=HH2.out.1.blk.of (hG.same (w.heap.size+1) HH2.out.1.blk.lt (fun hj=>by have:=HH2.out.1.newG.ge _ hj;omega));obtain⟨e0,e1,e2,e3,se⟩:=LB3.four;have HG:=Zaa hG;have HL3:=Zaa LB3;clear hG LB3))
     all_goals
      have I3:Ze5 w (w3.setCell ⟨w.heap.size+1,3,none⟩ (.slice p' (r.guards.length+1) c')) {r with guards:=r.guards++[z]} pb cb p' c' Fb F':=by
       have I2:=HH2.out.1;have lw:w.heap.size+1 < w3.heap.size:=HL3.out.lt
       exact{res:=(I2.res.of (HG.out.same _ I2.res.lt (fun hj=>by have:=I2.newG.ge _ hj;omega))).away _ _ (by omega) _,blk:=(by have:=HL3.out.set 3 (.slice p' (r.guards.length+1) c');simpa using this),rowG:=(by have:=Zag.stable (Zbr.stable (ty:=Zad) (3+1)) _ (w3.setCell ⟨w.heap.size+1,3,none⟩ (.slice p' (r.guards.length+1) c')) _ _ _ HG.out.row (fun j hj=>Ydg _ _ _ j (by show j≠w.heap.size+1;have:=HG.out.new.ge j hj;omega));simpa using this),rowB:=Zag.stable (Zbk.stable (ty:=Zad) 4) _ _ _ _ _ I2.rowB (fun j hj=>(Ydg _ _ _ j (by show j≠w.heap.size+1;have:=I2.newB.ge j hj;omega)).trans (HG.out.same j (I2.newB.lt j hj) (fun hj2=>I2.apart j hj hj2))),newG:=HG.out.new.later lr (by simp),newB:=I2.newB.later lr (by have:=HG.out.size;simp;omega),apart:=(fun j hj hj2=>by
        rcases HG.out.sub j hj2 with h1 | h1 | h1
        ·exact I2.apart j hj h1
        ·exact AP.out j h1 hj
        ·have:=I2.newB.lt j hj;omega),leG:=(by simp;omega),leB:=leB,bare:=I2.bare}
      have hr3:Rd (w3.setCell ⟨w.heap.size+1,3,none⟩ (.slice p' (r.guards.length+1) c')) b t r2 x2:=⟨(HH2.out.2.1.1.of (HG.out.same b HH2.out.2.1.1.lt (fun hj=>by have:=HH2.out.1.newG.ge _ hj;omega))).away _ _ (by omega) _,HH2.out.2.1.2⟩;have K3:Zah b w (w3.setCell ⟨w.heap.size+1,3,none⟩ (.slice p' (r.guards.length+1) c')):=(Zah.grew HG.out KK2.out (fun j hj=>by have:=HH2.out.1.newG.ge j hj;omega)).setNew _ _ _ (by omega);have Q3:=HP.out.trans (if_neg hne);have n2:=Zcb I3.blk.four.2.2.1;have n3:=Zcb I3.blk.four.2.2.2.1;obtain⟨w4,hw4⟩: ∃ w4,w3.setCell ⟨w.heap.size+1,3,none⟩ (.slice p' (r.guards.length+1) c')=w4:=⟨_,rfl⟩;rw[hw4]at I3 hr3 K3 n2 n3⊢;have R3:=Zaa (Yda I3 (Yda hr3 (Yda K3 (Yda (ZW.out.keeps K3 hg) Q3))));clear hw4 I3 hr3 K3 Q3 e0 e1 e2 e3 se f0 f1 f2 f3 sg HG HL3 HH2 KK2 HP CJ ID KD ZD CA P D1 I1 CB c0 c1 c2 c3 c4 c5 c6 c7 sf;obtain⟨c0,c1,c2,c3,c4,c5,c6,c7,sf⟩:=R3.out.2.1.1.eight;by_cases hc:x2.text.toList=[44]
      ·have g1:(x2.text.toList==[44])=true:=by rw[Yfb];exact hc
       have M:=Zaa (Zq6 (n:=n) R3.out.2.2.2.2 hc);have CT:=Zaa (Zc8 R3.out.2.2.2.1 R3.out.2.1);clear hc;go_wp2_with fail
       refine CT.out.mono ?_;rintro e w5 ⟨hk5,⟨n5,r5,hy,hn5,L,hL,rfl,hB⟩ | ⟨v,y5,x5,r5,hy,rfl,hv,hr5⟩⟩
       ·exact⟨rfl,R3.out.2.2.1.trans hk5,Or.inl ⟨n5,r5,F.out.trans (Zai (HY.out.symm.trans (M.out.1 _ hy))),hn5,L,Ydc R3.out.2.2.1.size hL,rfl,hB⟩⟩
       obtain rfl:v=Zm2 y5:=hv;have I5:=R3.out.1.keeps hk5 hb;have l2:=Zcb I5.blk.four.2.2.1;have l3:=Zcb I5.blk.four.2.2.2.1;have R5:=Zaa (Yda I5 (Yda (show Zpi a b w t w5 r5 x5 from⟨hr5,R3.out.2.2.1.trans hk5,R3.out.2.2.2.1.keeps hk5 hg,(Zeq ht hy).1⟩) (HY.out.symm.trans (M.out.2 _ _ _ hy))));have lb5:=I5.leB;have lg5:=I5.leG;clear I5 hk5 hy hr5;go_wp2_with fail
       refine⟨⟨_,_,_,_,_,_,_,x5,r5,R5.out.1,R5.out.2.1,?_⟩,?_⟩
       ·rw[R5.out.2.2];congr 1
        simp;omega
       ·rw[l2,l3,m2,m3];simp at lb5 lg5⊢;omega
      ·have g1:(x2.text.toList==[44])=false:=by rw[Ye4];exact hc
       have M:=Zaa (HY.out.symm.trans (Zun (n:=n) R3.out.2.2.2.2 hc));clear hc;go_wp2_with fail
       go_meet
       case rel=>exact⟨_,_,_,_,_,_,_,x2,r2,R3.out.1,R3.out.2.1,R3.out.2.2.1,R3.out.2.2.2.1,M.out⟩
 case rest=>
  obtain⟨wk,rfl⟩: ∃ x,x=wc:=⟨wc,rfl⟩;obtain⟨r,pb,cb,pg,cg,Fb,Fg,x1,p1,hI,hR,hK,hZ,hY⟩:=hcut;obtain⟨f0,f1,f2,f3,sg⟩:=hI.blk.four;have HI:=Zaa hI;have HR:=Zaa (Yda hR (Yda hK hZ));have Y1:Box (Znk t x p=if r.guards.all (fun g=>Zc4 [g.a,g.b] r.body)=true then .ok (r,x1,p1)else .error (5,x.at_)):=⟨F.out.trans (Zas hY)⟩;clear hI hR hK hZ hY K0 D0 B0 F c0 c1 c2 c3 c4 c5 c6 c7 sf;go_wp2
  go_loopw [57] (fun iv wr=>Yca a b t w r pb cb pg cg Fb Fg x1 p1 iv wr) (fun iv _=>r.guards.length - Zyz iv)
  case atStart=>exact⟨0,by omega,rfl,HI.out,HR.out,fun j _ hj=>absurd hj (by omega)⟩
  case round=>
   clear f0 f1 f2 f3 sg HI HR;obtain⟨k,hk,rfl,hI,hRR,hall⟩:=hrel;have H:=Zaa (Yda hI (Yda hRR hall));have hle:=hI.leG;have lR:=hI.res.lt;have lB:=hI.blk.lt;by_cases hlt:k < r.guards.length
   ·obtain⟨gp,gc,hg0,_,hgr⟩:=Zfw.rep (ty:=Zad) (d:=4) (B:=wr.heap.size) hI.rowG (fun j hj=>hI.newG.lt j hj);cases hg0;obtain⟨ap,ac,ha0,_,har⟩:=Zeu.rep (ty:=Zad) (d:=4) (B:=wr.heap.size) hI.rowB (fun j hj=>hI.newB.lt j hj);cases ha0;obtain⟨g,hgk⟩: ∃ g,r.guards[k]?=some g:=⟨_,Ydi hlt⟩;obtain⟨bb,oo,rfl,hga⟩:=hgr.at_ k g hgk;obtain⟨hbb,q1,d1,q2,d2,v0,v1,v2,v3,v4,v5,v6,v7,v8,hGS⟩:=hga.vals;have ALB:=Zaa (fun u (hu:Below wr.heap.size wr u) t' e (hL:Blk u t' #[.int .i64 g.a.k,.int .i64 g.a.i,.string g.a.t,.slice q1 g.a.l.length d1,.int .i64 g.b.k,.int .i64 g.b.i,.string g.b.t,.slice q2 g.b.l.length d2] e)=>Zdg (D:=3) (p:=some ⟨t',0,none⟩) (xs:=[g.a,g.b]) (c:=2) (c':=cb) (B:=u.heap.size) ⟨by simp,fun i y h=>by
     obtain⟨va,vb,hv,_,hTa,hTb⟩:=hGS;obtain⟨pa,ka,rfl,hA⟩:=hTa;obtain⟨pb',kb,rfl,hB'⟩:=hTb;cases hv;match i,h with
     | 0,h=>
      obtain rfl:g.a=y:=by simpa using h
      exact⟨t',0,rfl,Zc2.at_ (Zc2.carry ⟨_,_,rfl,hA⟩ (Za4 hu lr)) hu.size hL.lt fun j hj=>by
       rw[Yex,Yey,Yd7,hL.cell]
       have:j=0\/j=1\/j=2\/j=3:=by omega
       rcases this with rfl | rfl | rfl | rfl <;> rfl⟩
     | 1,h=>
      obtain rfl:g.b=y:=by simpa using h
      exact⟨t',0,rfl,Zc2.at_ (Zc2.carry ⟨_,_,rfl,hB'⟩ (Za4 hu lr)) hu.size hL.lt fun j hj=>by
       rw[Nat.one_mul,Yd7,hL.cell]
       have:j=0\/j=1\/j=2\/j=3:=by omega
       rcases this with rfl | rfl | rfl | rfl <;> rfl⟩
     | i+2,h=>simp at h⟩ (har.carry fun _ _ _ r=>(r.carry (Za4 hu lr) lr).carry (Zc1.up hu.size) lr) lr)
    have gk:(k:Int) < (r.guards.length:Int):=by omega
    obtain⟨f0,f1,f2,f3,sg⟩:=hI.blk.four;clear hI hRR hall hgr har hga hGS;have B2:=Zaa (((Ydb wr.heap.size wr).alloc lr (.cells #[.int .i64 g.op,.int .i64 g.a.k,.int .i64 g.a.i,.string g.a.t,.slice q1 g.a.l.length d1,.int .i64 g.b.k,.int .i64 g.b.i,.string g.b.t,.slice q2 g.b.l.length d2] 119)).alloc (by simp) (.cells #[.int .i64 g.a.k,.int .i64 g.a.i,.string g.a.t,.slice q1 g.a.l.length d1,.int .i64 g.b.k,.int .i64 g.b.i,.string g.b.t,.slice q2 g.b.l.length d2] 117));have LL:=Zaa (Blk.new (wr.alloc (.cells #[.int .i64 g.op,.int .i64 g.a.k,.int .i64 g.a.i,.string g.a.t,.slice q1 g.a.l.length d1,.int .i64 g.b.k,.int .i64 g.b.i,.string g.b.t,.slice q2 g.b.l.length d2] 119)) #[.int .i64 g.a.k,.int .i64 g.a.i,.string g.a.t,.slice q1 g.a.l.length d1,.int .i64 g.b.k,.int .i64 g.b.i,.string g.b.t,.slice q2 g.b.l.length d2] 117);simp only[Ydm]at LL;go_wp2_with fail
    refine(ALB.out _ B2.out _ _ LL.out).mono ?_;rintro e w1 ⟨rfl,hb1⟩;have hbw:=B2.out.trans (hb1.mono (by simp;omega));have I1:=Zaa (H.out.1.later hbw);have R1:=Zaa (Yda (H.out.2.1.1.of hbw) (Yda (H.out.2.1.2.1.ofBelow hbw) (H.out.2.1.2.2.below hbw)));have hs1:=hbw.size;clear hb1 hbw B2 LL ALB v0 v1 v2 v3 v4 v5 v6 v7 v8 f0 f1 f2 f3 sg;cases hbd:Zc4 [g.a,g.b] r.body
    ·have Y2:Box (Znk t x p= .error (5,x.at_)):=⟨by
      rw[Y1.out,if_neg];intro hh
      have:=Ye1.1 hh g (Yeq hgk)
      rw[hbd]at this;cases this⟩
     have z5:=R1.out.2.2.c5;have CS:=Zaa (Ze3 a (n:=5) (by decide) x.at_ w1);go_wp2_with fail
     refine CS.out.mono ?_;rintro e w2 ⟨⟨L,hL,rfl,hB⟩,hb2⟩;exact⟨rfl,R1.out.2.1.ofBelow hb2,Or.inl ⟨5,_,Y2.out,by decide,L,Ydc R1.out.2.1.size hL,rfl,hB⟩⟩
    ·have A1:Box (∀ j g',j < k+1->r.guards[j]?=some g'->Zc4 [g'.a,g'.b] r.body=true):=⟨fun j g' hj hg'=>by
      by_cases hjk:j=k
      ·subst hjk;rw[hgk]at hg';cases hg';exact hbd
      ·exact H.out.2.2 j g' (by omega) hg'⟩
     go_wp2
     exact⟨⟨k+1,by omega,by simp,I1.out,R1.out,A1.out⟩,by simp[Zyz];omega⟩
   ·obtain rfl:k=r.guards.length:=by omega
    have Y2:Box (Znk t x p= .ok (r,x1,p1)):=⟨by
     rw[Y1.out,if_pos];rw[Ye1];intro g hg;obtain⟨j,hj,rfl⟩:=List.getElem_of_mem hg;exact hall j _ hj (Ydi hj)⟩
    have gk: ¬ (r.guards.length:Int) < (r.guards.length:Int):=by omega
    obtain⟨f0,f1,f2,f3,sg⟩:=hI.blk.four;obtain⟨y0,y1,y2,y3,sy⟩:=hI.res.four;clear hI hRR hall;go_wp2
    refine Ye6 (by simp[results,results135,go_sem,y0,y1,y2,y3];try rfl) rfl ?_;obtain⟨hI,⟨hR,hK,hZ⟩,-⟩:=H.out;have hN:Za7 w.heap.size wr (Fb++Fg):=⟨Yem.2 ⟨hI.newB.once,hI.newG.once,fun i hi j hj e=>hI.apart i hi (e▸hj)⟩,fun j hj=>(Ydk.1 hj).elim (fun h=>by have:=hI.newB.ge j h;omega) (fun h=>by have:=hI.newG.ge j h;omega),fun j hj=>(Ydk.1 hj).elim (hI.newB.lt j) (hI.newG.lt j)⟩;refine⟨hK.r4 lr,Or.inr ⟨_,r,x1,p1,Y2.out,rfl,⟨[.string ⟨#[]⟩,.slice none 0 0,.slice pb r.body.length cb,.slice pg r.guards.length cg],Fb++Fg,rfl,⟨[.string ⟨#[]⟩,.slice none 0 0],_,_,[],Fb,Fg,rfl,?_,Zag.stable (Zbk.stable (ty:=Zad) 4) _ _ _ _ _ hI.rowB fun j hj=>Zch (by have:=hI.newB.ge j hj;omega),Zag.stable (Zbr.stable (ty:=Zad) (3+1)) _ _ _ _ _ hI.rowG fun j hj=>Zch (by have:=hI.newG.ge j hj;omega),rfl⟩,hN.later lr (by simp)⟩,hR.keepN (Zch (by omega))⟩⟩;rw[hI.bare];exact⟨_,rfl,by show(0:Nat) < _;decide,Zag.nil⟩
end Go.P
