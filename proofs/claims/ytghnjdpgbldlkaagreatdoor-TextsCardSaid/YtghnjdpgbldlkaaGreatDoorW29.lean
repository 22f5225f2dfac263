import Derived.Test.YtghnjdpgbldlkaaGreatDoorW28
import Derived.Deep.CutBlock
import Derived.Deep.DeepCutAuto
set_option maxRecDepth 100000
set_option maxHeartbeats 8000000
set_option linter.unusedSimpArgs false
open Go.Proofs Go.RowKit Go.W Tryz
namespace Go.W
variable {x1:Tk}{p1:Nat}
section
variable {t:ByteArray} {r:R} {x:Tk} {p n:Nat}
theorem Z6m (h:GM x.text=true/\H8 x.text=false):Qi t r x p=BU (OZ t x p) fun a x1 p1=>if r.body.length=4 then .error (4,x.at_)else .ok ({r with body:=r.body++[a]},x1,p1):=if_pos h
theorem Z23 (h: ¬ (GM x.text=true/\H8 x.text=false)):Qi t r x p=BU (Vx t x p) fun g x1 p1=>if r.guards.length=4 then .error (4,x.at_)else .ok ({r with guards:=r.guards++[g]},x1,p1):=if_neg h
theorem nM {e:Int×Nat}(h:Qi t r x p= .error e):Iw t (n+1) r x p= .error e:=by rw[Iw];exact Ef h
theorem Zwq {r1:R}(h:Qi t r x p= .ok (r1,x1,p1))(hc:x1.text.toList≠[44]):Iw t (n+1) r x p= .ok (r1,x1,p1):=by rw[Iw,Cc h,if_neg hc]
theorem Zsi {r1:R}(h:Qi t r x p= .ok (r1,x1,p1))(hc:x1.text.toList=[44]):(∀ e,EP t x1 p1= .error e->Iw t (n+1) r x p= .error e)/\ ∀ y x2 p2,EP t x1 p1= .ok (y,x2,p2)->Iw t (n+1) r x p=Iw t n r1 x2 p2:=by
 rw[Iw,Cc h,if_pos hc];exact⟨fun e he=>Ef he,fun y x2 p2 he=>Cc he⟩
end
end Go.W
namespace Go.P
variable {w wr wq:World}{r:R}{pb pg:Option Addr}{cb cg b:Nat}{Fb Fg:List Nat}
structure Nn (w wr:World) (r:R) (pb:Option Addr) (cb:Nat) (pg:Option Addr) (cg:Nat) (Fb Fg:List Nat):Prop where
 res:AJ wr w.heap.size #[.string ⟨#[]⟩,.slice none 0 0,.slice none 0 0,.slice none 0 0] 98
 blk:AJ wr (w.heap.size+1) #[.string ⟨#[]⟩,.slice none 0 0,.slice pb r.body.length cb,.slice pg r.guards.length cg] 98
 rowB:AO 95 2 (Bo AY 4) wr (.slice pb r.body.length cb) r.body Fb
 rowG:AO 102 9 (Ee AY<|3+1) wr (.slice pg r.guards.length cg) r.guards Fg
 newB:Af (w.heap.size+2) wr Fb
 newG:Af (w.heap.size+2) wr Fg
 apart: ∀ j,j∈Fb->j∉Fg
 leB:r.body.length<=4
 leG:r.guards.length<=4
 bare:r.head=⟨⟨#[]⟩,[]⟩
theorem Nn.keep (h:Nn w wr r pb cb pg cg Fb Fg)(hs:wr.heap.size<=wq.heap.size)(k: ∀ j,w.heap.size<=j->j<wr.heap.size->wq.heap[j]?=wr.heap[j]?):Nn w wq r pb cb pg cg Fb Fg:=
 ⟨h.res.of<|k _ zx h.res.lt,h.blk.of<|k _ zx h.blk.lt,AO.stable (Bo.stable (ty:=AY) 4) _ _ _ _ _ h.rowB fun j hj=>k j (by have:=h.newB.ge j hj;omega) (h.newB.lt j hj),AO.stable (Ee.stable (ty:=AY)<|3+1) _ _ _ _ _ h.rowG fun j hj=>k j (by have:=h.newG.ge j hj;omega) (h.newG.lt j hj),h.newB.later lr hs,h.newG.later lr hs,h.apart,h.leB,h.leG,h.bare⟩
theorem Nn.later (h:Nn w wr r pb cb pg cg Fb Fg)(k:Bl wr wq):Nn w wq r pb cb pg cg Fb Fg:=h.keep k.size fun j _ hj=>k.block j hj
theorem Nn.keeps (h:Nn w wr r pb cb pg cg Fb Fg)(k:Ac b wr wq)(hb:b<w.heap.size):Nn w wq r pb cb pg cg Fb Fg:=h.keep k.size fun j h1 hj=>k.block j hj zx
def Ya7 (a:Nat->Addr) (b:Nat) (t:ByteArray) (Y:Re R) (w:World) (wr:World):Prop:= ∃ (r:R) (pb:Option Addr) (cb:Nat) (pg:Option Addr) (cg:Nat) (Fb Fg:List Nat) (x:Tk) (p:Nat),Nn w wr r pb cb pg cg Fb Fg/\Jc a b w t wr p x/\Iw t (9-(r.body.length+r.guards.length)) r x p=Y
def Ya6 (a:Nat->Addr) (b:Nat) (t:ByteArray) (Y:Re R) (w:World) (wr:World):Prop:= ∃ (r:R) (pb:Option Addr) (cb:Nat) (pg:Option Addr) (cg:Nat) (Fb Fg:List Nat) (x:Tk) (p:Nat),Nn w wr r pb cb pg cg Fb Fg/\Rd wr b t p x/\Ac b w wr/\Aa a wr/\Y= .ok (r,x,p)
def Yfg (a:Nat->Addr) (b:Nat) (t:ByteArray) (w:World) (r:R) (pb:Option Addr) (cb:Nat) (pg:Option Addr) (cg:Nat) (Fb Fg:List Nat) (x:Tk) (p:Nat) (iv:Value) (wr:World):Prop:= ∃ k:Nat,k<=r.guards.length/\iv= .int .i64 (k:Int)/\Nn w wr r pb cb pg cg Fb Fg/\(Rd wr b t p x/\Ac b w wr/\Aa a wr)/\ ∀ j g,j<k->r.guards[j]?=some g->Ez [g.a,g.b] r.body=true
def ZJ (w:World) (L o:Nat):Nat:=match w.cell? ⟨L,o,none⟩with
 | some v=>XU v
 | none=>0
theorem Lh {L o n c:Nat}{p:Option Addr}(h:w.cell? ⟨L,o,none⟩=some (.slice p n c)):ZJ w L o=n:=by unfold ZJ;rw[h];rfl
theorem Zww {a:Nat->Addr}{t:ByteArray}{p:Nat}{x:Tk}(Z:Aa a w)(h:Rd w b t p x)(hx:Ic x):
  Calls prog 121 #[.pointer<|Qb b 0] w (IA a b t (G5 (Cj AY 4) w.heap.size) w<|MN t x p):=by
 have hg:=h.2.2.2;have ht:=h.2.1;have hb:=h.1.lt;obtain⟨c0,c1,c2,c3,c4,c5,c6,c7,sf⟩:=h.1.eight;have K0:=AA<|((Ac.refl b w).alloc<|.cells #[.string ⟨#[]⟩,.slice none 0 0,.slice none 0 0,.slice none 0 0] 98).alloc<|.cells #[.string ⟨#[]⟩,.slice none 0 0,.slice none 0 0,.slice none 0 0] 98;have D0:AC (Jc a b w t ((w.alloc<|.cells #[.string ⟨#[]⟩,.slice none 0 0,.slice none 0 0,.slice none 0 0] 98).alloc<|.cells #[.string ⟨#[]⟩,.slice none 0 0,.slice none 0 0,.slice none 0 0] 98) p x):=⟨(h.alloc _).alloc _,K0.out,Z.keeps K0.out hg,hx⟩;have B0:AC (Nn w ((w.alloc<|.cells #[.string ⟨#[]⟩,.slice none 0 0,.slice none 0 0,.slice none 0 0] 98).alloc<|.cells #[.string ⟨#[]⟩,.slice none 0 0,.slice none 0 0,.slice none 0 0] 98) Jh none 0 none 0 [] []):=⟨{res:=(AJ.new w _ _).alloc _,blk:=(by have:=AJ.new (w.alloc<|.cells #[.string ⟨#[]⟩,.slice none 0 0,.slice none 0 0,.slice none 0 0] 98) #[.string ⟨#[]⟩,.slice none 0 0,.slice none 0 0,.slice none 0 0] 98;simp only[EH]at this;exact this),rowB:=AO.nil,rowG:=AO.nil,newB:=Af.nil _ _,newG:=Af.nil _ _,apart:=fun _ hj=>absurd hj SA,leB:=zu,leG:=zu,bare:=rfl}⟩;have F:AC (MN t x p=BU (Iw t 9 Jh x p) fun r x1 p1=>if r.guards.all (fun g=>Ez [g.a,g.b] r.body)=true then .ok (r,x1,p1)else .error (5,x.at_)):=⟨rfl⟩;have ZW:=AA Z;clear Z h;go_in
 go_upto_block 0 with fail
 go_cut [5] (fun _ wc=>Ya6 a b t (Iw t 9 Jh x p) w wc)
 case first=>
  go_wp2
  go_loopw [5] (fun _ wr=>Ya7 a b t (Iw t 9 Jh x p) w wr) (fun _ wr=>9-(ZJ wr (w.heap.size+1) 2+ZJ wr (w.heap.size+1) 3))
  case atStart=>exact⟨Jh,none,0,none,0,[],[],x,p,B0.out,D0.out,rfl⟩
  case round=>
   clear D0 B0 K0 c0 c1 c2 c3 c4 c5 c6 c7 sf;obtain⟨r,pb,cb,pg,cg,Fb,Fg,y,q,hI,hD,hY⟩:=hrel;obtain⟨c0,c1,c2,c3,c4,c5,c6,c7,sf⟩:=hD.1.1.eight;have HI:=AA hI;have HD:=AA hD;have HY:=AA hY;have hszr:=hI.blk.lt;have m2:=Lh hI.blk.four.2.2.1;have m3:=Lh hI.blk.four.2.2.2.1;have leB:=hI.leB;have leG:=hI.leG;have CW:=AA<|Zr8 y hD.2.2.2.1 wr;have CB:=AA<|Zr7 y.text;unfold IK at CW;generalize Iw t 9 Jh x p=Y at*;clear hI hD hY;go_wp2_with fail
   refine mq CW.out ?_;rintro w1 hb1;have D1:AC (Jc a b w t w1 q y):=⟨HD.out.1.of hb1,HD.out.2.1.AR hb1,HD.out.2.2.1.below hb1,HD.out.2.2.2⟩;have I1:=AA<|HI.out.later hb1;have hs1:=hb1.size;clear hb1 c0 c1 c2 c3 c4 c5 c6 c7 sf HD HI CW;obtain⟨c0,c1,c2,c3,c4,c5,c6,c7,sf⟩:=D1.out.1.1.eight;obtain⟨f0,f1,f2,f3,sg⟩:=I1.out.blk.four;obtain⟨n,hn⟩: ∃ n,9-(r.body.length+r.guards.length)=n+1:=⟨8-(r.body.length+r.guards.length),zx⟩;rw[hn]at HY;by_cases YD:GM y.text=true/\H8 y.text=false
   ·have P:=AA<|Z6m (t:=t) (r:=r) (p:=q) YD;rw[YD.2]at CB;rw[YD.1];have CA:=AA<|Zwv D1.out.2.2.1.drew D1.out.1.drew D1.out.2.2.2;have ID:AC (Nn w w1.drew r pb cb pg cg Fb Fg):=⟨I1.out.keep lr fun _ _ _=>rfl⟩;have KD:=AA D1.out.2.1.drew;have YI:w.heap.size+2<=w1.drew.heap.size:=I1.out.blk.lt;have ZD:=AA D1.out.2.2.1.drew;clear YD;go_wp2_with (go_at_call 175;refine(CB.out _).mono ?_;rintro e w' ⟨rfl,rfl⟩)
    go_region_with (first
     | (go_at_call 118
        refine CA.out.mono ?_;rintro e w2 ⟨hk2,⟨n2,r2,hy,II,L,hL,rfl,hB⟩ | ⟨v,z,x2,r2,hy,rfl,⟨vs,F2,rfl,hQ,BI⟩,hr2⟩⟩
        ·exact⟨rfl,KD.out.trans hk2,Or.inl ⟨n2,r2,F.out.trans<|Ef<|HY.out.symm.trans<|nM<|P.out.trans<|Ef hy,II,L,AU KD.out.size hL,rfl,hB⟩⟩
        obtain⟨p1,cc,rfl⟩:=Bo.vals hQ;have I2:=ID.out.keeps hk2 hb;have hs2:=hk2.size;have Z2:=ZD.out.keeps hk2 hg;have CJ:=AA<|Zpp (d:=4) (B:=w.heap.size+2) (m:=4) (k:=y.at_) Z2 I2.rowB hQ (by have:=I2.blk.lt;omega) I2.newB (BI.later YI lr) (fun j hj Ao=>by have:=ID.out.newB.lt j hj;have:=BI.ge j Ao;omega) zx leB;have HP:=AA<|P.out.trans<|Cc hy;have AP:AC (∀ j,j∈F2->j∉Fg):=⟨fun j hj Ao=>by have:=ID.out.newG.lt j Ao;have:=BI.ge j hj;omega⟩;have Q9:=AA<|KD.out.trans hk2;have FQ:=AA<|AF I2<|AF hr2 Z2;obtain⟨e0,e1,e2,e3,se⟩:=I2.blk.four;clear hk2 hy hQ BI hr2 I2 Z2)
     | (go_at_call 120
        refine CJ.out.mono ?_;rintro e w3 (⟨hE,⟨L,hL,rfl,hB⟩,hb3⟩ | ⟨hne,p',c',F',rfl,hG⟩)
        ·exact⟨rfl,Q9.out.AR hb3,Or.inl ⟨4,_,F.out.trans<|Ef<|HY.out.symm.trans<|nM<|HP.out.trans<|if_pos hE,zu,L,AU Q9.out.size hL,rfl,hB⟩⟩
        have VG:=FQ.out.1.blk.of<|hG.same (w.heap.size+1) FQ.out.1.blk.lt (fun hj=>by have:=FQ.out.1.newB.ge _ hj;omega);obtain⟨e0,e1,e2,e3,se⟩:=VG.four;have HG:=AA hG;have Zy:=AA VG;clear hG VG))
    all_goals
     have I3:Nn w (w3.setCell ⟨w.heap.size+1,2,none⟩<|.slice p' (r.body.length+1) c') {r with body:=r.body++[z]} p' c' pg cg F' Fg:=by
      have I2:=FQ.out.1;have lw:w.heap.size+1<w3.heap.size:=Zy.out.lt
      exact{res:=(I2.res.of<|HG.out.same _ I2.res.lt (fun hj=>by have:=I2.newB.ge _ hj;omega)).away _ _ zx _,blk:=(by have:=Zy.out.set 2<|.slice p' (r.body.length+1) c';simpa using this),rowB:=(by have:=AO.stable (Bo.stable (ty:=AY) 4) _ (w3.setCell ⟨w.heap.size+1,2,none⟩<|.slice p' (r.body.length+1) c') _ _ _ HG.out.row fun j hj=>Au _ _ _ j (by show j≠w.heap.size+1;have:=HG.out.new.ge j hj;omega);simpa using this),rowG:=AO.stable (Ee.stable (ty:=AY)<|3+1) _ _ _ _ _ I2.rowG fun j hj=>(Au _ _ _ j (by show j≠w.heap.size+1;have:=I2.newG.ge j hj;omega)).trans (HG.out.same j (I2.newG.lt j hj) fun Ao=>I2.apart j Ao hj),newB:=HG.out.new.later lr zw,newG:=I2.newG.later lr (by have:=HG.out.size;simp;omega),apart:=(fun j hj Ao=>by
       rcases HG.out.sub j hj with h1 | h1 | h1
       ·exact I2.apart j h1 Ao
       ·exact AP.out j h1 Ao
       ·have:=I2.newG.lt j Ao;omega),leB:=(by simp;omega),leG:=leG,bare:=I2.bare}
     have hr3:Rd (w3.setCell ⟨w.heap.size+1,2,none⟩<|.slice p' (r.body.length+1) c') b t r2 x2:=⟨(FQ.out.2.1.1.of<|HG.out.same b FQ.out.2.1.1.lt (fun hj=>by have:=FQ.out.1.newB.ge _ hj;omega)).away _ _ zx _,FQ.out.2.1.2⟩;have K3:Ac b w (w3.setCell ⟨w.heap.size+1,2,none⟩<|.slice p' (r.body.length+1) c'):=(Ac.NK HG.out Q9.out (fun j hj=>by have:=FQ.out.1.newB.ge j hj;omega)).Ai _ _ _ zx;have Q3:=HP.out.trans<|if_neg hne;have n2:=Lh I3.blk.four.2.2.1;have n3:=Lh I3.blk.four.2.2.2.1;obtain⟨w4,hw4⟩: ∃ w4,w3.setCell ⟨w.heap.size+1,2,none⟩ (.slice p' (r.body.length+1) c')=w4:=⟨_,rfl⟩;rw[hw4]at I3 hr3 K3 n2 n3⊢;have R3:=AA<|AF I3<|AF hr3<|AF K3<|AF (ZW.out.keeps K3 hg) Q3;clear hw4 I3 hr3 K3 Q3 e0 e1 e2 e3 se f0 f1 f2 f3 sg HG Zy FQ Q9 HP CJ ID KD ZD CA P D1 I1 CB c0 c1 c2 c3 c4 c5 c6 c7 sf;obtain⟨c0,c1,c2,c3,c4,c5,c6,c7,sf⟩:=R3.out.2.1.1.eight;by_cases hc:x2.text.toList=[44]
     ·have g1:(x2.text.toList==[44])=true:=by rw[DJ];exact hc
      have M:=AA<|Zsi (n:=n) R3.out.2.2.2.2 hc;have CT:=AA<|Ro R3.out.2.2.2.1 R3.out.2.1;clear hc;go_wp2_with fail
      refine CT.out.mono ?_;rintro e w5 ⟨J7,⟨n5,r5,hy,qZ,L,hL,rfl,hB⟩ | ⟨v,y5,x5,r5,hy,rfl,hv,Me⟩⟩
      ·exact⟨rfl,R3.out.2.2.1.trans J7,Or.inl ⟨n5,r5,F.out.trans<|Ef<|HY.out.symm.trans<|M.out.1 _ hy,qZ,L,AU R3.out.2.2.1.size hL,rfl,hB⟩⟩
      obtain rfl:v=IK y5:=hv;have I5:=R3.out.1.keeps J7 hb;have l2:=Lh I5.blk.four.2.2.1;have l3:=Lh I5.blk.four.2.2.2.1;have R5:=AA<|AF I5<|AF (show Jc a b w t w5 r5 x5 from⟨Me,R3.out.2.2.1.trans J7,R3.out.2.2.2.1.keeps J7 hg,(Tt ht hy).1⟩)<|HY.out.symm.trans<|M.out.2 _ _ _ hy;have kF:=I5.leB;have pX:=I5.leG;clear I5 J7 hy Me;go_wp2_with fail
      refine⟨⟨_,_,_,_,_,_,_,x5,r5,R5.out.1,R5.out.2.1,?_⟩,?_⟩
      ·rw[R5.out.2.2];congr 1
       simp;omega
      ·rw[l2,l3,m2,m3];simp at kF pX⊢;omega
     ·have g1:(x2.text.toList==[44])=false:=by rw[BK];exact hc
      have M:=AA<|HY.out.symm.trans<|Zwq (n:=n) R3.out.2.2.2.2 hc;clear hc;go_wp2_with fail
      go_meet
      case rel=>exact⟨_,_,_,_,_,_,_,x2,r2,R3.out.1,R3.out.2.1,R3.out.2.2.1,R3.out.2.2.2.1,M.out⟩
   ·have P:=AA<|Z23 (t:=t) (r:=r) (p:=q) YD;have GG:GM y.text=false\/GM y.text=true/\H8 y.text=true:=by
     cases h1:GM y.text
     ·exact Or.inl rfl
     ·cases h2:H8 y.text
      ·exact absurd ⟨h1,h2⟩ YD
      ·exact Or.inr ⟨rfl,rfl⟩
    have CA:=AA<|Z3d D1.out.2.2.1.drew D1.out.1.drew D1.out.2.2.2;have ID:AC (Nn w w1.drew r pb cb pg cg Fb Fg):=⟨I1.out.keep lr fun _ _ _=>rfl⟩;have KD:=AA D1.out.2.1.drew;have YI:w.heap.size+2<=w1.drew.heap.size:=I1.out.blk.lt;have ZD:=AA D1.out.2.2.1.drew;clear YD;rcases GG with ga | ⟨ga,gb⟩
    case' inr=>rw[gb]at CB
    all_goals
     rw[ga];go_wp2_with (go_at_call 175;refine(CB.out _).mono ?_;rintro e w' ⟨rfl,rfl⟩)
     go_region_with (first
      | (go_at_call 177
         refine CA.out.mono ?_;rintro e w2 ⟨hk2,⟨n2,r2,hy,II,L,hL,rfl,hB⟩ | ⟨v,z,x2,r2,hy,rfl,⟨vs,F2,rfl,hQ,BI⟩,hr2⟩⟩
         ·exact⟨rfl,KD.out.trans hk2,Or.inl ⟨n2,r2,F.out.trans<|Ef<|HY.out.symm.trans<|nM<|P.out.trans<|Ef hy,II,L,AU KD.out.size hL,rfl,hB⟩⟩
         obtain⟨p1,cc,p2,cc2,rfl⟩:=Ee.vals hQ;have I2:=ID.out.keeps hk2 hb;have hs2:=hk2.size;have Z2:=ZD.out.keeps hk2 hg;have CJ:=AA<|Zwg (d:=3) (B:=w.heap.size+2) (m:=4) (k:=y.at_) Z2 I2.rowG hQ (by have:=I2.blk.lt;omega) I2.newG (BI.later YI lr) (fun j hj Ao=>by have:=ID.out.newG.lt j hj;have:=BI.ge j Ao;omega) zx leG;have HP:=AA<|P.out.trans<|Cc hy;have AP:AC (∀ j,j∈F2->j∉Fb):=⟨fun j hj Ao=>by have:=ID.out.newB.lt j Ao;have:=BI.ge j hj;omega⟩;have Q9:=AA<|KD.out.trans hk2;have FQ:=AA<|AF I2<|AF hr2 Z2;obtain⟨e0,e1,e2,e3,se⟩:=I2.blk.four;clear hk2 hy hQ BI hr2 I2 Z2)
      | (go_at_call 176
         refine CJ.out.mono ?_;rintro e w3 (⟨hE,⟨L,hL,rfl,hB⟩,hb3⟩ | ⟨hne,p',c',F',rfl,hG⟩)
         ·exact⟨rfl,Q9.out.AR hb3,Or.inl ⟨4,_,F.out.trans<|Ef<|HY.out.symm.trans<|nM<|HP.out.trans<|if_pos hE,zu,L,AU Q9.out.size hL,rfl,hB⟩⟩
         have VG:=FQ.out.1.blk.of<|hG.same (w.heap.size+1) FQ.out.1.blk.lt (fun hj=>by have:=FQ.out.1.newG.ge _ hj;omega);obtain⟨e0,e1,e2,e3,se⟩:=VG.four;have HG:=AA hG;have Zy:=AA VG;clear hG VG))
     all_goals
      have I3:Nn w (w3.setCell ⟨w.heap.size+1,3,none⟩<|.slice p' (r.guards.length+1) c') {r with guards:=r.guards++[z]} pb cb p' c' Fb F':=by
       have I2:=FQ.out.1;have lw:w.heap.size+1<w3.heap.size:=Zy.out.lt
       exact{res:=(I2.res.of<|HG.out.same _ I2.res.lt (fun hj=>by have:=I2.newG.ge _ hj;omega)).away _ _ zx _,blk:=(by have:=Zy.out.set 3<|.slice p' (r.guards.length+1) c';simpa using this),rowG:=(by have:=AO.stable (Ee.stable (ty:=AY)<|3+1) _ (w3.setCell ⟨w.heap.size+1,3,none⟩<|.slice p' (r.guards.length+1) c') _ _ _ HG.out.row fun j hj=>Au _ _ _ j (by show j≠w.heap.size+1;have:=HG.out.new.ge j hj;omega);simpa using this),rowB:=AO.stable (Bo.stable (ty:=AY) 4) _ _ _ _ _ I2.rowB fun j hj=>(Au _ _ _ j (by show j≠w.heap.size+1;have:=I2.newB.ge j hj;omega)).trans (HG.out.same j (I2.newB.lt j hj) fun Ao=>I2.apart j hj Ao),newG:=HG.out.new.later lr zw,newB:=I2.newB.later lr (by have:=HG.out.size;simp;omega),apart:=(fun j hj Ao=>by
        rcases HG.out.sub j Ao with h1 | h1 | h1
        ·exact I2.apart j hj h1
        ·exact AP.out j h1 hj
        ·have:=I2.newB.lt j hj;omega),leG:=(by simp;omega),leB:=leB,bare:=I2.bare}
      have hr3:Rd (w3.setCell ⟨w.heap.size+1,3,none⟩<|.slice p' (r.guards.length+1) c') b t r2 x2:=⟨(FQ.out.2.1.1.of<|HG.out.same b FQ.out.2.1.1.lt (fun hj=>by have:=FQ.out.1.newG.ge _ hj;omega)).away _ _ zx _,FQ.out.2.1.2⟩;have K3:Ac b w (w3.setCell ⟨w.heap.size+1,3,none⟩<|.slice p' (r.guards.length+1) c'):=(Ac.NK HG.out Q9.out (fun j hj=>by have:=FQ.out.1.newG.ge j hj;omega)).Ai _ _ _ zx;have Q3:=HP.out.trans<|if_neg hne;have n2:=Lh I3.blk.four.2.2.1;have n3:=Lh I3.blk.four.2.2.2.1;obtain⟨w4,hw4⟩: ∃ w4,w3.setCell ⟨w.heap.size+1,3,none⟩ (.slice p' (r.guards.length+1) c')=w4:=⟨_,rfl⟩;rw[hw4]at I3 hr3 K3 n2 n3⊢;have R3:=AA<|AF I3<|AF hr3<|AF K3<|AF (ZW.out.keeps K3 hg) Q3;clear hw4 I3 hr3 K3 Q3 e0 e1 e2 e3 se f0 f1 f2 f3 sg HG Zy FQ Q9 HP CJ ID KD ZD CA P D1 I1 CB c0 c1 c2 c3 c4 c5 c6 c7 sf;obtain⟨c0,c1,c2,c3,c4,c5,c6,c7,sf⟩:=R3.out.2.1.1.eight;by_cases hc:x2.text.toList=[44]
      ·have g1:(x2.text.toList==[44])=true:=by rw[DJ];exact hc
       have M:=AA<|Zsi (n:=n) R3.out.2.2.2.2 hc;have CT:=AA<|Ro R3.out.2.2.2.1 R3.out.2.1;clear hc;go_wp2_with fail
       refine CT.out.mono ?_;rintro e w5 ⟨J7,⟨n5,r5,hy,qZ,L,hL,rfl,hB⟩ | ⟨v,y5,x5,r5,hy,rfl,hv,Me⟩⟩
       ·exact⟨rfl,R3.out.2.2.1.trans J7,Or.inl ⟨n5,r5,F.out.trans<|Ef<|HY.out.symm.trans<|M.out.1 _ hy,qZ,L,AU R3.out.2.2.1.size hL,rfl,hB⟩⟩
       obtain rfl:v=IK y5:=hv;have I5:=R3.out.1.keeps J7 hb;have l2:=Lh I5.blk.four.2.2.1;have l3:=Lh I5.blk.four.2.2.2.1;have R5:=AA<|AF I5<|AF (show Jc a b w t w5 r5 x5 from⟨Me,R3.out.2.2.1.trans J7,R3.out.2.2.2.1.keeps J7 hg,(Tt ht hy).1⟩)<|HY.out.symm.trans<|M.out.2 _ _ _ hy;have kF:=I5.leB;have pX:=I5.leG;clear I5 J7 hy Me;go_wp2_with fail
       refine⟨⟨_,_,_,_,_,_,_,x5,r5,R5.out.1,R5.out.2.1,?_⟩,?_⟩
       ·rw[R5.out.2.2];congr 1
        simp;omega
       ·rw[l2,l3,m2,m3];simp at kF pX⊢;omega
      ·have g1:(x2.text.toList==[44])=false:=by rw[BK];exact hc
       have M:=AA<|HY.out.symm.trans<|Zwq (n:=n) R3.out.2.2.2.2 hc;clear hc;go_wp2_with fail
       go_meet
       case rel=>exact⟨_,_,_,_,_,_,_,x2,r2,R3.out.1,R3.out.2.1,R3.out.2.2.1,R3.out.2.2.2.1,M.out⟩
 case rest=>
  obtain⟨wk,rfl⟩: ∃ x,x=wc:=⟨wc,rfl⟩;obtain⟨r,pb,cb,pg,cg,Fb,Fg,x1,p1,hI,hR,hK,hZ,hY⟩:=hcut;obtain⟨f0,f1,f2,f3,sg⟩:=hI.blk.four;have HI:=AA hI;have HR:=AA<|AF hR<|AF hK hZ;have Y1:AC (MN t x p=if r.guards.all (fun g=>Ez [g.a,g.b] r.body)=true then .ok (r,x1,p1)else .error (5,x.at_)):=⟨F.out.trans<|Cc hY⟩;clear hI hR hK hZ hY K0 D0 B0 F c0 c1 c2 c3 c4 c5 c6 c7 sf;go_wp2
  go_loopw [57] (fun iv wr=>Yfg a b t w r pb cb pg cg Fb Fg x1 p1 iv wr) (fun iv _=>r.guards.length-OM iv)
  case atStart=>exact⟨0,zx,rfl,HI.out,HR.out,fun j _ hj=>absurd hj zx⟩
  case round=>
   clear f0 f1 f2 f3 sg HI HR;obtain⟨k,hk,rfl,hI,rO,hall⟩:=hrel;have H:=AA<|AF hI<|AF rO hall;have hle:=hI.leG;have lR:=hI.res.lt;have lB:=hI.blk.lt;by_cases hlt:k<r.guards.length
   ·obtain⟨gp,gc,hg0,_,hgr⟩:=Tj.JR (ty:=AY) (d:=4) (B:=wr.heap.size) hI.rowG fun j hj=>hI.newG.lt j hj;cases hg0;obtain⟨ap,ac,ha0,_,gG⟩:=MR.JR (ty:=AY) (d:=4) (B:=wr.heap.size) hI.rowB fun j hj=>hI.newB.lt j hj;cases ha0;obtain⟨g,hgk⟩: ∃ g,r.guards[k]?=some g:=⟨_,DK hlt⟩;obtain⟨bb,oo,rfl,aS⟩:=hgr.at_ k g hgk;obtain⟨IJ,q1,d1,q2,d2,v0,v1,v2,v3,v4,v5,v6,v7,v8,gW⟩:=aS.vals;have ALB:=AA fun u (hu:Bl wr u) t' e (hL:AJ u t' #[.int .i64 g.a.k,.int .i64 g.a.i,.string g.a.t,.slice q1 g.a.l.length d1,.int .i64 g.b.k,.int .i64 g.b.i,.string g.b.t,.slice q2 g.b.l.length d2] e)=>Zl (D:=3) (p:=some ⟨t',0,none⟩) (xs:=[g.a,g.b]) (c:=2) (c':=cb) (B:=u.heap.size) ⟨zw,fun i y h=>by
     obtain⟨va,vb,hv,_,hTa,Yo⟩:=gW;obtain⟨pa,ka,rfl,hA⟩:=hTa;obtain⟨pb',kb,rfl,Qc⟩:=Yo;cases hv;match i,h with
     | 0,h=>
      obtain rfl:g.a=y:=by simpa using h
      exact⟨t',0,rfl,Dn.at_ (Dn.carry ⟨_,_,rfl,hA⟩<|BJ hu lr) hu.size hL.lt fun j hj=>by
       rw[Ol,Oj,Hr,hL.cell]
       have:j=0\/j=1\/j=2\/j=3:=zx
       rcases this with rfl | rfl | rfl | rfl <;> rfl⟩
     | 1,h=>
      obtain rfl:g.b=y:=by simpa using h
      exact⟨t',0,rfl,Dn.at_ (Dn.carry ⟨_,_,rfl,Qc⟩<|BJ hu lr) hu.size hL.lt fun j hj=>by
       rw[Nat.one_mul,Hr,hL.cell]
       have:j=0\/j=1\/j=2\/j=3:=zx
       rcases this with rfl | rfl | rfl | rfl <;> rfl⟩
     | i+2,h=>simp at h⟩ (gG.carry fun _ _ _ r=>(r.carry (BJ hu lr) lr).carry (Dy.up hu.size) lr) lr
    have gk:(k:Int)<(r.guards.length:Int):=zx
    obtain⟨f0,f1,f2,f3,sg⟩:=hI.blk.four;clear hI rO hall hgr gG aS gW;have B2:=AA<|((AQ wr.heap.size wr).alloc lr<|.cells #[.int .i64 g.op,.int .i64 g.a.k,.int .i64 g.a.i,.string g.a.t,.slice q1 g.a.l.length d1,.int .i64 g.b.k,.int .i64 g.b.i,.string g.b.t,.slice q2 g.b.l.length d2] 102).alloc zw<|.cells #[.int .i64 g.a.k,.int .i64 g.a.i,.string g.a.t,.slice q1 g.a.l.length d1,.int .i64 g.b.k,.int .i64 g.b.i,.string g.b.t,.slice q2 g.b.l.length d2] 100;have LL:=AA<|AJ.new (wr.alloc<|.cells #[.int .i64 g.op,.int .i64 g.a.k,.int .i64 g.a.i,.string g.a.t,.slice q1 g.a.l.length d1,.int .i64 g.b.k,.int .i64 g.b.i,.string g.b.t,.slice q2 g.b.l.length d2] 102) #[.int .i64 g.a.k,.int .i64 g.a.i,.string g.a.t,.slice q1 g.a.l.length d1,.int .i64 g.b.k,.int .i64 g.b.i,.string g.b.t,.slice q2 g.b.l.length d2] 100;simp only[EH]at LL;go_wp2_with fail
    refine(ALB.out _ B2.out _ _ LL.out).mono ?_;rintro e w1 ⟨rfl,hb1⟩;have AX:=B2.out.trans<|hb1.mono (by simp;omega);have I1:=AA<|H.out.1.later AX;have R1:=AA<|AF (H.out.2.1.1.of AX)<|AF (H.out.2.1.2.1.AR AX)<|H.out.2.1.2.2.below AX;have hs1:=AX.size;clear hb1 AX B2 LL ALB v0 v1 v2 v3 v4 v5 v6 v7 v8 f0 f1 f2 f3 sg;cases Kt:Ez [g.a,g.b] r.body
    ·have Y2:AC (MN t x p= .error (5,x.at_)):=⟨by
      rw[Y1.out,if_neg];intro hh
      have:=UI.1 hh g<|U8 hgk
      rw[Kt]at this;cases this⟩
     have z5:=R1.out.2.2.c5;have CS:=AA<|Ut a (n:=5) zu x.at_ w1;go_wp2_with fail
     refine CS.out.mono ?_;rintro e w2 ⟨⟨L,hL,rfl,hB⟩,hb2⟩;exact⟨rfl,R1.out.2.1.AR hb2,Or.inl ⟨5,_,Y2.out,zu,L,AU R1.out.2.1.size hL,rfl,hB⟩⟩
    ·have A1:AC (∀ j g',j<k+1->r.guards[j]?=some g'->Ez [g'.a,g'.b] r.body=true):=⟨fun j g' hj Gz=>by
      by_cases hjk:j=k
      ·subst hjk;rw[hgk]at Gz;cases Gz;exact Kt
      ·exact H.out.2.2 j g' zx Gz⟩
     go_wp2
     exact⟨⟨k+1,zx,zw,I1.out,R1.out,A1.out⟩,by simp[OM];omega⟩
   ·obtain rfl:k=r.guards.length:=zx
    have Y2:AC (MN t x p= .ok (r,x1,p1)):=⟨by
     rw[Y1.out,if_pos];rw[UI];intro g hg;obtain⟨j,hj,rfl⟩:=List.getElem_of_mem hg;exact hall j _ hj<|DK hj⟩
    have gk: ¬ (r.guards.length:Int)<(r.guards.length:Int):=zx
    obtain⟨f0,f1,f2,f3,sg⟩:=hI.blk.four;obtain⟨y0,y1,y2,y3,sy⟩:=hI.res.four;clear hI rO hall;go_wp2
    refine CQ (by simp[results,results121,go_sem,y0,y1,y2,y3];try rfl) rfl ?_;obtain⟨hI,⟨hR,hK,hZ⟩,-⟩:=H.out;have hN:Af w.heap.size wr (Fb++Fg):=⟨Qy.2 ⟨hI.newB.once,hI.newG.once,fun i hi j hj e=>hI.apart i hi (e▸hj)⟩,fun j hj=>(CY.1 hj).elim (fun h=>by have:=hI.newB.ge j h;omega) (fun h=>by have:=hI.newG.ge j h;omega),fun j hj=>(CY.1 hj).elim (hI.newB.lt j) (hI.newG.lt j)⟩;refine⟨hK.r4 lr,Or.inr ⟨_,r,x1,p1,Y2.out,rfl,⟨[.string ⟨#[]⟩,.slice none 0 0,.slice pb r.body.length cb,.slice pg r.guards.length cg],Fb++Fg,rfl,⟨[.string ⟨#[]⟩,.slice none 0 0],_,_,[],Fb,Fg,rfl,?_,AO.stable (Bo.stable (ty:=AY) 4) _ _ _ _ _ hI.rowB fun j hj=>Iz (by have:=hI.newB.ge j hj;omega),AO.stable (Ee.stable (ty:=AY)<|3+1) _ _ _ _ _ hI.rowG fun j hj=>Iz (by have:=hI.newG.ge j hj;omega),rfl⟩,hN.later lr zw⟩,hR.Fj<|Iz zx⟩⟩;rw[hI.bare];exact⟨_,rfl,by show(0:Nat)<_;decide,AO.nil⟩
end Go.P
