import Derived.Test.YtpmcefkhkkpnbaaGreatDoorW22
import Derived.Deep.CutBlock
import Derived.Deep.DeepCutAuto
set_option linter.all false
set_option maxRecDepth 100000
set_option maxHeartbeats 8000000
open Go.Proofs Go.RowKit Go.W Tryz
namespace Go.W
variable {x1:Tk}{p1:Nat}
section
variable {t:Ay} {r:R} {x:Tk} {p n:Nat}
theorem Z99 (h:Nj x.text=true/\Ru x.text=false):Y8 t r x p=Bf (VT t x p) fun a x1 p1=>if r.body.length=4 then .error (4,x.at_)else .ok ({r with body:=r.body++[a]},x1,p1):=xj h
theorem Z54 (h: ¬ (Nj x.text=true/\Ru x.text=false)):Y8 t r x p=Bf (fJ t x p) fun g x1 p1=>if r.gu.length=4 then .error (4,x.at_)else .ok ({r with gu:=r.gu++[g]},x1,p1):=xd h
theorem wL {e:Int×Nat}(h:Y8 t r x p= .error e):PE t (n+1) r x p= .error e:=by rw[PE];exact Es h
theorem Zyg {r1:R}(h:Y8 t r x p= .ok (r1,x1,p1))(hc:x1.text.toList≠[44]):PE t (n+1) r x p= .ok (r1,x1,p1):=by rw[PE,Ee h,xd hc]
theorem Zt9 {r1:R}(h:Y8 t r x p= .ok (r1,x1,p1))(hc:x1.text.toList=[44]):(∀ e,En t x1 p1= .error e->PE t (n+1) r x p= .error e)/\ ∀ y x2 p2,En t x1 p1= .ok (y,x2,p2)->PE t (n+1) r x p=PE t n r1 x2 p2:=by
 rw[PE,Ee h,xj hc];exact⟨fun e he=>Es he,fun y x2 p2 he=>Ee he⟩
end
variable {w wr wq:Bb}{r:R}{pb pg:Bp}{cb cg b:Nat}{Fb Fg:Cg}
structure QH (w wr:Bb) (r:R) (pb:Bp) (cb:Nat) (pg:Bp) (cg:Nat) (Fb Fg:Cg):Prop where
 res:AO wr w.heap.size #[sE,zn,zn,zn] 69
 blk:AO wr (w.heap.size+1) #[sE,zn,sP pb r.body.length cb,sP pg r.gu.length cg] 69
 rowB:AQ 64 2 (Bz AV 4) wr (sP pb r.body.length cb) r.body Fb
 rowG:AQ 97 9 (Eo AV<|3+1) wr (sP pg r.gu.length cg) r.gu Fg
 newB:Ag (w.heap.size+2) wr Fb
 newG:Ag (w.heap.size+2) wr Fg
 apart: ∀ j,j∈Fb->j∉Fg
 leB:r.body.length<=4
 leG:r.gu.length<=4
 bare:r.head=⟨⟨#[]⟩,[]⟩
theorem QH.keep (h:QH w wr r pb cb pg cg Fb Fg)(hs:wr.heap.size<=wq.heap.size)(k: ∀ j,w.heap.size<=j->j<wr.heap.size->wq.heap[j]?=wr.heap[j]?):QH w wq r pb cb pg cg Fb Fg:=
 ⟨h.res.of<|k _ zx h.res.lt,h.blk.of<|k _ zx h.blk.lt,AQ.sb (Bz.sb (ty:=AV) 4) _ _ _ _ _ h.rowB fun j hj=>k j (by have:=h.newB.ge j hj;omega) (h.newB.lt j hj),AQ.sb (Eo.sb (ty:=AV)<|3+1) _ _ _ _ _ h.rowG fun j hj=>k j (by have:=h.newG.ge j hj;omega) (h.newG.lt j hj),h.newB.la lr hs,h.newG.la lr hs,h.apart,h.leB,h.leG,h.bare⟩
theorem QH.la (h:QH w wr r pb cb pg cg Fb Fg)(k:Bl wr wq):QH w wq r pb cb pg cg Fb Fg:=h.keep k.size fun j _ hj=>k.block j hj
theorem QH.keeps (h:QH w wr r pb cb pg cg Fb Fg)(k:Ad b wr wq)(hb:b<w.heap.size):QH w wq r pb cb pg cg Fb Fg:=h.keep k.size fun j h1 hj=>k.block j hj zx
def Ye0 (a:Nat->Addr) (b:Nat) (t:Ay) (Y:Re R) (w:Bb) (wr:Bb):Prop:= ∃ (r:R) (pb:Bp) (cb:Nat) (pg:Bp) (cg:Nat) (Fb Fg:Cg) (x:Tk) (p:Nat),QH w wr r pb cb pg cg Fb Fg/\MJ a b w t wr p x/\PE t (9-(r.body.length+r.gu.length)) r x p=Y
def Yez (a:Nat->Addr) (b:Nat) (t:Ay) (Y:Re R) (w:Bb) (wr:Bb):Prop:= ∃ (r:R) (pb:Bp) (cb:Nat) (pg:Bp) (cg:Nat) (Fb Fg:Cg) (x:Tk) (p:Nat),QH w wr r pb cb pg cg Fb Fg/\Rd wr b t p x/\Ad b w wr/\AZ a wr/\Y= .ok (r,x,p)
def Yjn (a:Nat->Addr) (b:Nat) (t:Ay) (w:Bb) (r:R) (pb:Bp) (cb:Nat) (pg:Bp) (cg:Nat) (Fb Fg:Cg) (x:Tk) (p:Nat) (iv:Value) (wr:Bb):Prop:= ∃ k:Nat,k<=r.gu.length/\iv= zo (k:Int)/\QH w wr r pb cb pg cg Fb Fg/\(Rd wr b t p x/\Ad b w wr/\AZ a wr)/\ ∀ j g,j<k->r.gu[j]?=some g->ET [g.a,g.b] r.body=true
def gT (w:Bb) (L o:Nat):Nat:=match w.cell? (zm L o)with
 | some v=>az v
 | none=>0
theorem Om {L o n c:Nat}{p:Bp}(h:w.cell? (zm L o)=some (sP p n c)):gT w L o=n:=by unfold gT;rw[h];rfl
theorem Zyn {a:Nat->Addr}{t:Ay}{p:Nat}{x:Tk}(Z:AZ a w)(h:Rd w b t p x)(hx:Jr x):
  Calls prog 138 #[zq b 0] w (JO a b t (Ie (DI AV 4) w.heap.size) w<|UZ t x p):=by
 have hg:=h.2.2.2;have ht:=h.2.1;have hb:=h.1.lt;obtain⟨c0,c1,c2,c3,c4,c5,c6,c7,sf⟩:=h.1.eight;have K0:=AC<|((Ad.refl b w).alloc<|.cells #[.string ⟨#[]⟩,zn,zn,zn] 69).alloc<|.cells #[.string ⟨#[]⟩,zn,zn,zn] 69;have D0:AF (MJ a b w t ((w.alloc<|.cells #[.string ⟨#[]⟩,zn,zn,zn] 69).alloc<|.cells #[.string ⟨#[]⟩,zn,zn,zn] 69) p x):=⟨(h.alloc _).alloc _,K0.o,Z.keeps K0.o hg,hx⟩;have B0:AF (QH w ((w.alloc<|.cells #[.string ⟨#[]⟩,zn,zn,zn] 69).alloc<|.cells #[.string ⟨#[]⟩,zn,zn,zn] 69) VX none 0 none 0 [] []):=⟨{res:=(AO.new w _ _).alloc _,blk:=(by have:=AO.new (w.alloc<|.cells #[.string ⟨#[]⟩,zn,zn,zn] 69) #[.string ⟨#[]⟩,zn,zn,zn] 69;simp only[EV]at this;exact this),rowB:=AQ.nil,rowG:=AQ.nil,newB:=Ag.nil _ _,newG:=Ag.nil _ _,apart:=fun _ hj=>absurd hj Lj,leB:=zu,leG:=zu,bare:=rfl}⟩;have F:AF (UZ t x p=Bf (PE t 9 VX x p) fun r x1 p1=>if r.gu.all (fun g=>ET [g.a,g.b] r.body)=true then .ok (r,x1,p1)else .error (5,x.at_)):=⟨rfl⟩;have ZW:=AC Z;clear Z h;go_in
 go_upto_block 0 with fail
 go_cut [5] (fun _ wc=>Yez a b t (PE t 9 VX x p) w wc)
 case first=>
  go_wp2
  go_loopw [5] (fun _ wr=>Ye0 a b t (PE t 9 VX x p) w wr) (fun _ wr=>9-(gT wr (w.heap.size+1) 2+gT wr (w.heap.size+1) 3))
  .exact⟨VX,none,0,none,0,[],[],x,p,B0.o,D0.o,rfl⟩
  .clear D0 B0 K0 c0 c1 c2 c3 c4 c5 c6 c7 sf;obtain⟨r,pb,cb,pg,cg,Fb,Fg,y,q,hI,hD,hY⟩:=hrel;obtain⟨c0,c1,c2,c3,c4,c5,c6,c7,sf⟩:=hD.1.1.eight;have HI:=AC hI;have HD:=AC hD;have HY:=AC hY;have hszr:=hI.blk.lt;have m2:=Om hI.blk.four.2.2.1;have m3:=Om hI.blk.four.2.2.2.1;have leB:=hI.leB;have leG:=hI.leG;have CW:=AC<|Ztr y hD.2.2.2.1 wr;have CB:=AC<|Ztq y.text;unfold Jc at CW;generalize PE t 9 VX x p=Y at*;clear hI hD hY;go_wp2_with fail
   apply mq CW.o;rintro w1 hb1;have D1:AF (MJ a b w t w1 q y):=⟨HD.o.1.of hb1,HD.o.2.1.AU hb1,HD.o.2.2.1.be hb1,HD.o.2.2.2⟩;have I1:=AC<|HI.o.la hb1;have hs1:=hb1.size;clear hb1 c0 c1 c2 c3 c4 c5 c6 c7 sf HD HI CW;obtain⟨c0,c1,c2,c3,c4,c5,c6,c7,sf⟩:=D1.o.1.1.eight;obtain⟨f0,f1,f2,f3,sg⟩:=I1.o.blk.four;obtain⟨n,hn⟩: ∃ n,9-(r.body.length+r.gu.length)=n+1:=⟨8-(r.body.length+r.gu.length),zx⟩;rw[hn]at HY;by_cases dE:Nj y.text=true/\Ru y.text=false
   .have P:=AC<|Z99 (t:=t) (r:=r) (p:=q) dE;rw[dE.2]at CB;rw[dE.1];have CA:=AC<|Zym D1.o.2.2.1.drew D1.o.1.drew D1.o.2.2.2;have ID:AF (QH w w1.drew r pb cb pg cg Fb Fg):=⟨I1.o.keep lr fun _ _ _=>rfl⟩;have KD:=AC D1.o.2.1.drew;have dI:w.heap.size+2<=w1.drew.heap.size:=I1.o.blk.lt;have ZD:=AC D1.o.2.2.1.drew;clear dE;go_wp2_with (go_at_call 204;apply(CB.o _).mono;rintro e w' ⟨rfl,rfl⟩)
    go_region_with (first
     | (go_at_call 135
        apply CA.o.mono;rintro e w2 ⟨hk2,⟨n2,r2,hy,Hl,L,hL,rfl,hB⟩ | ⟨v,z,x2,r2,hy,rfl,⟨vs,F2,rfl,hQ,BZ⟩,hr2⟩⟩
        .exact⟨rfl,KD.o.trans hk2,Or.inl ⟨n2,r2,F.o.trans<|Es<|HY.o.symm.trans<|wL<|P.o.trans<|Es hy,Hl,L,Ab KD.o.size hL,rfl,hB⟩⟩
        obtain⟨p1,cc,rfl⟩:=Bz.vals hQ;have I2:=ID.o.keeps hk2 hb;have hs2:=hk2.size;have Z2:=ZD.o.keeps hk2 hg;have CJ:=AC<|Zq3 (d:=4) (B:=w.heap.size+2) (m:=4) (k:=y.at_) Z2 I2.rowB hQ (fw (I2.blk.lt)) I2.newB (BZ.la dI lr) (fun j hj Am=>jE (ID.o.newB.lt j hj) (BZ.ge j Am)) zx leB;have HP:=AC<|P.o.trans<|Ee hy;have AP:AF (∀ j,j∈F2->j∉Fg):=⟨fun j hj Am=>jE (ID.o.newG.lt j Am) (BZ.ge j hj)⟩;have U4:=AC<|KD.o.trans hk2;have Hf:=AC<|AJ I2<|AJ hr2 Z2;obtain⟨e0,e1,e2,e3,se⟩:=I2.blk.four;clear hk2 hy hQ BZ hr2 I2 Z2)
     | (go_at_call 137
        apply CJ.o.mono;rintro e w3 (⟨hE,⟨L,hL,rfl,hB⟩,hb3⟩ | ⟨hne,p',c',F',rfl,hG⟩)
        .exact⟨rfl,U4.o.AU hb3,Or.inl ⟨4,_,F.o.trans<|Es<|HY.o.symm.trans<|wL<|HP.o.trans<|xj hE,zu,L,Ab U4.o.size hL,rfl,hB⟩⟩
        have YL:=Hf.o.1.blk.of<|hG.same (w.heap.size+1) Hf.o.1.blk.lt (fun hj=>fw (Hf.o.1.newB.ge _ hj));obtain⟨e0,e1,e2,e3,se⟩:=YL.four;have HG:=AC hG;have iH:=AC YL;clear hG YL))
    all_goals
     have I3:QH w (w3.setCell (zm (w.heap.size+1) 2)<|sP p' (r.body.length+1) c') {r with body:=r.body++[z]} p' c' pg cg F' Fg:=by
      have I2:=Hf.o.1;have lw:w.heap.size+1<w3.heap.size:=iH.o.lt
      exact{res:=(I2.res.of<|HG.o.same _ I2.res.lt (fun hj=>fw (I2.newB.ge _ hj))).away _ _ zx _,blk:=(by have:=iH.o.set 2<|sP p' (r.body.length+1) c';simpa using this),rowB:=(by have:=AQ.sb (Bz.sb (ty:=AV) 4) _ (w3.setCell (zm (w.heap.size+1) 2)<|sP p' (r.body.length+1) c') _ _ _ HG.o.row fun j hj=>Aw _ _ _ j (by show j≠w.heap.size+1;have:=HG.o.new.ge j hj;omega);simpa using this),rowG:=AQ.sb (Eo.sb (ty:=AV)<|3+1) _ _ _ _ _ I2.rowG fun j hj=>(Aw _ _ _ j (by show j≠w.heap.size+1;have:=I2.newG.ge j hj;omega)).trans (HG.o.same j (I2.newG.lt j hj) fun Am=>I2.apart j Am hj),newB:=HG.o.new.la lr zw,newG:=I2.newG.la lr (by have:=HG.o.size;simp;omega),apart:=(fun j hj Am=>by
       rcases HG.o.sub j hj with h1 | h1 | h1
       .exact I2.apart j h1 Am
       .exact AP.o j h1 Am
       .have:=I2.newG.lt j Am;omega),leB:=zc,leG:=leG,bare:=I2.bare}
     have hr3:Rd (w3.setCell (zm (w.heap.size+1) 2)<|sP p' (r.body.length+1) c') b t r2 x2:=⟨(Hf.o.2.1.1.of<|HG.o.same b Hf.o.2.1.1.lt (fun hj=>fw (Hf.o.1.newB.ge _ hj))).away _ _ zx _,Hf.o.2.1.2⟩;have K3:Ad b w (w3.setCell (zm (w.heap.size+1) 2)<|sP p' (r.body.length+1) c'):=(Ad.Py HG.o U4.o (fun j hj=>fw (Hf.o.1.newB.ge j hj))).Ai _ _ _ zx;have Q3:=HP.o.trans<|xd hne;have n2:=Om I3.blk.four.2.2.1;have n3:=Om I3.blk.four.2.2.2.1;obtain⟨w4,hw4⟩:=fu (w3.setCell (zm (w.heap.size+1) 2) (sP p' (r.body.length+1) c'));rw[hw4]at I3 hr3 K3 n2 n3⊢;have R3:=AC<|AJ I3<|AJ hr3<|AJ K3<|AJ (ZW.o.keeps K3 hg) Q3;clear hw4 I3 hr3 K3 Q3 e0 e1 e2 e3 se f0 f1 f2 f3 sg HG iH Hf U4 HP CJ ID KD ZD CA P D1 I1 CB c0 c1 c2 c3 c4 c5 c6 c7 sf;obtain⟨c0,c1,c2,c3,c4,c5,c6,c7,sf⟩:=R3.o.2.1.1.eight;by_cases hc:x2.text.toList=[44]
     .have g1:(x2.text.toList==[44])=true:=by rw[DR];exact hc
      have M:=AC<|Zt9 (n:=n) R3.o.2.2.2.2 hc;have CT:=AC<|Vg R3.o.2.2.2.1 R3.o.2.1;clear hc;go_wp2_with fail
      apply CT.o.mono;rintro e w5 ⟨NS,⟨n5,r5,hy,nL,L,hL,rfl,hB⟩ | ⟨v,y5,x5,r5,hy,rfl,hv,PZ⟩⟩
      .exact⟨rfl,R3.o.2.2.1.trans NS,Or.inl ⟨n5,r5,F.o.trans<|Es<|HY.o.symm.trans<|M.o.1 _ hy,nL,L,Ab R3.o.2.2.1.size hL,rfl,hB⟩⟩
      obtain rfl:v=Jc y5:=hv;have I5:=R3.o.1.keeps NS hb;have l2:=Om I5.blk.four.2.2.1;have l3:=Om I5.blk.four.2.2.2.1;have R5:=AC<|AJ I5<|AJ (show MJ a b w t w5 r5 x5 from⟨PZ,R3.o.2.2.1.trans NS,R3.o.2.2.2.1.keeps NS hg,(Wn ht hy).1⟩)<|HY.o.symm.trans<|M.o.2 _ _ _ hy;have sZ:=I5.leB;have yK:=I5.leG;clear I5 NS hy PZ;go_wp2_with fail
      refine⟨⟨_,_,_,_,_,_,_,x5,r5,R5.o.1,R5.o.2.1,?_⟩,?_⟩
      .rw[R5.o.2.2];congr 1
       simp;omega
      .rw[l2,l3,m2,m3];simp at sZ yK⊢;omega
     .have g1:(x2.text.toList==[44])=false:=by rw[BJ];exact hc
      have M:=AC<|HY.o.symm.trans<|Zyg (n:=n) R3.o.2.2.2.2 hc;clear hc;go_wp2_with fail
      go_meet
      case rel=>exact⟨_,_,_,_,_,_,_,x2,r2,R3.o.1,R3.o.2.1,R3.o.2.2.1,R3.o.2.2.2.1,M.o⟩
   .have P:=AC<|Z54 (t:=t) (r:=r) (p:=q) dE;have GG:Nj y.text=false\/Nj y.text=true/\Ru y.text=true:=by
     cases h1:Nj y.text
     .exact Or.inl rfl
     .cases h2:Ru y.text
      .exact absurd ⟨h1,h2⟩ dE
      .exact Or.inr ⟨rfl,rfl⟩
    have CA:=AC<|Z6b D1.o.2.2.1.drew D1.o.1.drew D1.o.2.2.2;have ID:AF (QH w w1.drew r pb cb pg cg Fb Fg):=⟨I1.o.keep lr fun _ _ _=>rfl⟩;have KD:=AC D1.o.2.1.drew;have dI:w.heap.size+2<=w1.drew.heap.size:=I1.o.blk.lt;have ZD:=AC D1.o.2.2.1.drew;clear dE;rcases GG with ga | ⟨ga,gb⟩
    case' inr=>rw[gb]at CB
    all_goals
     rw[ga];go_wp2_with (go_at_call 204;apply(CB.o _).mono;rintro e w' ⟨rfl,rfl⟩)
     go_region_with (first
      | (go_at_call 206
         apply CA.o.mono;rintro e w2 ⟨hk2,⟨n2,r2,hy,Hl,L,hL,rfl,hB⟩ | ⟨v,z,x2,r2,hy,rfl,⟨vs,F2,rfl,hQ,BZ⟩,hr2⟩⟩
         .exact⟨rfl,KD.o.trans hk2,Or.inl ⟨n2,r2,F.o.trans<|Es<|HY.o.symm.trans<|wL<|P.o.trans<|Es hy,Hl,L,Ab KD.o.size hL,rfl,hB⟩⟩
         obtain⟨p1,cc,p2,cc2,rfl⟩:=Eo.vals hQ;have I2:=ID.o.keeps hk2 hb;have hs2:=hk2.size;have Z2:=ZD.o.keeps hk2 hg;have CJ:=AC<|Zx4 (d:=3) (B:=w.heap.size+2) (m:=4) (k:=y.at_) Z2 I2.rowG hQ (fw (I2.blk.lt)) I2.newG (BZ.la dI lr) (fun j hj Am=>jE (ID.o.newG.lt j hj) (BZ.ge j Am)) zx leG;have HP:=AC<|P.o.trans<|Ee hy;have AP:AF (∀ j,j∈F2->j∉Fb):=⟨fun j hj Am=>jE (ID.o.newB.lt j Am) (BZ.ge j hj)⟩;have U4:=AC<|KD.o.trans hk2;have Hf:=AC<|AJ I2<|AJ hr2 Z2;obtain⟨e0,e1,e2,e3,se⟩:=I2.blk.four;clear hk2 hy hQ BZ hr2 I2 Z2)
      | (go_at_call 205
         apply CJ.o.mono;rintro e w3 (⟨hE,⟨L,hL,rfl,hB⟩,hb3⟩ | ⟨hne,p',c',F',rfl,hG⟩)
         .exact⟨rfl,U4.o.AU hb3,Or.inl ⟨4,_,F.o.trans<|Es<|HY.o.symm.trans<|wL<|HP.o.trans<|xj hE,zu,L,Ab U4.o.size hL,rfl,hB⟩⟩
         have YL:=Hf.o.1.blk.of<|hG.same (w.heap.size+1) Hf.o.1.blk.lt (fun hj=>fw (Hf.o.1.newG.ge _ hj));obtain⟨e0,e1,e2,e3,se⟩:=YL.four;have HG:=AC hG;have iH:=AC YL;clear hG YL))
     all_goals
      have I3:QH w (w3.setCell (zm (w.heap.size+1) 3)<|sP p' (r.gu.length+1) c') {r with gu:=r.gu++[z]} pb cb p' c' Fb F':=by
       have I2:=Hf.o.1;have lw:w.heap.size+1<w3.heap.size:=iH.o.lt
       exact{res:=(I2.res.of<|HG.o.same _ I2.res.lt (fun hj=>fw (I2.newG.ge _ hj))).away _ _ zx _,blk:=(by have:=iH.o.set 3<|sP p' (r.gu.length+1) c';simpa using this),rowG:=(by have:=AQ.sb (Eo.sb (ty:=AV)<|3+1) _ (w3.setCell (zm (w.heap.size+1) 3)<|sP p' (r.gu.length+1) c') _ _ _ HG.o.row fun j hj=>Aw _ _ _ j (by show j≠w.heap.size+1;have:=HG.o.new.ge j hj;omega);simpa using this),rowB:=AQ.sb (Bz.sb (ty:=AV) 4) _ _ _ _ _ I2.rowB fun j hj=>(Aw _ _ _ j (by show j≠w.heap.size+1;have:=I2.newB.ge j hj;omega)).trans (HG.o.same j (I2.newB.lt j hj) fun Am=>I2.apart j hj Am),newG:=HG.o.new.la lr zw,newB:=I2.newB.la lr (by have:=HG.o.size;simp;omega),apart:=(fun j hj Am=>by
        rcases HG.o.sub j Am with h1 | h1 | h1
        .exact I2.apart j hj h1
        .exact AP.o j h1 hj
        .have:=I2.newB.lt j hj;omega),leG:=zc,leB:=leB,bare:=I2.bare}
      have hr3:Rd (w3.setCell (zm (w.heap.size+1) 3)<|sP p' (r.gu.length+1) c') b t r2 x2:=⟨(Hf.o.2.1.1.of<|HG.o.same b Hf.o.2.1.1.lt (fun hj=>fw (Hf.o.1.newG.ge _ hj))).away _ _ zx _,Hf.o.2.1.2⟩;have K3:Ad b w (w3.setCell (zm (w.heap.size+1) 3)<|sP p' (r.gu.length+1) c'):=(Ad.Py HG.o U4.o (fun j hj=>fw (Hf.o.1.newG.ge j hj))).Ai _ _ _ zx;have Q3:=HP.o.trans<|xd hne;have n2:=Om I3.blk.four.2.2.1;have n3:=Om I3.blk.four.2.2.2.1;obtain⟨w4,hw4⟩:=fu (w3.setCell (zm (w.heap.size+1) 3) (sP p' (r.gu.length+1) c'));rw[hw4]at I3 hr3 K3 n2 n3⊢;have R3:=AC<|AJ I3<|AJ hr3<|AJ K3<|AJ (ZW.o.keeps K3 hg) Q3;clear hw4 I3 hr3 K3 Q3 e0 e1 e2 e3 se f0 f1 f2 f3 sg HG iH Hf U4 HP CJ ID KD ZD CA P D1 I1 CB c0 c1 c2 c3 c4 c5 c6 c7 sf;obtain⟨c0,c1,c2,c3,c4,c5,c6,c7,sf⟩:=R3.o.2.1.1.eight;by_cases hc:x2.text.toList=[44]
      .have g1:(x2.text.toList==[44])=true:=by rw[DR];exact hc
       have M:=AC<|Zt9 (n:=n) R3.o.2.2.2.2 hc;have CT:=AC<|Vg R3.o.2.2.2.1 R3.o.2.1;clear hc;go_wp2_with fail
       apply CT.o.mono;rintro e w5 ⟨NS,⟨n5,r5,hy,nL,L,hL,rfl,hB⟩ | ⟨v,y5,x5,r5,hy,rfl,hv,PZ⟩⟩
       .exact⟨rfl,R3.o.2.2.1.trans NS,Or.inl ⟨n5,r5,F.o.trans<|Es<|HY.o.symm.trans<|M.o.1 _ hy,nL,L,Ab R3.o.2.2.1.size hL,rfl,hB⟩⟩
       obtain rfl:v=Jc y5:=hv;have I5:=R3.o.1.keeps NS hb;have l2:=Om I5.blk.four.2.2.1;have l3:=Om I5.blk.four.2.2.2.1;have R5:=AC<|AJ I5<|AJ (show MJ a b w t w5 r5 x5 from⟨PZ,R3.o.2.2.1.trans NS,R3.o.2.2.2.1.keeps NS hg,(Wn ht hy).1⟩)<|HY.o.symm.trans<|M.o.2 _ _ _ hy;have sZ:=I5.leB;have yK:=I5.leG;clear I5 NS hy PZ;go_wp2_with fail
       refine⟨⟨_,_,_,_,_,_,_,x5,r5,R5.o.1,R5.o.2.1,?_⟩,?_⟩
       .rw[R5.o.2.2];congr 1
        simp;omega
       .rw[l2,l3,m2,m3];simp at sZ yK⊢;omega
      .have g1:(x2.text.toList==[44])=false:=by rw[BJ];exact hc
       have M:=AC<|HY.o.symm.trans<|Zyg (n:=n) R3.o.2.2.2.2 hc;clear hc;go_wp2_with fail
       go_meet
       case rel=>exact⟨_,_,_,_,_,_,_,x2,r2,R3.o.1,R3.o.2.1,R3.o.2.2.1,R3.o.2.2.2.1,M.o⟩
 case rest=>
  obtain⟨wk,rfl⟩: ∃ x,x=wc:=⟨wc,rfl⟩;obtain⟨r,pb,cb,pg,cg,Fb,Fg,x1,p1,hI,hR,hK,hZ,hY⟩:=hcut;obtain⟨f0,f1,f2,f3,sg⟩:=hI.blk.four;have HI:=AC hI;have HR:=AC<|AJ hR<|AJ hK hZ;have Y1:AF (UZ t x p=if r.gu.all (fun g=>ET [g.a,g.b] r.body)=true then .ok (r,x1,p1)else .error (5,x.at_)):=⟨F.o.trans<|Ee hY⟩;clear hI hR hK hZ hY K0 D0 B0 F c0 c1 c2 c3 c4 c5 c6 c7 sf;go_wp2
  go_loopw [57] (fun iv wr=>Yjn a b t w r pb cb pg cg Fb Fg x1 p1 iv wr) (fun iv _=>r.gu.length-Td iv)
  .exact⟨0,zx,rfl,HI.o,HR.o,fun j _ hj=>absurd hj zx⟩
  .clear f0 f1 f2 f3 sg HI HR;obtain⟨k,hk,rfl,hI,hRR,hall⟩:=hrel;have H:=AC<|AJ hI<|AJ hRR hall;have hle:=hI.leG;have lR:=hI.res.lt;have lB:=hI.blk.lt;by_cases hlt:k<r.gu.length
   .obtain⟨gp,gc,hg0,_,hgr⟩:=Wl.Ll (ty:=AV) (d:=4) (B:=wr.heap.size) hI.rowG fun j hj=>hI.newG.lt j hj;cases hg0;obtain⟨ap,ac,ha0,_,oO⟩:=PG.Ll (ty:=AV) (d:=4) (B:=wr.heap.size) hI.rowB fun j hj=>hI.newB.lt j hj;cases ha0;obtain⟨g,Yg⟩: ∃ g,r.gu[k]?=some g:=⟨_,A8 hlt⟩;obtain⟨bb,oo,rfl,hga⟩:=hgr.at_ k g Yg;obtain⟨G4,q1,d1,q2,d2,v0,v1,v2,v3,v4,v5,v6,v7,v8,ow⟩:=hga.vals;have ALB:=AC fun u (hu:Bl wr u) t' e (hL:AO u t' #[zo g.a.k,zo g.a.i,um g.a.t,sP q1 g.a.l.length d1,zo g.b.k,zo g.b.i,um g.b.t,sP q2 g.b.l.length d2] e)=>gN (D:=3) (p:=some (zm t' 0)) (xs:=[g.a,g.b]) (c:=2) (c':=cb) (B:=u.heap.size) ⟨zw,fun i y h=>by
     obtain⟨va,vb,hv,_,hTa,VQ⟩:=ow;obtain⟨pa,ka,rfl,hA⟩:=hTa;obtain⟨pb',kb,rfl,aV⟩:=VQ;cases hv;match i,h with
     | 0,h=>
      obtain rfl:g.a=y:=by simpa using h
      exact⟨t',0,rfl,Ed.at_ (Ed.cy ⟨_,_,rfl,hA⟩<|Bq hu lr) hu.size hL.lt fun j hj=>by
       rw[YC,Qs,Gx,hL.cell]
       have:j=0\/j=1\/j=2\/j=3:=zx
       rcases this with rfl | rfl | rfl | rfl <;> rfl⟩
     | 1,h=>
      obtain rfl:g.b=y:=by simpa using h
      exact⟨t',0,rfl,Ed.at_ (Ed.cy ⟨_,_,rfl,aV⟩<|Bq hu lr) hu.size hL.lt fun j hj=>by
       rw[Nat.one_mul,Gx,hL.cell]
       have:j=0\/j=1\/j=2\/j=3:=zx
       rcases this with rfl | rfl | rfl | rfl <;> rfl⟩
     | i+2,h=>simp at h⟩ (oO.cy fun _ _ _ r=>(r.cy (Bq hu lr) lr).cy (EG.up hu.size) lr) lr
    have gk:(k:Int)<(r.gu.length:Int):=zx
    obtain⟨f0,f1,f2,f3,sg⟩:=hI.blk.four;clear hI hRR hall hgr oO hga ow;have B2:=AC<|(zv wr<|.cells #[zo g.op,zo g.a.k,zo g.a.i,um g.a.t,sP q1 g.a.l.length d1,zo g.b.k,zo g.b.i,um g.b.t,sP q2 g.b.l.length d2] 97).alloc zw<|.cells #[zo g.a.k,zo g.a.i,um g.a.t,sP q1 g.a.l.length d1,zo g.b.k,zo g.b.i,um g.b.t,sP q2 g.b.l.length d2] 95;have LL:=AC<|AO.new (wr.alloc<|.cells #[zo g.op,zo g.a.k,zo g.a.i,um g.a.t,sP q1 g.a.l.length d1,zo g.b.k,zo g.b.i,um g.b.t,sP q2 g.b.l.length d2] 97) #[zo g.a.k,zo g.a.i,um g.a.t,sP q1 g.a.l.length d1,zo g.b.k,zo g.b.i,um g.b.t,sP q2 g.b.l.length d2] 95;simp only[EV]at LL;go_wp2_with fail
    apply(ALB.o _ B2.o _ _ LL.o).mono;rintro e w1 ⟨rfl,hb1⟩;have Af:=B2.o.trans<|hb1.mono zc;have I1:=AC<|H.o.1.la Af;have R1:=AC<|AJ (H.o.2.1.1.of Af)<|AJ (H.o.2.1.2.1.AU Af)<|H.o.2.1.2.2.be Af;have hs1:=Af.size;clear hb1 Af B2 LL ALB v0 v1 v2 v3 v4 v5 v6 v7 v8 f0 f1 f2 f3 sg;cases KJ:ET [g.a,g.b] r.body
    .have Y2:AF (UZ t x p= .error (5,x.at_)):=⟨by
      rw[Y1.o,xd];intro hh
      have:=SI.1 hh g<|Ej Yg
      rw[KJ]at this;cases this⟩
     have z5:=R1.o.2.2.c5;have CS:=AC<|Xw a (n:=5) zu x.at_ w1;go_wp2_with fail
     apply CS.o.mono;rintro e w2 ⟨⟨L,hL,rfl,hB⟩,hb2⟩;exact⟨rfl,R1.o.2.1.AU hb2,Or.inl ⟨5,_,Y2.o,zu,L,Ab R1.o.2.1.size hL,rfl,hB⟩⟩
    .have A1:AF (∀ j g',j<k+1->r.gu[j]?=some g'->ET [g'.a,g'.b] r.body=true):=⟨fun j g' hj Yi=>by
      by_cases hjk:j=k
      .subst hjk;rw[Yg]at Yi;cases Yi;exact KJ
      .exact H.o.2.2 j g' zx Yi⟩
     go_wp2
     exact⟨⟨k+1,zx,zw,I1.o,R1.o,A1.o⟩,by simp[Td];omega⟩
   .obtain rfl:k=r.gu.length:=zx
    have Y2:AF (UZ t x p= .ok (r,x1,p1)):=⟨by
     rw[Y1.o,xj];rw[SI];intro g hg;obtain⟨j,hj,rfl⟩:=List.getElem_of_mem hg;exact hall j _ hj<|A8 hj⟩
    have gk: ¬ (r.gu.length:Int)<(r.gu.length:Int):=zx
    obtain⟨f0,f1,f2,f3,sg⟩:=hI.blk.four;obtain⟨y0,y1,y2,y3,sy⟩:=hI.res.four;clear hI hRR hall;go_wp2
    refine Bg (by simp[results,results138,go_sem,y0,y1,y2,y3];try rfl) rfl ?_;obtain⟨hI,⟨hR,hK,hZ⟩,-⟩:=H.o;have hN:Ag w.heap.size wr (Fb++Fg):=⟨Mc.2 ⟨hI.newB.once,hI.newG.once,fun i hi j hj e=>hI.apart i hi (e▸hj)⟩,fun j hj=>(Aj.1 hj).elim (fun h=>fw (hI.newB.ge j h)) (fun h=>fw (hI.newG.ge j h)),fun j hj=>(Aj.1 hj).elim (hI.newB.lt j) (hI.newG.lt j)⟩;refine⟨hK.r4 lr,Or.inr ⟨_,r,x1,p1,Y2.o,rfl,⟨[.string ⟨#[]⟩,zn,sP pb r.body.length cb,sP pg r.gu.length cg],Fb++Fg,rfl,⟨[.string ⟨#[]⟩,zn],_,_,[],Fb,Fg,rfl,?_,AQ.sb (Bz.sb (ty:=AV) 4) _ _ _ _ _ hI.rowB fun j hj=>KY (fw (hI.newB.ge j hj)),AQ.sb (Eo.sb (ty:=AV)<|3+1) _ _ _ _ _ hI.rowG fun j hj=>KY (fw (hI.newG.ge j hj)),rfl⟩,hN.la lr zw⟩,hR.Gz<|KY zx⟩⟩;rw[hI.bare];exact⟨_,rfl,by show(0:Nat)<_;decide,AQ.nil⟩
end Go.W
