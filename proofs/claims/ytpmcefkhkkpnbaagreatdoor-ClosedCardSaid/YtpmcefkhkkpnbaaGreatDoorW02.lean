import Derived.Test.YtpmcefkhkkpnbaaGreatDoorW01
set_option linter.all false
set_option maxRecDepth 100000
set_option maxHeartbeats 8000000
open Go.Proofs Go.RowKit Go.W Tryz
namespace Go.W
def gP (d k:Nat):De T:=if k=2\/k=5 then Qm.map fun n=> .mk k (Wj n) ByteArray.empty []else if k=6 then LY.map fun n=> .mk k n ByteArray.empty []else if k=7 then(match d with
  | 0=>fun _=> .error 3
  | d+1=>(DF 6<|MO d).map fun x=> .mk k 0 ByteArray.empty x)else if k=1\/k=3\/k=4 then Xm.map fun t=> .mk k 0 t []else fun _=> .error 7
def Ydt (d:Nat)(l:By):MO d l=LY.then (gP d) l:=by cases d <;> rfl
section
def wF (CL:Gg){d:Nat}(hd:d<=3)(ih: ∀ e,d=e+1->Zc e):Zc d:=by
 intro a w b l Z h;have hb:=h.1.lt;have hgb:=h.2.2;have B0:=AC<|zv w<|.cells #[zo 0,zo 0,.string ⟨#[]⟩,zn] 95;have K0:=AC<|(Ad.refl b w).alloc<|.cells #[zo 0,zo 0,.string ⟨#[]⟩,zn] 95;have L0:=AC<|AO.new w #[zo 0,zo 0,.string ⟨#[]⟩,zn] 95;have C:=AC<|qN (Z.be B0.o)<|h.alloc<|.cells #[zo 0,zo 0,.string ⟨#[]⟩,zn] 95;have TE:=AC<|Ydt d l;have ZZ:=AC Z;clear Z h;go_in
 go_wp2_with fail
 apply C.o.mono;rintro e w1 ⟨AX,⟨i,hy,hi,rfl⟩ | ⟨k,r1,v,hy,rfl,⟨rfl,nQ⟩,Bc⟩⟩
 .exact⟨rfl,K0.o.trans AX,Or.inl ⟨i,TE.o.trans<|De.Ae hy,hi,rfl⟩⟩
 have Y:AF (MO d l=gP d k r1):=⟨TE.o.trans<|De.then_ok hy⟩;have L1:=AC<|L0.o.of<|AX.block w.heap.size zw zx;have K1:=AC<|K0.o.trans AX;have T9:=AC Bc;clear hy AX Bc C TE;have KA:=AC<|K1.o.alloc<|.cells #[zo (k:Int),zo 0,.string ⟨#[]⟩,zn] 95;have DA:=AC<|T9.o.alloc<|.cells #[zo (k:Int),zo 0,.string ⟨#[]⟩,zn] 95;have ZA:=AC<|ZZ.o.keeps KA.o hgb;have Z1:=AC<|ZZ.o.keeps K1.o hgb;have LA:=AC<|AO.new w1 #[zo (k:Int),zo 0,.string ⟨#[]⟩,zn] 95;have LR:=AC<|L1.o.alloc<|.cells #[zo (k:Int),zo 0,.string ⟨#[]⟩,zn] 95;have hs1:w.heap.size<w1.heap.size:=by have:=L1.o.lt;exact this
 have jF:b≠w1.heap.size:=zx
 have L9:Gq (k:Int):=⟨zx,zx⟩;clear L0 L1 K0 K1 T9 ZZ B0;have W:((k=2\/k=5)/\gP d k r1=(Qm.map fun n=>T.mk k (Wj n) ByteArray.empty []) r1)\/(k=6/\gP d k r1=(LY.map fun n=>T.mk k n ByteArray.empty []) r1)\/k=7\/((k=1\/k=3\/k=4)/\gP d k r1=(Xm.map fun t=>T.mk k 0 t []) r1)\/((k=0\/7<k)/\gP d k r1= .error 7):=by
  unfold gP;by_cases h1:k=2\/k=5
  .exact Or.inl ⟨h1,by rw[xj h1]⟩
  by_cases h2:k=6
  .exact Or.inr<|Or.inl ⟨h2,by rw[xd h1,xj h2]⟩
  by_cases h3:k=7
  .exact Or.inr<|Or.inr<|Or.inl h3
  by_cases h4:k=1\/k=3\/k=4
  .exact Or.inr<|Or.inr<|Or.inr<|Or.inl ⟨h4,by rw[xd h1,xd h2,xd h3,xj h4]⟩
  .exact Or.inr<|Or.inr<|Or.inr<|Or.inr ⟨zx,by rw[xd h1,xd h2,xd h3,xd h4]⟩
 rcases W with⟨hk,hT⟩ | ⟨hk,hT⟩ | hk | ⟨hk,hT⟩ | ⟨hk,hT⟩
 .have CN:=AC<|Ze ZA.o DA.o;have YT:=AC<|Y.o.trans hT;clear hT Y ih CL;have G:((k:Int)==2)=true\/(((k:Int)==2)=false/\((k:Int)==5)=true):=by simp only[DR,BJ];omega
  rcases G with g | ⟨g,g'⟩;all_goals
   go_wp2_with fail
   apply CN.o.mono;rintro e w2 ⟨hk2,⟨i,hy,hi,rfl⟩ | ⟨n,r2,v,hy,rfl,⟨rfl,hn⟩,Cj⟩⟩
   .exact⟨rfl,KA.o.trans hk2,Or.inl ⟨i,YT.o.trans<|De.Az hy,hi,rfl⟩⟩
   have CU:=AC<|Zy3 n hn;have YQ:Gq (Wj n):=by unfold Wj;split <;> exact⟨zx,zx⟩
   obtain⟨y0,y1,y2,y3,sf⟩:=(LA.o.of<|hk2.block w1.heap.size zw zx).four;obtain⟨z0,z1,z2,z3,sg⟩:=(LR.o.of<|hk2.block w.heap.size zc zx).four;have R:=AC<|AJ (YT.o.trans<|De.map_ok hy)<|AJ (KA.o.trans hk2) Cj;clear hy hk2 Cj CN;go_wp2_with (go_at_call 303;apply(CU.o _).mono;rintro e w3 ⟨rfl,rfl⟩)
   refine Bg (by simp[results,results296,go_sem,z0,z1,z2,z3];try rfl) rfl ?_;exact⟨(R.o.2.1.Ai _ _ _ zx).r4 lr,Or.inr ⟨_,r2,_,R.o.1,rfl,⟨_,[],rfl,⟨_,rfl,L9,YQ,(by decide:(0:Nat)<1000000000),AQ.nil⟩,Ag.nil _ _⟩,R.o.2.2.of<|(KY zx).trans<|Aw _ _ _ _ zx⟩⟩
 .have CN:=AC<|qN ZA.o DA.o;have YT:=AC<|Y.o.trans hT;obtain rfl:=hk;clear hT Y ih CL;go_wp2_with fail
  apply CN.o.mono;rintro e w2 ⟨hk2,⟨i,hy,hi,rfl⟩ | ⟨n,r2,v,hy,rfl,⟨rfl,hn⟩,Cj⟩⟩
  .exact⟨rfl,KA.o.trans hk2,Or.inl ⟨i,YT.o.trans<|De.Az hy,hi,rfl⟩⟩
  have YQ:Gq (n:Int):=⟨zx,zx⟩;obtain⟨y0,y1,y2,y3,sf⟩:=(LA.o.of<|hk2.block w1.heap.size zw zx).four;obtain⟨z0,z1,z2,z3,sg⟩:=(LR.o.of<|hk2.block w.heap.size zc zx).four;have R:=AC<|AJ (YT.o.trans<|De.map_ok hy)<|AJ (KA.o.trans hk2) Cj;clear hy hk2 Cj CN;go_wp2
  refine Bg (by simp[results,results296,go_sem,z0,z1,z2,z3];try rfl) rfl ?_;exact⟨(R.o.2.1.Ai _ _ _ zx).r4 lr,Or.inr ⟨_,r2,_,R.o.1,rfl,⟨_,[],rfl,⟨_,rfl,L9,YQ,(by decide:(0:Nat)<1000000000),AQ.nil⟩,Ag.nil _ _⟩,R.o.2.2.of<|(KY zx).trans<|Aw _ _ _ _ zx⟩⟩
 .obtain rfl:=hk;cases d with
  | zero=>
   have z3:=fun o=>Cb Z1.o.c3 ((AR _ w1).alloc lr o);have CR:=AC<|QL a b (w1.alloc<|.cells #[zo 7,zo 0,.string ⟨#[]⟩,zn] 95) (n:=3) zu;clear CL ih;go_wp2_with fail
   apply mq CR.o;rintro w2 rfl;exact⟨rfl,KA.o,Or.inl ⟨3,Y.o,zu,rfl⟩⟩
  | succ d=>
   have CN:=AC<|Zti (ih d rfl) ZA.o DA.o;have YT:AF (MO (d+1) l=((DF 6<|MO d).map fun x=>T.mk 7 0 ByteArray.empty x) r1):=⟨Y.o⟩;obtain⟨dz,hdz⟩:=fu (3-(d+1));rw[hdz];have g3:((dz:Int)==3)=false:=zj
   rw[show((3-d:Nat):Int)=(dz:Int)+1 by omega]at CN;have hdz3:dz<3:=zx
   clear Y ih CL hdz;go_wp2_with fail
   apply CN.o.mono;rintro e w2 ⟨hk2,⟨i,hy,hi,rfl⟩ | ⟨xs,r2,v,hy,rfl,⟨F,hR,hN⟩,Cj⟩⟩
   .exact⟨rfl,KA.o.trans hk2,Or.inl ⟨i,YT.o.trans<|De.Az hy,hi,rfl⟩⟩
   obtain⟨p2,c2,rfl⟩:=AQ.form hR;obtain⟨y0,y1,y2,y3,sf⟩:=(LA.o.of<|hk2.block w1.heap.size zw zx).four;obtain⟨z0,z1,z2,z3,sg⟩:=(LR.o.of<|hk2.block w.heap.size zc zx).four;have R:=AC<|AJ (YT.o.trans<|De.map_ok hy)<|AJ (KA.o.trans hk2)<|AJ Cj<|AJ hR hN;clear hy hk2 Cj CN hR hN;go_wp2
   refine Bg (by simp[results,results296,go_sem,z0,z1,z2,z3];try rfl) rfl ?_;obtain⟨hY,hK,hD,hR,hN⟩:=R.o;exact⟨(hK.Ai _ _ _ zx).r4 lr,Or.inr ⟨_,r2,_,hY,rfl,⟨_,F,rfl,⟨_,rfl,L9,⟨by show(_:Int)<=0;omega,by show(0:Int)<=_;omega⟩,(by decide:(0:Nat)<1000000000),AQ.sb (BQ.sb (ty:=AV)<|d+1) _ _ _ _ _ hR fun j hj=>(KY (by have:=hN.ge j hj;simp at this;omega)).trans (Aw _ _ _ _ (by have:=hN.ge j hj;simp at this;show j≠w1.heap.size;omega))⟩,hN.la zc zw⟩,hD.of<|(KY zx).trans<|Aw _ _ _ _ zx⟩⟩
 .have CN:=AC<|Zxf CL ZA.o DA.o;have YT:=AC<|Y.o.trans hT;clear hT Y ih CL;rcases hk with rfl | rfl | rfl;all_goals
   go_wp2_with fail
   apply CN.o.mono;rintro e w2 ⟨hk2,⟨i,hy,hi,rfl⟩ | ⟨t,r2,v,hy,rfl,⟨rfl,hn⟩,Cj⟩⟩
   .exact⟨rfl,KA.o.trans hk2,Or.inl ⟨i,YT.o.trans<|De.Az hy,hi,rfl⟩⟩
   obtain⟨y0,y1,y2,y3,sf⟩:=(LA.o.of<|hk2.block w1.heap.size zw zx).four;obtain⟨z0,z1,z2,z3,sg⟩:=(LR.o.of<|hk2.block w.heap.size zc zx).four;have R:=AC<|AJ (YT.o.trans<|De.map_ok hy)<|AJ (KA.o.trans hk2) Cj;clear hy hk2 Cj CN;go_wp2
   refine Bg (by simp[results,results296,go_sem,z0,z1,z2,z3];try rfl) rfl ?_;exact⟨(R.o.2.1.Ai _ _ _ zx).r4 lr,Or.inr ⟨_,r2,_,R.o.1,rfl,⟨_,[],rfl,⟨_,rfl,L9,⟨by show(_:Int)<=0;omega,by show(0:Int)<=_;omega⟩,hn,AQ.nil⟩,Ag.nil _ _⟩,R.o.2.2.of<|(KY zx).trans<|Aw _ _ _ _ zx⟩⟩
 .have z7:=ZA.o.c7;have CR:=AC<|QL a b (w1.alloc<|.cells #[zo (k:Int),zo 0,.string ⟨#[]⟩,zn] 95) (n:=7) zu;have YT:=AC<|Y.o.trans hT;have g1:((k:Int)==1)=false:=zj
  have g2:((k:Int)==2)=false:=zj
  have g3:((k:Int)==3)=false:=zj
  have g4:((k:Int)==4)=false:=zj
  have g5:((k:Int)==5)=false:=zj
  have g6:((k:Int)==6)=false:=zj
  have g7:((k:Int)==7)=false:=zj
  clear hT Y ih CL hk;go_wp2_with fail
  apply mq CR.o;rintro w2 rfl;exact⟨rfl,KA.o,Or.inl ⟨7,YT.o,zu,rfl⟩⟩
def Zxe (CL:Gg): ∀ d,d<=3->Zc d:=by
 have h0:Zc 0:=wF CL zx fun e h=>absurd h zx;have h1:Zc 1:=wF CL zx fun e h=>by obtain rfl:e=0:=zx;exact @h0
 have h2:Zc 2:=wF CL zx fun e h=>by obtain rfl:e=1:=zx;exact @h1
 have h3:Zc 3:=wF CL zx fun e h=>by obtain rfl:e=2:=zx;exact @h2
 intro d hd;match d,hd with
 | 0,_=>exact @h0
 | 1,_=>exact @h1
 | 2,_=>exact @h2
 | 3,_=>exact @h3
end
variable {w:Bb}{L:Nat}{x0 x1 x2 x3 x4 x5 x6 x7 x8:Value}
def jZ {k:Nat}(hk:k≠L):(((((((((w.setCell (zm L 0) x0).setCell (zm L 1) x1).setCell (zm L 2) x2).setCell (zm L 3) x3).setCell (zm L 4) x4).setCell (zm L 5) x5).setCell (zm L 6) x6).setCell (zm L 7) x7).setCell (zm L 8) x8).heap[k]?=w.heap[k]?:=by
 iterate 9 rw[Aw _ _ _ _ hk]
def Ad.r9 {b:Nat}{w0:Bb}(h:Ad b w0 w)(hL:w0.heap.size<=L):Ad b w0 (((((((((w.setCell (zm L 0) x0).setCell (zm L 1) x1).setCell (zm L 2) x2).setCell (zm L 3) x3).setCell (zm L 4) x4).setCell (zm L 5) x5).setCell (zm L 6) x6).setCell (zm L 7) x7).setCell (zm L 8) x8):=
 (((((h.r4 hL).Ai _ _ _ hL).Ai _ _ _ hL).Ai _ _ _ hL).Ai _ _ _ hL).Ai _ _ _ hL
variable {a:Nat->Addr}{b:Nat}{l:By}
def Zqc (CL:Gg)(Z:AZ a w)(h:Dc w b l):
  Calls prog 284 #[zq b 0] w (Iw a b (Ie (Bz AV 4) w.heap.size) w<|ZF l):=by
 have hb:=h.1.lt;have hgb:=h.2.2;have K0:=AC<|(Ad.refl b w).alloc<|.cells #[sE,zn] 64;have L0:=AC<|AO.new w #[sE,zn] 64;have C:=AC<|Zxf CL (Z.keeps K0.o hgb)<|h.alloc<|.cells #[sE,zn] 64;have ZZ:=AC Z;have TM:=AC<|@Zxe CL 3 zx;clear Z h CL;go_in
 go_wp2_with fail
 apply C.o.mono;rintro e w1 ⟨AX,⟨i,hy,hi,rfl⟩ | ⟨t,r1,v,hy,rfl,⟨rfl,ht⟩,Bc⟩⟩
 .exact⟨rfl,K0.o.trans AX,Or.inl ⟨i,De.Ae hy,hi,rfl⟩⟩
 have K1:=AC<|K0.o.trans AX;have Y:=AC<|De.then_ok (g:=fun n=>(DF 6<|MO 3).map fun l=>(⟨n,l⟩:A)) hy;have L1:=AC<|L0.o.of<|AX.block w.heap.size zw zx;have C2:=AC<|Zti TM.o (ZZ.o.keeps K1.o hgb) Bc;have hs1:=L1.o.lt;clear hy AX Bc C L0 K0;go_wp2_with fail
 apply C2.o.mono;rintro e w2 ⟨hk2,⟨i,hy,hi,rfl⟩ | ⟨xs,r2,v,hy,rfl,⟨F,hR,hN⟩,Cj⟩⟩
 .exact⟨rfl,K1.o.trans hk2,Or.inl ⟨i,Y.o.trans<|De.Az hy,hi,rfl⟩⟩
 obtain⟨p2,c2,rfl⟩:=AQ.form hR;obtain⟨z0,z1,sg⟩:=(L1.o.of<|hk2.block w.heap.size hs1 zx).two;have R:=AC<|AJ (Y.o.trans<|De.map_ok hy)<|AJ (K1.o.trans hk2)<|AJ Cj<|AJ hR hN;clear hy hk2 Cj hR hN C2 Y;go_wp2_with fail
 refine Bg (by simp[results,results284,go_sem,z0,z1];try rfl) rfl ?_;obtain⟨hY,hK,hD,hR,hN⟩:=R.o;exact⟨hK.r2 lr,Or.inr ⟨_,r2,_,hY,rfl,⟨_,F,rfl,⟨_,rfl,ht,AQ.sb (BQ.sb (ty:=AV) 4) _ _ _ _ _ hR fun j hj=>uf (fw (hN.ge j hj))⟩,hN.la zx zw⟩,hD.of<|uf zx⟩⟩
def Z47 (CL:Gg)(Z:AZ a w)(h:Dc w b l):
  Calls prog 298 #[zq b 0] w (Iw a b (Ie (Eo AV 4) w.heap.size) w<|jS l):=by
 have hb:=h.1.lt;have hgb:=h.2.2;have K0:=AC<|(Ad.refl b w).alloc<|.cells #[zo 0,zo 0,zo 0,sE,zn,zo 0,zo 0,sE,zn] 97;have L0:=AC<|AO.new w #[zo 0,zo 0,zo 0,sE,zn,zo 0,zo 0,sE,zn] 97;have C:=AC<|qN (Z.keeps K0.o hgb)<|h.alloc<|.cells #[zo 0,zo 0,zo 0,sE,zn,zo 0,zo 0,sE,zn] 97;have ZZ:=AC Z;have TM:=AC<|@Zxe CL 3 zx;clear Z h CL;go_in
 go_wp2_with fail
 apply C.o.mono;rintro e w1 ⟨AX,⟨i,hy,hi,rfl⟩ | ⟨op,r1,v,hy,rfl,⟨rfl,hop⟩,Bc⟩⟩
 .exact⟨rfl,K0.o.trans AX,Or.inl ⟨i,De.Ae hy,hi,rfl⟩⟩
 have K1:=AC<|K0.o.trans AX;have Y:=AC<|De.then_ok (g:=fun(o:Nat)=>(MO 3).then fun a=>(MO 3).map fun b=>(⟨(o:Int),a,b⟩:G)) hy;have L1:=AC<|L0.o.of<|AX.block w.heap.size zw zx;have C2:=AC<|TM.o (ZZ.o.keeps K1.o hgb) Bc;have hs1:=L1.o.lt;clear hy AX Bc C L0 K0;go_wp2_with fail
 apply C2.o.mono;rintro e w2 ⟨hk2,⟨i,hy,hi,rfl⟩ | ⟨x,r2,v,hy,rfl,⟨vs,F,rfl,hQ,hN⟩,Cj⟩⟩
 .exact⟨rfl,K1.o.trans hk2,Or.inl ⟨i,Y.o.trans<|De.Ae hy,hi,rfl⟩⟩
 obtain⟨p2,c2,rfl⟩:=BQ.vals hQ;have K2:=AC<|K1.o.trans hk2;have Y2:=AC<|Y.o.trans<|De.then_ok (g:=fun a=>(MO 3).map fun b=>(⟨(op:Int),a,b⟩:G)) hy;have L2:=AC<|L1.o.of<|hk2.block w.heap.size hs1 zx;have C3:=AC<|TM.o (ZZ.o.keeps K2.o hgb) Cj;have HQ:=AC<|AJ hQ hN;have hs2:=hk2.size;clear hy hk2 Cj C2 L1 K1 Y hQ hN;go_wp2_with fail
 apply C3.o.mono;rintro e w3 ⟨hk3,⟨i,hy,hi,rfl⟩ | ⟨y,r3,v,hy,rfl,⟨us,G,rfl,Yp,BZ⟩,Yj⟩⟩
 .exact⟨rfl,K2.o.trans hk3,Or.inl ⟨i,Y2.o.trans<|De.Az hy,hi,rfl⟩⟩
 obtain⟨p3,c3,rfl⟩:=BQ.vals Yp;obtain⟨z0,z1,z2,z3,z4,z5,z6,z7,z8,sg⟩:=(L2.o.of<|hk3.block w.heap.size zx zx).nine;have R:=AC<|AJ (Y2.o.trans<|De.map_ok hy)<|AJ (K2.o.trans hk3)<|AJ Yj<|AJ (BQ.sb (ty:=AV) 4 _ _ _ _ _ HQ.o.1 fun j hj=>hk3.block j (HQ.o.2.lt j hj) (fw (HQ.o.2.ge j hj)))<|AJ Yp BZ;have hs3:=hk3.size;clear hy hk3 Yj Yp BZ C3 Y2;go_wp2_with fail
 refine Bg (by simp[results,results298,go_sem,z0,z1,z2,z3,z4,z5,z6,z7,z8];try rfl) rfl ?_;obtain⟨hY,hK,hD,hA,hB,BZ⟩:=R.o;refine⟨hK.r9 lr,Or.inr ⟨_,r3,_,hY,rfl,⟨_,F++G,rfl,⟨_,_,F,G,rfl,⟨by show(_:Int)<=(op:Int);omega,by show(op:Int)<=_;omega⟩,BQ.sb (ty:=AV) 4 _ _ _ _ _ hA fun j hj=>jZ (fw (HQ.o.2.ge j hj)),BQ.sb (ty:=AV) 4 _ _ _ _ _ hB fun j hj=>jZ (fw (BZ.ge j hj)),rfl⟩,?_⟩,hD.of<|jZ zx⟩⟩;exact(HQ.o.2.la (B':=w.heap.size) zx lr).append (BZ.la (B':=w2.heap.size) lr zw) zx lr zc
def Zxc (CL:Gg)(Z:AZ a w)(h:Dc w b l):
  Calls prog 292 #[zq b 0] w (Iw a b (Ie (DI AV 4) w.heap.size) w<|Y9 l):=by
 have hb:=h.1.lt;have hgb:=h.2.2;have Ho:=MR;have K0:=AC<|(Ad.refl b w).alloc<|.cells #[sE,zn,zn,zn] 69;have L0:=AC<|AO.new w #[sE,zn,zn,zn] 69;have ea:Da 284:=EH func284 zt rfl;have eg:Da 298:=EH func298 zt rfl;have C:=AC (Zjj (d:=4) (f:=ZF) ea (first:=#[zq b 0]) (cap:=#[]) (m:=4) (Z.keeps K0.o hgb) (h.alloc<|.cells #[sE,zn,zn,zn] 69) zx fun u r hu=>Zqc CL hu.2.2 hu.1);have CG:=AC (fun u r (hz:AZ a u) (hd:Dc u b r)=>Zo3 (d:=3) (f:=jS) eg (first:=#[zq b 0]) (cap:=#[]) (m:=4) hz hd zx fun u r hu=>Z47 CL hu.2.2 hu.1);have ZZ:=AC Z;clear Z h CL ea eg;go_in
 go_wp2_with fail
 apply C.o.mono;rintro e w1 ⟨AX,⟨i,hy,hi,rfl⟩ | ⟨xs,r1,v,hy,rfl,⟨F,hR,hN⟩,Bc⟩⟩
 .exact⟨rfl,K0.o.trans AX,Or.inl ⟨i,De.Ae hy,hi,rfl⟩⟩
 obtain⟨p1,c1,rfl⟩:=AQ.form hR;have K1:=AC<|K0.o.trans AX;have Y:=AC<|De.then_ok (g:=fun l=>(DF 4 jS).map fun g=>(⟨⟨ByteArray.empty,[]⟩,l,g⟩:R)) hy;have L1:=AC<|L0.o.of<|AX.block w.heap.size zw zx;have C2:=AC<|CG.o _ _ (ZZ.o.keeps K1.o hgb) Bc;have HR:=AC<|AJ hR hN;have hs1:=L1.o.lt;clear hy AX Bc C L0 K0 hR hN CG;go_wp2_with fail
 apply C2.o.mono;rintro e w2 ⟨hk2,⟨i,hy,hi,rfl⟩ | ⟨gs,r2,v,hy,rfl,⟨G,hR,hN⟩,Cj⟩⟩
 .exact⟨rfl,K1.o.trans hk2,Or.inl ⟨i,Y.o.trans<|De.Az hy,hi,rfl⟩⟩
 obtain⟨p2,c2,rfl⟩:=AQ.form hR;obtain⟨z0,z1,z2,z3,sg⟩:=(L1.o.of<|hk2.block w.heap.size hs1 zx).four;have R:=AC<|AJ (Y.o.trans<|De.map_ok hy)<|AJ (K1.o.trans hk2)<|AJ Cj<|AJ (PG.sb (ty:=AV) HR.o.1 fun j hj=>hk2.block j (HR.o.2.lt j hj) (by have:=HR.o.2.ge j hj;simp at this;omega))<|AJ hR hN;have hs2:=hk2.size;clear hy hk2 Cj hR hN C2 Y;go_wp2_with fail
 refine Bg (by simp[results,results292,go_sem,z0,z1,z2,z3];try rfl) rfl ?_;obtain⟨hY,hK,hD,hA,hB,BZ⟩:=R.o;have n1:=HR.o.2;simp only[EV]at n1;refine⟨hK.r4 lr,Or.inr ⟨_,r2,_,hY,rfl,⟨_,[]++(F++G),rfl,⟨_,_,_,[],F,G,rfl,⟨_,rfl,(by decide:(0:Nat)<1000000000),AQ.nil⟩,PG.sb (ty:=AV) hA fun j hj=>KY (fw (n1.ge j hj)),Wl.sb (ty:=AV) hB fun j hj=>KY (fw (BZ.ge j hj)),rfl⟩,?_⟩,hD.of<|KY zx⟩⟩;exact(n1.la (B':=w.heap.size) zx lr).append (BZ.la (B':=w1.heap.size) lr zw) zx lr zc
variable {B:Nat}{F:Cg}
def Ag.right {G:Cg}(h:Ag B w (F++G)):Ag B w G:=⟨(Mc.1 h.once).2.1,fun k hk=>h.ge k (Vq _ hk),fun k hk=>h.lt k (Vq _ hk)⟩
def Ag.left {G:Cg}(h:Ag B w (F++G)):Ag B w F:=⟨(Mc.1 h.once).1,fun k hk=>h.ge k (Md _ hk),fun k hk=>h.lt k (Md _ hk)⟩
def DI.rows {ty:U2}{d:Nat}{x:R}{v0 v1 v2 v3:Value}(h:DI ty d w [v0,v1,v2,v3] x F): ∃ Fh Fb Fg,Bz ty d w [v0,v1] x.head Fh/\PG ty d w v2 x.body Fb/\Wl ty d w v3 x.gu Fg/\F=Fh++(Fb++Fg):=by
 obtain⟨hv,bv,gv,Fh,Fb,Fg,e,hh,hb,hg,hF⟩:=h;obtain⟨p,c,rfl⟩:=Bz.vals hh;injection e with e0 e;injection e with e1 e;injection e with e2 e;injection e with e3 e;subst e0 e1 e2 e3;exact⟨Fh,Fb,Fg,hh,hb,hg,hF⟩
def Z8n (CL:Gg)(Z:AZ a w)(h:Dc w b l):
  Calls prog 286 #[zq b 0] w (Iw a b (Ie (DI AV 4) w.heap.size) w<|kJ l):=by
 have hb:=h.1.lt;have hgb:=h.2.2;have K0:=AC<|(Ad.refl b w).alloc<|.cells #[sE,zn,zn,zn] 69;have L0:=AC<|AO.new w #[sE,zn,zn,zn] 69;have C:=AC<|Zqc CL (Z.keeps K0.o hgb)<|h.alloc<|.cells #[sE,zn,zn,zn] 69;have CB:=AC fun u r (hz:AZ a u) (hd:Dc u b r)=>Zxc CL hz hd;have ZZ:=AC Z;clear Z h CL;go_in
 go_wp2_with fail
 apply C.o.mono;rintro e w1 ⟨AX,⟨i,hy,hi,rfl⟩ | ⟨x,r1,v,hy,rfl,⟨vs,F,rfl,hQ,hN⟩,Bc⟩⟩
 .exact⟨rfl,K0.o.trans AX,Or.inl ⟨i,De.Ae hy,hi,rfl⟩⟩
 obtain⟨p1,c1,rfl⟩:=Bz.vals hQ;have K1:=AC<|K0.o.trans AX;have Y:=AC<|De.then_ok (g:=fun h=>Y9.map fun b=>(⟨h,b.body,b.gu⟩:R)) hy;have L1:=AC<|L0.o.of<|AX.block w.heap.size zw zx;have HR:=AC<|AJ hQ<|AJ hN<|AJ Bc<|ZZ.o.keeps K1.o hgb;have hs1:=L1.o.lt;clear hy AX Bc C L0 K0 hQ hN;go_wp2_with fail
 have KA:=AC<|K1.o.alloc<|.cells #[um x.name,sP p1 x.te.length c1] 64;have LA:=AC<|AO.new w1 #[um x.name,sP p1 x.te.length c1] 64;have LR:=AC<|L1.o.alloc<|.cells #[um x.name,sP p1 x.te.length c1] 64;apply(CB.o _ _ (ZZ.o.keeps KA.o hgb)<|HR.o.2.2.1.alloc _).mono;rintro e w2 ⟨hk2,⟨i,hy,hi,rfl⟩ | ⟨z,r2,v,hy,rfl,⟨us,G,rfl,Yp,BZ⟩,Cj⟩⟩
 .exact⟨rfl,KA.o.trans hk2,Or.inl ⟨i,Y.o.trans<|De.Az hy,hi,rfl⟩⟩
 have Z5:=AC Yp;obtain⟨q0,k0,q1,k1,q2,k2,rfl⟩:=DI.vals Yp;have hs2:=hk2.size;simp only[EV]at hs2;have LA2:=AC<|LA.o.of<|hk2.block w1.heap.size zw zx;have Vt:=AC<|LR.o.of<|hk2.block w.heap.size zc zx;have y0:=fun o=>(LA2.o.alloc o).two.1;have y1:=fun o=>(LA2.o.alloc o).two.2.1;have z0:=fun o=>(Vt.o.alloc o).four.1;have z1:=fun o=>(Vt.o.alloc o).four.2.1;have z2:=fun o=>(Vt.o.alloc o).four.2.2.1;have z3:=fun o=>(Vt.o.alloc o).four.2.2.2.1;have z4:=fun o=>(Vt.o.alloc o).four.2.2.2.2;have R:=AC<|AJ (Y.o.trans<|De.map_ok hy)<|AJ (KA.o.trans hk2)<|AJ Cj<|AJ (Bz.sb (ty:=AV) 4 _ _ _ _ _ HR.o.1 fun j hj=>(hk2.block j (by have:=HR.o.2.1.lt j hj;simp;omega) (by have:=HR.o.2.1.ge j hj;simp at this;omega)).trans (Ah _ _ _<|HR.o.2.1.lt j hj)) BZ;clear hy hk2 Cj BZ Yp Y KA LA LR K1 L1 CB;go_wp2
 refine Bg (by simp[results,results286,go_sem,z0,z1,z2,z3];try rfl) rfl ?_;obtain⟨hY,hK,hD,hA,BZ⟩:=R.o;obtain⟨Fh,Fb,Fg,_,BX,Pm,rfl⟩:=DI.rows Z5.o;have n1:=HR.o.2.1;have n2:=BZ.right;simp only[EV]at n1 n2;have st: ∀ j,j≠w.heap.size->j<w2.heap.size-> ∀ o x0 x1 x2 x3,(((((w2.alloc o).setCell (zm w.heap.size 0) x0).setCell (zm w.heap.size 1) x1).setCell (zm w.heap.size 2) x2).setCell (zm w.heap.size 3) x3).heap[j]?=w2.heap[j]?:=fun j hj hl o x0 x1 x2 x3=>(KY hj).trans (Ah _ _ _ hl);refine⟨(hK.alloc _).r4 lr,Or.inr ⟨_,r2,_,hY,rfl,⟨_,F++(Fb++Fg),rfl,⟨_,_,_,F,Fb,Fg,rfl,Bz.sb (ty:=AV) 4 _ _ _ _ _ hA fun j hj=>st j (fw (n1.ge j hj)) (fw (n1.lt j hj)) _ _ _ _ _,PG.sb (ty:=AV) BX fun j hj=>st j (fw (n2.left.ge j hj)) (n2.left.lt j hj) _ _ _ _ _,Wl.sb (ty:=AV) Pm fun j hj=>st j (fw (n2.right.ge j hj)) (n2.right.lt j hj) _ _ _ _ _,rfl⟩,?_⟩,hD.of<|st b zx hD.1.lt _ _ _ _ _⟩⟩;exact(n1.la (B':=w.heap.size) zx lr).append (n2.la (B':=w1.heap.size) zx zw) zx lr zc
def Z4z (CL:Gg)(Z:AZ a w)(h:Dc w b l):
  Calls prog 288 #[zq b 0] w (Iw a b (Ie (Ew AV 4) w.heap.size) w<|jT l):=by
 have hb:=h.1.lt;have hgb:=h.2.2;have Ho:=MR;have K0:=AC<|(Ad.refl b w).alloc<|.cells #[zn] 134;have L0:=AC<|AO.new w #[zn] 134;have eb:Da 292:=EH func292 zt rfl;have C:=AC (Zjk (d:=4) (f:=Y9) eb (first:=#[zq b 0]) (cap:=#[]) (m:=4) (Z.keeps K0.o hgb) (h.alloc<|.cells #[zn] 134) zx fun u r hu=>Zxc CL hu.2.2 hu.1);clear Z h CL eb;go_in
 go_wp2_with fail
 apply C.o.mono;rintro e w1 ⟨AX,⟨i,hy,hi,rfl⟩ | ⟨xs,r1,v,hy,rfl,⟨F,hR,hN⟩,Bc⟩⟩
 .exact⟨rfl,K0.o.trans AX,Or.inl ⟨i,hy,hi,rfl⟩⟩
 obtain⟨p1,c1,rfl⟩:=AQ.form hR;obtain⟨z0,sg⟩:=(L0.o.of<|AX.block w.heap.size zw zx).one;have R:=AC<|AJ hy<|AJ (K0.o.trans AX)<|AJ Bc<|AJ hR hN;clear hy AX Bc hR hN C;go_wp2
 refine Bg (by simp[results,results288,go_sem,z0];try rfl) rfl ?_;obtain⟨hY,hK,hD,hR,hN⟩:=R.o;simp only[EV]at hN;exact⟨hK.r1 lr,Or.inr ⟨_,r1,_,hY,rfl,⟨_,F,rfl,⟨_,rfl,VY.sb (ty:=AV) hR fun j hj=>Z83 (fw (hN.ge j hj))⟩,hN.la zx zw⟩,hD.of<|Z83 zx⟩⟩
def Z4x (CL:Gg)(Z:AZ a w)(h:Dc w b l):
  Calls prog 276 #[zq b 0] w (Iw a b (Ie (Dx AV 4) w.heap.size) w<|Xp l):=by
 have hb:=h.1.lt;have hgb:=h.2.2;have Ho:=MR;have K0:=AC<|(Ad.refl b w).alloc<|.cells #[zn,zn,zn] 38;have L0:=AC<|AO.new w #[zn,zn,zn] 38;have ea:Da 284:=EH func284 zt rfl;have er:Da 286:=EH func286 zt rfl;have ec:Da 288:=EH func288 zt rfl;have C:=AC (Zjj (d:=4) (f:=ZF) ea (first:=#[zq b 0]) (cap:=#[]) (m:=24) (Z.keeps K0.o hgb) (h.alloc<|.cells #[zn,zn,zn] 38) zx fun u r hu=>Zqc CL hu.2.2 hu.1);have CG:=AC (fun u r (hz:AZ a u) (hd:Dc u b r)=>Zjk (d:=4) (f:=kJ) er (first:=#[zq b 0]) (cap:=#[]) (m:=24) hz hd zx fun u r hu=>Z8n CL hu.2.2 hu.1);have CK:=AC (fun u r (hz:AZ a u) (hd:Dc u b r)=>Zo2 (d:=4) (f:=jT) ec (first:=#[zq b 0]) (cap:=#[]) (m:=24) hz hd zx fun u r hu=>Z4z CL hu.2.2 hu.1);have ZZ:=AC Z;clear Z h CL ea er ec;go_in
 go_wp2_with fail
 apply C.o.mono;rintro e w1 ⟨AX,⟨i,hy,hi,rfl⟩ | ⟨xs,r1,v,hy,rfl,⟨F,hR,hN⟩,Bc⟩⟩
 .exact⟨rfl,K0.o.trans AX,Or.inl ⟨i,De.Ae hy,hi,rfl⟩⟩
 obtain⟨p1,c1,rfl⟩:=AQ.form hR;have K1:=AC<|K0.o.trans AX;have Y:=AC<|De.then_ok (g:=fun f=>(DF 24 kJ).then fun r=>(DF 24 jT).map fun c=>(⟨f,r,c⟩:Bk)) hy;have L1:=AC<|L0.o.of<|AX.block w.heap.size zw zx;have C2:=AC<|CG.o _ _ (ZZ.o.keeps K1.o hgb) Bc;have HR:=AC<|AJ hR hN;have hs1:=L1.o.lt;clear hy AX Bc C L0 K0 hR hN CG;go_wp2_with fail
 apply C2.o.mono;rintro e w2 ⟨hk2,⟨i,hy,hi,rfl⟩ | ⟨gs,r2,v,hy,rfl,⟨G,hR,hN⟩,Cj⟩⟩
 .exact⟨rfl,K1.o.trans hk2,Or.inl ⟨i,Y.o.trans<|De.Ae hy,hi,rfl⟩⟩
 obtain⟨p2,c2,rfl⟩:=AQ.form hR;have K2:=AC<|K1.o.trans hk2;have Y2:=AC<|Y.o.trans<|De.then_ok (g:=fun r=>(DF 24 jT).map fun c=>(⟨xs,r,c⟩:Bk)) hy;have L2:=AC<|L1.o.of<|hk2.block w.heap.size hs1 zx;have C3:=AC<|CK.o _ _ (ZZ.o.keeps K2.o hgb) Cj;have n1:=HR.o.2;simp only[EV]at n1;have Ao:=AC<|AJ (PG.sb (ty:=AV) HR.o.1 fun j hj=>hk2.block j (n1.lt j hj) (fw (n1.ge j hj)))<|AJ hR hN;have HN1:=AC n1;have hs2:=hk2.size;clear hy hk2 Cj C2 L1 K1 Y hR hN HR n1 CK;go_wp2_with fail
 apply C3.o.mono;rintro e w3 ⟨hk3,⟨i,hy,hi,rfl⟩ | ⟨cs,r3,v,hy,rfl,⟨H,hR,hN⟩,Yj⟩⟩
 .exact⟨rfl,K2.o.trans hk3,Or.inl ⟨i,Y2.o.trans<|De.Az hy,hi,rfl⟩⟩
 obtain⟨p3,c3,rfl⟩:=AQ.form hR;obtain⟨z0,z1,z2,sg⟩:=(L2.o.of<|hk3.block w.heap.size zx zx).three;have R:=AC<|AJ (Y2.o.trans<|De.map_ok hy)<|AJ (K2.o.trans hk3)<|AJ Yj<|AJ (PG.sb (ty:=AV) Ao.o.1 fun j hj=>hk3.block j (fw (HN1.o.lt j hj)) (fw (HN1.o.ge j hj)))<|AJ (VY.sb (ty:=AV) Ao.o.2.1 fun j hj=>hk3.block j (Ao.o.2.2.lt j hj) (fw (Ao.o.2.2.ge j hj)))<|AJ hR hN;have hs3:=hk3.size;clear hy hk3 Yj hR hN C3 Y2;go_wp2
 refine Bg (by simp[results,results276,go_sem,z0,z1,z2];try rfl) rfl ?_;obtain⟨hY,hK,hD,hA,hB,hC,aP⟩:=R.o;have n1:=HN1.o;have n2:=Ao.o.2.2;refine⟨hK.r3 lr,Or.inr ⟨_,r3,_,hY,rfl,⟨_,F++(G++H),rfl,⟨_,_,_,F,G,H,rfl,PG.sb (ty:=AV) hA fun j hj=>Vd (fw (n1.ge j hj)),VY.sb (ty:=AV) hB fun j hj=>Vd (fw (n2.ge j hj)),bI.sb (ty:=AV) hC fun j hj=>Vd (fw (aP.ge j hj)),rfl⟩,?_⟩,hD.of<|Vd zx⟩⟩;exact(n1.la (B':=w.heap.size) zx lr).append ((n2.la (B':=w1.heap.size) lr lr).append (aP.la (B':=w2.heap.size) lr zw) zx lr zc) zx lr zc
variable {t:Ay}{q:Nat}
def Zk5 (c:Nat)(w:Bb):Calls prog 127 #[yS (c:Int)] w fun e w'=>e=uY (.bool<|SF c)/\w'=w:=by
 go_in
 go_wp2
 all_goals (go_ret;exact⟨Ns (by rw[Bool.eq_iff_iff];simp[SF];omega),rfl⟩)
def Zk4 (c:Nat)(w:Bb):Calls prog 131 #[yS (c:Int)] w fun e w'=>e=uY (.bool<|G9 c)/\w'=w:=by
 go_in
 go_wp2
 all_goals (go_ret;exact⟨Ns (by rw[Bool.eq_iff_iff];simp[G9];omega),rfl⟩)
def Ziz (c:Nat)(w:Bb):Calls prog 194 #[yS (c:Int)] w fun e w'=>e=uY (.bool<|Gj c)/\w'=w:=by
 go_in
 go_wp2
 all_goals (go_ret;exact⟨Ns (by rw[Bool.eq_iff_iff];simp[Gj,SF,G9];omega),rfl⟩)
def Ycz (h:q<t.size)(hq:YG (Ac t) q=false):false=IR t:=by
 unfold IR;rw[I8 (fun hall=>by rw[hall q h]at hq;cases hq)];rfl
def uh (w:Bb) (t:Ay) (wr:Bb):Prop:= ∃ q,q<=t.size/\wr=w.iter t q/\ ∀ i,i<q->YG (Ac t) i=true
def uh.next {w:Bb}{ok:Bool}(hall: ∀ i,i<q->YG (Ac t) i=true)(hlt:q<t.size)(h:YG (Ac t) q=ok)(Aq:ok=true):uh w t (w.iter t<|q+1):=
 ⟨q+1,hlt,rfl,fun i hi=>by
  by_cases hiq:i=q
  ·rw[hiq,h,Aq]
  ·exact hall i zx⟩
def Zni (t:Ay)(w:Bb)(ht:t.size<1000000000):Calls prog 158 #[um t] w (fun e w'=>e=uY (.bool<|IR t)/\Bl w w'):=by
 have E0:=X4 t;by_cases h0:t.size=0
 .have h:t.toList=[]:=M9<|(gL t).trans h0;clear E0;go_in
  go_wp2
  go_ret
  exact⟨Ns (by simp[IR,h0]),AR _ _⟩
 have h: ¬ t.toList=[]:=fun q=>h0 ((gL t).symm.trans (by rw[q];rfl));clear E0;by_cases aW:t.size<=16
 .have g1:t.toList.isEmpty=false:=by simp[h]
  have g2:decide ((16:Int)<(t.size:Int))=false:=zc
  go_in
  go_wp2
  go_loopw [3] (fun _ wr=>uh w t wr) (fun _ wr=>t.size-wr.iterPos w.heap.size)
  .exact⟨0,zx,rfl,fun i hi=>absurd hi zx⟩
  .obtain⟨q,hq,rfl,hall⟩:=hrel;by_cases hlt:q<t.size
   .have hx:=ZQ t q hlt;have HN:=AC fun h=>Ycz (q:=q) hlt h;have HO:AF (YG (Ac t) q=(SF ((Ac t).getD q 0) || (decide (q≠0) && (G9 ((Ac t).getD q 0) || decide ((Ac t).getD q 0=95))))):=⟨rfl⟩;have hn:=fun ty=>run_next_any (P:=prog) w t q ty hlt;have pF:=Zu0 t q;have FI:=AC fun ok (h:YG (Ac t) q=ok) (hk:ok=true)=>uh.next (w:=w) hall hlt h hk;by_cases pI:(Ac t).getD q 0<128
    .have e:Utf8.decode t q=((Ac t).getD q 0,1):=by
      rw[<- hx]at pI⊢;simp only[Utf8.decode,get_at t q hlt,xj pI]
     rw[e]at hn;clear e hx;generalize (Ac t).getD q 0=x at*;have S:AF (Gj x=(SF x || G9 x || decide (x=95))):=⟨rfl⟩;have n128: ¬ (128:Int)<=(x:Int):=zx
     generalize YG (Ac t) q=ok at*;have C1:=AC<|Ziz x;have C2:=AC<|Zk5 x;generalize SF x=b1 at*;generalize G9 x=b2 at*;generalize Gj x=b3 at*;clear hall;by_cases il:q=0
     .have q0:((q:Int)==0)=true:=by rw[DR];omega
      have Zt:AF (ok=b1):=⟨by rw[HO.o];simp[il]⟩;clear HO il;cases b1 with
      | true=>
       obtain rfl:b3=true:=by rw[S.o];rfl
       go_wp2_with (first | (go_at_call 194;apply(C1.o _).mono;rintro e w' ⟨rfl,rfl⟩) | (go_at_call 127;apply(C2.o _).mono;rintro e w' ⟨rfl,rfl⟩))
       go_roundw
       .exact FI.o _ rfl Zt.o
       simp;omega
      | false=>
       clear S;cases b3;all_goals
        go_wp2_with (first | (go_at_call 194;apply(C1.o _).mono;rintro e w' ⟨rfl,rfl⟩) | (go_at_call 127;apply(C2.o _).mono;rintro e w' ⟨rfl,rfl⟩))
        go_ret
        exact⟨Ns<|HN.o Zt.o,wH _ _ _⟩
     .have q0:((q:Int)==0)=false:=zj
      have Zt:AF (ok=b3):=⟨by rw[HO.o,S.o];simp[il,Bool.or_assoc]⟩;clear HO il S;cases b3 with
      | true=>
       go_wp2_with (go_at_call 194;apply(C1.o _).mono;rintro e w' ⟨rfl,rfl⟩)
       go_roundw
       .exact FI.o _ rfl Zt.o
       simp;omega
      | false=>
       go_wp2_with (go_at_call 194;apply(C1.o _).mono;rintro e w' ⟨rfl,rfl⟩)
       go_ret
       exact⟨Ns<|HN.o Zt.o,wH _ _ _⟩
    .have e:=(decode_high t q hlt (by rw[hx];omega)).1;have e2:(128:Int)<=((Utf8.decode t q).1:Int):=zx
     have NO:AF (YG (Ac t) q=false):=⟨by
      rw[HO.o];generalize (Ac t).getD q 0=x at*;simp[SF,G9]
      omega⟩
     go_wp2
     go_ret
     exact⟨Ns<|HN.o NO.o,wH _ _ _⟩
   .obtain rfl:q=t.size:=zx
    have hn:=fun ty=>run_next_end (P:=prog) w t t.size ty zx;have HY:AF (true=IR t):=⟨by unfold IR;rw[Nv hall,Nv (by omega:1<=t.size),Nv aW];rfl⟩;go_wp2
    go_ret
    exact⟨Ns HY.o,wH _ _ _⟩
 .have g2:(16:Int)<(t.size:Int):=zx
  have g1:t.toList.isEmpty=false:=by simp[h]
  go_in
  go_wp2
  go_ret
  exact⟨Ns (by unfold IR;rw[I8 aW];simp),AR _ _⟩
end Go.W
