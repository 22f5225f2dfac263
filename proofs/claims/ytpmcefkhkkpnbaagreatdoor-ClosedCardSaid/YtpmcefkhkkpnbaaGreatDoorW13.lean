import Derived.Test.YtpmcefkhkkpnbaaGreatDoorW04
import Derived.Test.YtpmcefkhkkpnbaaGreatDoorW12
import Derived.Deep.RegionWith
set_option linter.all false
set_option maxRecDepth 100000
set_option maxHeartbeats 8000000
open Go.Proofs Go.RowKit Go.W Tryz
namespace Go.W
def Zy1 {n:Nat}{l t r:By}(h:Jt n l= .ok (t,r)):t.length=n/\r.length<=l.length:=by
 unfold Jt at h;split at h
 .cases h
 .injection h with h;injection h with h1 h2;subst h1;subst h2;simp;omega
def Z8m (V:D9)(CL:Gg){a:Nat->Addr}{w:Bb}{b:Nat}{l:By}(Z:AZ a w)(h:Dc w b l):
  Calls prog 215 #[zq b 0] w (Iw a b (Ie (Iu AV 4) w.heap.size) w<|Sv l):=by
 have hb:=h.1.lt;have hgb:=h.2.2;have K0:=AC<|(Ad.refl b w).alloc<|.cells #[sE,zn,zn,zn] 112;have L0:=AC<|AO.new w #[sE,zn,zn,zn] 112;have C:=AC<|Ze (Z.keeps K0.o hgb)<|h.alloc<|.cells #[sE,zn,zn,zn] 112;have ZZ:=AC Z;have VC:=AC<|AJ V CL;clear Z h V CL;go_in
 go_wp2_with fail
 apply C.o.mono;rintro e w1 ⟨AX,⟨i,hy,hi,rfl⟩ | ⟨n,r1,v,hy,rfl,⟨rfl,hn⟩,Bc⟩⟩
 .exact⟨rfl,K0.o.trans AX,Or.inl ⟨i,De.Ae hy,hi,rfl⟩⟩
 have K1:=AC<|K0.o.trans AX;have Y:AF (Sv l=(if 4000<n then fun _=> .error 4 else(Jt n).then Xh) r1):=⟨De.then_ok hy⟩;have L1:=AC<|L0.o.of<|AX.block w.heap.size zw zx;have hs1:=L1.o.lt;have Z1:=AC<|ZZ.o.keeps K1.o hgb;have T9:=AC Bc;clear hy AX Bc C L0 K0;by_cases hlt:4000<n
 .have Y4:AF (Sv l= .error 4):=⟨by rw[Y.o,xj hlt]⟩;have g:(4000:Int)<(n:Int):=zx
  have z4:=Z1.o.c4;have CR:=AC<|QL a b w1 (n:=4) zu;clear Y;go_wp2_with fail
  apply mq CR.o;rintro w2 rfl;exact⟨rfl,K1.o,Or.inl ⟨4,Y4.o,zu,rfl⟩⟩
 have g: ¬ (4000:Int)<(n:Int):=zx
 have Y1:=AC<|Y.o;rw[xd hlt]at Y1;have C2:=AC<|qJ Z1.o T9.o n hn;clear Y;go_wp2_with fail
 apply C2.o.mono;rintro e w2 ⟨hk2,⟨i,hy,hi,rfl⟩ | ⟨t,r2,v,hy,rfl,rfl,Cj⟩⟩
 .exact⟨rfl,K1.o.trans hk2,Or.inl ⟨i,Y1.o.trans<|De.Ae hy,hi,rfl⟩⟩
 have K2:=AC<|K1.o.trans hk2;have Y2:=AC<|Y1.o.trans<|De.then_ok hy;have L2:=AC<|L1.o.of<|hk2.block w.heap.size hs1 zx;have hs2:=L2.o.lt;have JW:=(Zy1 hy).1;have Z2:=AC<|ZZ.o.keeps K2.o hgb;have iK:=AC Cj;have C3:=AC<|Z43 VC.o.1 VC.o.2 Z2.o Z2.o.size (l:=t) zx;clear hy hk2 Cj C2 Y1 L1 T9 Z1 K1;go_wp2_with fail
 apply C3.o.mono;rintro e w3 ⟨hb3,⟨m,hy,hm,rfl⟩ | ⟨x,vs,F,hy,rfl,hQ,hN⟩⟩
 .have Y3:AF (Sv l= .error m):=⟨Y2.o.trans<|Z0u hy _⟩;have CR:=AC fun u=>QL a b u hm;have K3:=AC<|K2.o.AU hb3;rw[BU _ hm]at CR⊢;clear Y2 hy hb3 C3;go_wp2_with fail
  apply(CR.o _).mono;rintro e w4 ⟨rfl,rfl⟩;exact⟨rfl,K3.o.alloc _,Or.inl ⟨m,Y3.o,hm,rfl⟩⟩
 .have Y3:AF (Sv l= .ok ((ba t,x),r2)):=⟨Y2.o.trans<|Z2y hy _⟩;have K3:=AC<|K2.o.AU hb3;have L3:=AC<|L2.o.of<|hb3.block _ hs2;have bW:=AC<|iK.o.of<|hb3.block _ iK.o.1.lt;have HQ:=AC<|AJ hQ hN;obtain⟨p1,c1,p2,c2,p3,c3,rfl⟩:=Dx.vals hQ;have z0:=fun o=>(L3.o.alloc o).four.1;have z1:=fun o=>(L3.o.alloc o).four.2.1;have z2:=fun o=>(L3.o.alloc o).four.2.2.1;have z3:=fun o=>(L3.o.alloc o).four.2.2.2.1;have z4:=fun o=>(L3.o.alloc o).four.2.2.2.2;have hs3:=AC L3.o.lt;have H7:AF ((ba t).size<1000000000):=⟨by rw[Uk];omega⟩;have hs23:=hb3.size;clear Y2 hy hb3 C3 hQ hN;go_wp2
  refine Bg (by simp[results,results215,go_sem,z0,z1,z2,z3];try rfl) rfl ?_;have n1:=HQ.o.2;have st: ∀ j,j≠w.heap.size->j<w3.heap.size-> ∀ o x0 x1 x2 x3,(((((w3.alloc o).setCell (zm w.heap.size 0) x0).setCell (zm w.heap.size 1) x1).setCell (zm w.heap.size 2) x2).setCell (zm w.heap.size 3) x3).heap[j]?=w3.heap[j]?:=fun j hj hl o x0 x1 x2 x3=>(KY hj).trans (Ah _ _ _ hl);have hs3:=hs3.o;exact⟨(K3.o.alloc _).r4 lr,Or.inr ⟨_,r2,_,Y3.o,rfl,⟨_,F,rfl,⟨_,rfl,H7.o,Dx.sb (ty:=AV) 4 _ _ _ _ _ HQ.o.1 fun j hj=>st j (fw (n1.ge j hj)) (n1.lt j hj) _ _ _ _ _⟩,n1.la zx zw⟩,bW.o.of<|st b zx bW.o.1.lt _ _ _ _ _⟩⟩
variable {t:Bu}{b:Nat}{w:Bb}
def BH:Ca:=#[.bool false,zn,yS 0,yS 0,yS 0,yS 0,yS 0,yS 0,yS 0,yS 0,yS 0,yS 0,yS 0,yS 0,yS 0,yS 0,yS 0,yS 0,yS 0,yS 0,yS 0,yS 0,yS 0,yS 0,yS 0,yS 0,yS 0,yS 0,yS 0,yS 0,yS 0,yS 0,yS 0,yS 0]
def VZ (d:Nat):Du Ch:=fun w vs x F=> ∃ v,vs= .bool x.sealed::v::Lib.byteCells x.tag/\x.tag.length=32/\AQ 112 4 (Iu AV d) w v x.links F
def DC (s:Bool) (v:Value) (t:Bu):Ca:=(.bool s::v::t).toArray
def Vi (s:Bool)(v:Value)(h:t.length=32):(DC s v t).size=34:=by simp[DC,h]
def Wv (s:Bool)(v:Value)(h:t.length=32):(prog.info? 118).map (·.size)=some (DC s v t).size:=by rw[Vi s v h];kernel_rfl
def Z4t (S:Bool)(v:Value){z:Bu}(hz:z.length=32){t:By}(ht:t.length=32):((DC S v z).toList.take 2++Lib.byteCells ((ba t).data.toList.take 32)++(DC S v z).toList.drop (2+32)).toArray=DC S v (Lib.byteCells t):=by
 have e1:(ba t).data.toList.take 32=t:=by rw[<- ht];simp[ba]
 rw[e1];simp[DC,hz]
def gK (S:Bool)(p:Bp)(n c:Nat)(t:List UInt8):(DC S (sP p n c)<|Lib.byteCells t).all (·.oneCell')=true:=by
 unfold DC;rw[List.all_toArray,SI];intro x hx;rcases Ak.1 hx with rfl | hx
 .rfl
 rcases Ak.1 hx with rfl | hx
 .rfl
 exact Lib.byteCells_one _ x hx
def Ad.NH {L:Nat}{w0:Bb}(h:Ad b w0 w)(nv:Ca)(hL:w0.heap.size<=L):Ad b w0 (w.setRow L nv):=⟨h.os,h.tape,h.output,by rw[Ef];exact h.size,fun j hj hne=>(Db _ _ j nv zx).trans (h.block j hj hne)⟩
def Zxn:Da 215:=EH func215 zt rfl
def Z4y (V:D9)(CL:Gg){a:Nat->Addr}{l:By}(Z:AZ a w)(h:Dc w b l):
  Calls prog 152 #[zq b 0] w (Iw a b (Ie (VZ 4) w.heap.size) w<|Hu l):=by
 have hb:=h.1.lt;have hgb:=h.2.2;have K0:=AC<|(Ad.refl b w).alloc<|.cells BH 118;have L0:=AC<|AO.new w BH 118;have C:=AC<|qJ (Z.keeps K0.o hgb) (h.alloc<|.cells BH 118) 4 zu;have ZZ:=AC Z;have VC:=AC<|AJ V CL;clear Z h V CL;go_in
 go_wp2_with fail
 apply C.o.mono;rintro e w1 ⟨AX,⟨i,hy,hi,rfl⟩ | ⟨m,r1,v,hy,rfl,rfl,Bc⟩⟩
 .exact⟨rfl,K0.o.trans AX,Or.inl ⟨i,De.Ae hy,hi,rfl⟩⟩
 have K1:=AC<|K0.o.trans AX;have Y:AF (Hu l=(if m≠Nr then fun _=> .error 7 else LY.then fP) r1):=⟨De.then_ok hy⟩;have L1:=AC<|L0.o.of<|AX.block w.heap.size zw zx;have hs1:=AC L1.o.lt;have Z1:=AC<|ZZ.o.keeps K1.o hgb;have T9:=AC Bc;clear hy AX Bc C L0 K0;by_cases hm:m=Nr
 case neg=>
  have Y7:AF (Hu l= .error 7):=⟨by rw[Y.o,xj hm]⟩;have g:((ba m).toList==[119,114,116,49])=false:=by
   rw[Nw,BJ];exact fun h=>hm h
  have z7:=Z1.o.c7;have CR:=AC<|QL a b w1 (n:=7) zu;generalize ba m=M at*;clear Y hm;go_wp2_with fail
  apply mq CR.o;rintro w2 rfl;exact⟨rfl,K1.o,Or.inl ⟨7,Y7.o,zu,rfl⟩⟩
 have Y1:AF (Hu l=LY.then fP r1):=⟨by rw[Y.o,xd fun h=>h hm]⟩;have g:ba m=⟨#[119,114,116,49]⟩:=by rw[hm];rfl
 have HM:=AC g;clear Y hm;rw[g];clear g;have C2:=AC<|qN (Z1.o.keeps ((Ad.refl b w1).alloc<|.cells BH 118) hgb)<|T9.o.alloc<|.cells BH 118;go_wp2_with fail
 apply C2.o.mono;rintro e w2 ⟨hk2,⟨i,hy,hi,rfl⟩ | ⟨s,r2,v,hy,rfl,⟨rfl,hs⟩,Cj⟩⟩
 .exact⟨rfl,(K1.o.alloc _).trans hk2,Or.inl ⟨i,Y1.o.trans<|De.Ae hy,hi,rfl⟩⟩
 have K2:=AC<|(K1.o.alloc _).trans hk2;have Y2:=AC<|Y1.o.trans<|De.then_ok hy;have L2:=AC<|(L1.o.alloc<|.cells BH 118).of<|hk2.block w.heap.size (by have:=hs1.o;simp;omega) zx;have M2:=AC<|(AO.new w1 BH 118).of<|hk2.block w1.heap.size zw (fw (T9.o.1.lt));have hs2:=AC M2.o.lt;have jF:AF (b<w1.heap.size):=⟨T9.o.1.lt⟩;have Z2:=AC<|ZZ.o.keeps K2.o hgb;have iK:=AC Cj;clear hy hk2 Cj C2 Y1 L1 T9 Z1 K1;have Ho:=MR;by_cases gs:1<s
 .have Y7:AF (Hu l= .error 7):=⟨by rw[Y2.o,fP,xj gs]⟩;have g0:((s:Int)==0)=false:=zj
  have g1:((s:Int)==1)=false:=zj
  have z7:=Z2.o.c7;have CR:=AC<|QL a b w2 (n:=7) zu;clear Y2;go_wp2_with fail
  apply mq CR.o;rintro w3 rfl;exact⟨rfl,K2.o,Or.inl ⟨7,Y7.o,zu,rfl⟩⟩
 have Y3:AF (Hu l=(DF 8 Sv).then (jU s) r2):=⟨by rw[Y2.o,fP,xd gs]⟩;have g2:s=0\/s=1:=zx
 clear Y2 gs;rcases g2 with g2 | g2
 case' inl=>
  obtain⟨S,hS⟩: ∃ S,AF ((s==1)=S/\S=false):=⟨_,⟨rfl,by rw[g2];rfl⟩⟩;have M3:AF (AO w2 w1.heap.size (DC S (zn)<|List.replicate 32<|yS 0) 118):=⟨by rw[hS.o.2];exact M2.o⟩;have K3:=AC K2.o;have L3:=AC L2.o;have Z3:=AC Z2.o;have bW:=AC iK.o;have g0:((s:Int)==0)=true:=by rw[DR];omega
  clear g2 M2 K2 L2 Z2 iK;go_wp2_with fail
  obtain⟨W3,hW⟩: ∃ W,w2=W:=⟨_,rfl⟩;rw[hW]at M3 K3 L3 Z3 bW hs2⊢;clear hW
 case' inr=>
  obtain⟨S,hS⟩: ∃ S,AF ((s==1)=S/\S=true):=⟨_,⟨rfl,by rw[g2];rfl⟩⟩;have z0:w2.cell? (zm w1.heap.size 0)=some (.bool false):=M2.o.cell 0;have z1:=M2.o.soft;have g0:((s:Int)==0)=false:=zj
  have g1:((s:Int)==1)=true:=by rw[DR];omega
  have M3:AF (AO (w2.setCell (zm w1.heap.size 0)<|.bool true) w1.heap.size (DC S (zn)<|List.replicate 32<|yS 0) 118):=⟨by rw[hS.o.2];exact M2.o.set 0<|.bool true⟩;have K3:=AC<|K2.o.Ai w1.heap.size 0 (.bool true) (fw (hs1.o));have L3:=AC<|L2.o.away w1.heap.size 0 (fw (hs1.o))<|.bool true;have Z3:=AC<|ZZ.o.keeps K3.o hgb;have bW:=AC<|iK.o.of<|Aw _ (zm w1.heap.size 0) (.bool true) b (by have:=jF.o;show b≠w1.heap.size;omega);clear g2 K2 L2 Z2 iK M2;go_wp2_with fail
  clear z0 z1;obtain⟨W3,hW⟩: ∃ W,w2.setCell (zm w1.heap.size 0) (.bool true)=W:=⟨_,rfl⟩;have nD:AF (w1.heap.size<W3.heap.size):=⟨by rw[<- hW];simpa using hs2.o⟩;rw[hW]at M3 K3 L3 Z3 bW⊢;clear hW hs2;have hs2:=AC nD.o;clear nD
 all_goals
  have C3:=AC (Zqe (d:=4) (f:=Sv) Zxn (first:=#[zq b 0]) (cap:=#[]) (m:=8) Z3.o bW.o zx fun u r hu=>Z8m VC.o.1 VC.o.2 hu.2.2 hu.1);apply C3.o.mono;rintro e w4 ⟨hk4,⟨i,hy,hi,rfl⟩ | ⟨xs,r4,v,hy,rfl,⟨F,hR,hN⟩,RQ⟩⟩
  .exact⟨rfl,K3.o.trans hk4,Or.inl ⟨i,Y3.o.trans<|De.Ae hy,hi,rfl⟩⟩
  obtain⟨p1,c1,rfl⟩:=AQ.form hR;have K4:=AC<|K3.o.trans hk4;have Y4:=AC<|Y3.o.trans<|De.then_ok hy;have M4:=AC<|M3.o.of<|hk4.block _ hs2.o (fw (jF.o));have L4:=AC<|L3.o.of<|hk4.block _ (jE (hs1.o) (hs2.o)) zx;have HR:=AC<|AJ hR hN;have HD4:=AC RQ;have UL:AF (w1.heap.size<w4.heap.size):=⟨M4.o.lt⟩;have mr:=AC hk4.size;have z1:w4.cell? (zm w1.heap.size 1)=some (zn):=M4.o.cell 1;have zs:=M4.o.soft;clear hy hk4 hR hN RQ C3 Y3 M3 L3 Z3 bW K3;by_cases hx:xs.length=0
  .have Y7:AF (Hu l= .error 7):=⟨by rw[Y4.o,jU,xj hx]⟩;have z7:=(ZZ.o.keeps (K4.o.Ai w1.heap.size 1 (sP p1 xs.length c1) (fw (hs1.o))) hgb).c7;have CR:=AC fun u=>QL a b u (n:=7) zu;have gx:((xs.length:Int)==0)=true:=by rw[DR];omega
   generalize xs.length=N at*;clear Y4 hx;go_wp2_with fail
   apply(CR.o _).mono;rintro e w5 ⟨rfl,rfl⟩;exact⟨rfl,K4.o.Ai _ _ _ (fw (hs1.o)),Or.inl ⟨7,Y7.o,zu,rfl⟩⟩
  have gx:((xs.length:Int)==0)=false:=zj
  have Y5:AF (Hu l=(Jt 32).map (fun t=>(⟨s==1,xs,t⟩:Ch)) r4):=⟨by rw[Y4.o,jU,xd hx]⟩;go_wp2_with fail
  have K5:=AC<|K4.o.Ai w1.heap.size 1 (sP p1 xs.length c1) (fw (hs1.o));have M5:AF (AO (w4.setCell (zm w1.heap.size 1)<|sP p1 xs.length c1) w1.heap.size (DC S (sP p1 xs.length c1)<|List.replicate 32<|yS 0) 118):=⟨M4.o.set 1<|sP p1 xs.length c1⟩;have L5:=AC<|L4.o.away w1.heap.size 1 (fw (hs1.o))<|sP p1 xs.length c1;have D5:=AC<|HD4.o.of<|Aw w4 (zm w1.heap.size 1) (sP p1 xs.length c1) b (by have:=jF.o;show b≠w1.heap.size;omega);have R5:AF (AQ 112 4 (Iu AV 4) (w4.setCell (zm w1.heap.size 1)<|sP p1 xs.length c1) (sP p1 xs.length c1) xs F):=⟨AQ.sb (Iu.sb (ty:=AV) 4) _ _ _ _ _ HR.o.1 fun j hj=>Aw _ _ _ _ (by have:=HR.o.2.ge j hj;have:=hs2.o;show j≠w1.heap.size;omega)⟩;have N5:AF (Ag W3.heap.size (w4.setCell (zm w1.heap.size 1)<|sP p1 xs.length c1) F):=⟨HR.o.2.la lr zw⟩;have hs5:AF (w1.heap.size<(w4.setCell (zm w1.heap.size 1)<|sP p1 xs.length c1).heap.size/\W3.heap.size<=(w4.setCell (zm w1.heap.size 1)<|sP p1 xs.length c1).heap.size):=⟨by simpa using AJ UL.o mr.o⟩;clear K4 M4 L4 HD4 HR z1 zs UL mr Y4;generalize w4.setCell (zm w1.heap.size 1) (sP p1 xs.length c1)=W5 at*;have CT:=AC<|qJ (ZZ.o.keeps K5.o.drew hgb) D5.o.drew 32 zu;go_region_with (first
   | (go_at_call 212
      apply CT.o.mono;rintro e w6 ⟨RN,⟨i,hy,hi,rfl⟩ | ⟨t,r6,v,hy,rfl,rfl,hd6⟩⟩
      .exact⟨rfl,K5.o.drew.trans RN,Or.inl ⟨i,Y5.o.trans<|De.Az hy,hi,rfl⟩⟩
      have JW:=(Zy1 hy).1;have Y6:=AC<|Y5.o.trans<|De.map_ok hy;have M6:=M5.o.of<|RN.block _ hs5.o.1 (fw (jF.o));have OU:=Z2h (P:=prog) w6 149 9 3 5 w1.heap.size 2 32 32 32 (ba t) _ 118 underlying149 zt M6 (by rw[Uk,JW];rfl) (by rw[Vi _ _ zw];decide);rw[Z4t _ _ zw JW]at OU))
  all_goals
   have hlen:(Lib.byteCells t).length=32:=by rw[xl,JW]
   have h1:=hs1.o;have h5:=hs5.o;have hbn':=jF.o;have yg:=RN.size;have C7:=GM _ _ _ (DC S (sP p1 xs.length c1)<|Lib.byteCells t) _ _ M6;have L7:=AO.of (L5.o.of<|RN.block _ (show w.heap.size<W5.heap.size by omega) zx)<|Db w6 w1.heap.size w.heap.size (DC S (sP p1 xs.length c1)<|Lib.byteCells t) zx;have K8:=AC<|(Ad.NH (L:=w1.heap.size) (K5.o.drew.trans RN) (DC S (sP p1 xs.length c1)<|Lib.byteCells t) zx);have K9:=AC<|Ad.NH (L:=w.heap.size) K8.o (DC S (sP p1 xs.length c1)<|Lib.byteCells t) lr;have HK6:=AC RN;have HD6:=AC hd6;have R8:=GM _ _ _ (DC S (sP p1 xs.length c1)<|Lib.byteCells t) _ _ L7;clear RN hd6 hy OU;go_wp2_with (first
    | (refine QN rfl 118 (.tmp 3) rfl w1.heap.size rfl 118 (DC S (sP p1 xs.length c1)<|Lib.byteCells t) (0,0) _ C7 underlying118 rfl (Wv _ _ hlen) ?_)
    | (refine Ij rfl 118 (.tmp 2) (.tmp 37) rfl w.heap.size (DC S (sP p1 xs.length c1)<|Lib.byteCells t) rfl rfl 118 BH L7 (Wv _ _ hlen) (by rw[Vi _ _ hlen];rfl) (gK _ _ _ _ _) ?_))
   refine Bg (results_cell_row (p:=2) (ty:=118) rfl _ _ w.heap.size 118 (DC S (sP p1 xs.length c1)<|Lib.byteCells t) (0,0) _ rfl R8 underlying118 rfl<|Wv _ _ hlen) rfl ?_;have st: ∀ j,j≠w.heap.size->j≠w1.heap.size->j≠b->j<W5.heap.size->((w6.setRow w1.heap.size<|DC S (sP p1 xs.length c1)<|Lib.byteCells t).setRow w.heap.size<|DC S (sP p1 xs.length c1)<|Lib.byteCells t).heap[j]?=W5.heap[j]?:=fun j j1 j2 j3 j4=>(Db _ _ j _ j1).trans ((Db _ _ j _ j2).trans<|HK6.o.block j j4 j3);exact⟨K9.o,Or.inr ⟨_,r6,_,Y6.o,rfl,⟨.bool S:: sP p1 xs.length c1::Lib.byteCells t,F,rfl,⟨_,by rw[<- hS.o.1],JW,AQ.sb (Iu.sb (ty:=AV) 4) _ _ _ _ _ R5.o fun j hj=>st j (jE (N5.o.ge j hj) (hs2.o)) (jE (N5.o.ge j hj) (hs2.o)) (jE (N5.o.ge j hj) (hs2.o)) (N5.o.lt j hj)⟩,N5.o.la (fw (hs2.o)) (by rw[Ef,Ef];exact yg)⟩,HD6.o.of<|(Db _ _ b _ zx).trans<|Db _ _ b _ zx⟩⟩
def Zla {P:Program}{fn:Func}{p q:Tmp}{t1 t2:TypeId}(h:fn.results=#[.cell p t1,.cell q t2])(tmps:Ca)(w:Bb)(g1 g2:Addr)(v1 v2:Value)(hp:tmps.getD p undef= .pointer (some g1))(hq:tmps.getD q undef= .pointer (some g2))(h1:(loadVar t1 g1).run P w= .ok v1 w)(h2:(loadVar t2 g2).run P w= .ok v2 w):(results fn tmps).run P w= .ok (.tuple #[v1,v2]) w:=by
 have yo:tmps[p]?.getD undef= .pointer (some g1):=by simpa using hp
 have iq:tmps[q]?.getD undef= .pointer (some g2):=by simpa using hq
 simp[results,h,yo,iq,asAddr,h1,h2]
def Zji (b:Nat)(x:Value)(a:Nat->Addr){n:Int}(hn:n≠0)(w:Bb)(hc:w.cell? (zm b 0)=some x)(hf:w.frozen? (zm b 0)=false):CallsD prog 210 #[zq b 0] (.panicking [{v:= .iface 347<|.agg #[BG a n],recovered:=false}]) w fun e u' w'=>
  e=uY (.tuple #[])/\u'= .panicking [{v:= .iface 347<|.agg #[BG a n],recovered:=true}]/\w'=(w.alloc<|.cells #[BG a n] 347).setCell (zm b 0) (BG a n):=by
 rw[BU _ hn];have hbl:=Wx hc;refine callsD_of_wpS func210 rfl fun c₀ cs hu=>?_;apply wpS_seq
 apply wpS_region
 simp[wpOpsS,go_sem,recoverD,hu,ntmps210,Exit.thenS,Array.replicate,List.replicate];refine wpS_of_wp ?_;have ta:=Zkq;go_wp2_with fail
 simp[bodyPostS,results,results210]
def Zw7 (b:Nat)(w:Bb):CallsD prog 210 #[zq b 0] .returning w fun e u' w'=>e=uY (.tuple #[])/\u'= .returning/\w'=w:=by
 refine callsD_of_wpS func210 rfl fun c₀ cs hu=>?_;apply wpS_seq
 apply wpS_region
 simp[wpOpsS,go_sem,recoverD,hu,ntmps210,Exit.thenS,Array.replicate,List.replicate];refine wpS_of_wp ?_;go_wp2_with fail
 cases c₀;simp_all [bodyPostS,results,results210]
def vW (a:Nat->Addr) (w:Bb) (Y:Except Int Ch) (e:Ending) (w':Bb):Prop:=
 Bl w w'/\((∃ n,Y= .error n/\n≠0/\e=uY (.tuple #[.agg BH,BG a n]))\/ ∃ x vs F,Y= .ok x/\e=uY (.tuple #[.agg vs.toArray,.nilIface])/\VZ 4 w' vs x F/\Ag w.heap.size w' F)
def Zu9:Da 152:=EH func152 zt rfl
def Zm9 (V:D9)(CL:Gg){a:Nat->Addr}{w:Bb}{l:By}(Z:AZ a w)(hl:l.length<1000000000):
  Calls prog 151 #[.string<|ba l,.func (.func 152) #[] #[]] w (vW a w<|GZ Hu l):=by
 have Ho:=MR;have hg:=Z.size;have Dz: ∀ args w,(callFunc 152 args).run prog w= .ok (.enter 152 args) w:=Zu9;have B0:=AC<|((zv w<|.cells BH 118).alloc zw<|.cells #[.nilIface] 57).alloc zc<|.cells #[.string<|ba l] 349;have LR:=AC<|((AO.new w BH 118).alloc<|.cells #[.nilIface] 57).alloc<|.cells #[.string<|ba l] 349;have LE:=AC<|(AO.new (w.alloc<|.cells BH 118) #[.nilIface] 57).alloc<|.cells #[.string<|ba l] 349;have LD:=AC<|AO.new ((w.alloc<|.cells BH 118).alloc<|.cells #[.nilIface] 57) #[.string<|ba l] 349;simp only[EV]at LE LD;have C:=AC<|Z4y V CL (Z.be B0.o) (b:=w.heap.size+1+1) (l:=l) ⟨LD.o,hl,zx⟩;have ZZ:=AC Z;clear Z CL V LD;go_enter_defers func151,ntmps151
 go_wp2_with fail
 apply C.o.mono;rintro e w1 ⟨AX,⟨n,hy,hn,rfl⟩ | ⟨x,r,v,hy,rfl,⟨vs,F,rfl,hQ,hN⟩,Bc⟩⟩
 .have NF:=LR.o.of<|AX.block w.heap.size zc zx;have JD:=LE.o.of<|AX.block (w.heap.size+1) zw zx;have B1:=AC<|B0.o.trans<|AX.be (B:=w.heap.size) zx zc;obtain⟨y0,sy⟩:=JD.one;have q0:=AC<|(NF.alloc<|.cells #[BG a n] 347).away (w.heap.size+1) 0 zx<|BG a n;have q1:=AC<|(JD.alloc<|.cells #[BG a n] 347).set 0<|BG a n;have q2:=AC<|(B1.o.alloc (fw (NF.lt))<|.cells #[BG a n] 347).setCell (p:=(zm (w.heap.size+1) 0)) (by show w.heap.size<=w.heap.size+1;omega)<|BG a n;refine Vn (f:=210) (args:=#[zq (w.heap.size+1) 0]) zw (by simp[go_sem]) ?_;apply(Zji _ _ a hn w1 y0<|sy 0).mono;rintro e u' w'' ⟨rfl,rfl,hw⟩;rw[<- hw]at q0 q1 q2;obtain⟨x0,sx⟩:=AO.one (a:=BG a n) q1.o;clear hw;have nO:=Vo (P:=prog) w'' w.heap.size 118 118 _ _ _ q0.o underlying118 rfl zt;have hle:(loadVar 57 (zm (w.heap.size+1) 0)).run prog w''= .ok (BG a n) w'':=by simp[go_sem,x0]
  exact⟨_,Zla rfl _ _ _ _ _ _ rfl rfl nO hle,q2.o,Or.inl ⟨n,Zos hy,hn,rfl⟩⟩
 .have HQ:=AC hQ;obtain⟨lv,rfl,JW,hrow⟩:=hQ;obtain⟨p1,c1,rfl⟩:=AQ.form hrow;have NF:=AC<|LR.o.of<|AX.block w.heap.size zc zx;have JD:=AC<|LE.o.of<|AX.block (w.heap.size+1) zw zx;have B1:=AC<|B0.o.trans<|AX.be (B:=w.heap.size) zx zc;have Y:=AC<|Zy9 hy;have HD:=AC Bc;have HN:=AC hN;have Z1:=AC<|ZZ.o.be B1.o;have x0:=fun o=>(Bc.1.alloc o).one.1;have hr:(ba r).toList=[]↔r=[]:=by
   rw[Nw];simp[ba]
  have hlen:(Lib.byteCells x.tag).length=32:=by rw[xl,JW]
  have Ci:=Wv x.sealed (sP p1 x.links.length c1) hlen;have hsz:=Vi x.sealed (sP p1 x.links.length c1) hlen;have tL:=gK x.sealed p1 x.links.length c1 x.tag;clear hrow AX Bc hN hy C LR LE JW hlen;have HCV:AF (DC x.sealed (sP p1 x.links.length c1) (Lib.byteCells x.tag)=(Value.bool x.sealed::Value.slice p1 x.links.length c1::Lib.byteCells x.tag).toArray):=⟨rfl⟩;rw[<- HCV.o];obtain⟨CV,Dt⟩:=cK (DC x.sealed (sP p1 x.links.length c1) (Lib.byteCells x.tag));rw[Dt.o]at Ci hsz tL HCV⊢;have S1:=AO.new w1 BH 118;have S2:=GM _ _ _ CV _ _ S1;have hs1:=AC B1.o.size;have hdl:=AC HD.o.1.lt;clear x0;have x0: ∀ o,((w1.alloc o).setRow w1.heap.size CV).cell? (zm (w.heap.size+1+1) 0)=some (.string<|ba r):=fun o=>((HD.o.1.alloc o).of<|Db _ _ _ _ (fw (hdl.o))).one.1;have hL:w.heap.size<w1.heap.size:=NF.o.lt;have hE:w.heap.size+1<w1.heap.size:=JD.o.lt;have RW:=AC fun o=>(NF.o.alloc o).of (Db (w1.alloc o) w1.heap.size _ CV zx);have EW:=AC fun o=>(JD.o.alloc o).of (Db (w1.alloc o) w1.heap.size _ CV zx);have BW:=AC fun o=>(⟨(B1.o.alloc hs1.o o).os,(B1.o.alloc hs1.o o).tape,(B1.o.alloc hs1.o o).output,by rw[Ef];exact(B1.o.alloc hs1.o o).size,fun j hj=>(Db _ _ j _ zx).trans ((B1.o.alloc hs1.o o).block j hj)⟩:Bl w ((w1.alloc o).setRow w1.heap.size CV));by_cases Jo:r=[]
  .have Y1:AF (GZ Hu l= .ok x):=⟨by rw[Y.o,xj Jo]⟩;have g:=hr.2 Jo;have L2:=RW.o<|.cells BH 118;have R3:=AC fun o=>GM _ _ _ CV _ _ (RW.o o);have E3:=AC fun o=>(EW.o o).of (Db ((w1.alloc o).setRow w1.heap.size CV) w.heap.size _ CV zx);have e0:=fun o=>(E3.o o).one.1;have e1:=fun o=>(E3.o o).one.2;have q0:=AC fun o=>AO.away (R3.o o) (w.heap.size+1) 0 zx .nilIface;have q1:=AC fun o=>(E3.o o).set 0 .nilIface;have q2:=AC fun o=>Below.setCell (⟨(BW.o o).os,(BW.o o).tape,(BW.o o).output,by rw[Ef];exact(BW.o o).size,fun j hj=>(Db _ _ j _ zx).trans ((BW.o o).block j hj)⟩:Bl w (((w1.alloc o).setRow w1.heap.size CV).setRow w.heap.size CV)) (p:=(zm (w.heap.size+1) 0)) (by show w.heap.size<=w.heap.size+1;omega) .nilIface;have q3:AF (∀ o j,j∈F->((((w1.alloc o).setRow w1.heap.size CV).setRow w.heap.size CV).setCell (zm (w.heap.size+1) 0) .nilIface).heap[j]?=w1.heap[j]?):=⟨fun o j hj=>by
    have g1:=HN.o.ge j hj;have g2:=HN.o.lt j hj;simp at g1;rw[Aw _ _ _ _ (by show j≠w.heap.size+1;omega),Db _ _ j _ zx,Db _ _ j _ zx];exact Ah _ _ _ g2⟩
   have q4:AF (∀ o,Ag w.heap.size ((((w1.alloc o).setRow w1.heap.size CV).setRow w.heap.size CV).setCell (zm (w.heap.size+1) 0) .nilIface) F):=⟨fun o=>HN.o.la zc (by simp[Ef])⟩;clear hr Jo Y;generalize ba r=s at*;go_wp2_with (first
    | (refine Ij rfl 118 (.tmp 7) (.tmp 14) rfl w1.heap.size CV rfl rfl 118 BH S1 Ci (by rw[hsz];rfl) tL ?_)
    | (refine QN rfl 118 (.tmp 7) rfl w1.heap.size rfl 118 CV (0,0) _ S2 underlying118 rfl Ci ?_)
    | (refine Ij rfl 118 (.tmp 4) (.tmp 23) rfl w.heap.size CV rfl rfl 118 BH L2 Ci (by rw[hsz];rfl) tL ?_))
   clear e0 e1 x0;refine Vn (f:=210) (args:=#[zq (w.heap.size+1) 0]) zw (by simp[go_sem]) ?_;apply(Zw7 _ _).mono;rintro e u' w'' ⟨rfl,rfl,hw⟩;have p0:AO w'' w.heap.size CV 118:=by rw[hw];exact q0.o _
   have yC:AO w'' (w.heap.size+1) #[.nilIface] 57:=by rw[hw];exact q1.o _
   have p2:Bl w w'':=by rw[hw];exact q2.o _
   have p3: ∀ j,j∈F->w''.heap[j]?=w1.heap[j]?:=by rw[hw];exact q3.o _
   have p4:Ag w.heap.size w'' F:=by rw[hw];exact q4.o _
   clear hw;obtain⟨y0,sy⟩:=yC.one;have nO:=Vo (P:=prog) w'' w.heap.size 118 118 _ _ _ p0 underlying118 rfl Ci;have hle:(loadVar 57 (zm (w.heap.size+1) 0)).run prog w''= .ok .nilIface w'':=by simp[go_sem,y0]
   refine⟨_,Zla rfl _ _ _ _ _ _ rfl rfl nO hle,p2,Or.inr ⟨x,_,F,Y1.o,by rw[HCV.o],?_,p4⟩⟩;obtain⟨v,hv,ht,hrow⟩:=HQ.o;exact⟨v,hv,ht,AQ.sb (Iu.sb (ty:=AV) 4) _ _ _ _ _ hrow p3⟩
  .have Y1:AF (GZ Hu l= .error 7):=⟨by rw[Y.o,xd Jo]⟩;have g:(ba r).toList.isEmpty=false:=by rw[List.isEmpty_eq_false_iff];exact fun q=>Jo (hr.1 q)
   have z7:=fun o=>(ZZ.o.be<|BW.o o).c7;have CR:=AC fun u=>QL a (w.heap.size+1+1) u (n:=7) zu;clear hr Jo Y;generalize ba r=s at*;go_wp2_with (first
    | (refine Ij rfl 118 (.tmp 7) (.tmp 14) rfl w1.heap.size CV rfl rfl 118 BH S1 Ci (by rw[hsz];rfl) tL ?_))
   apply(CR.o _).mono;rintro e w2 ⟨rfl,hw2⟩;have l0:AO w2 w.heap.size BH 118:=by rw[hw2];exact RW.o _
   have l1:AO w2 (w.heap.size+1) #[.nilIface] 57:=by rw[hw2];exact EW.o _
   have l2:Bl w w2:=by rw[hw2];exact BW.o _
   clear hw2;obtain⟨y0,sy⟩:=l1.one;have q0:=AC<|(l0.alloc<|.cells #[BG a 7] 347).away (w.heap.size+1) 0 zx<|BG a 7;have q1:=AC<|(l1.alloc<|.cells #[BG a 7] 347).set 0<|BG a 7;have q2:=AC<|(l2.alloc l2.size<|.cells #[BG a 7] 347).setCell (p:=(zm (w.heap.size+1) 0)) (by show w.heap.size<=w.heap.size+1;omega)<|BG a 7;refine Vn (f:=210) (args:=#[zq (w.heap.size+1) 0]) zw (by simp[go_sem]) ?_;apply(Zji _ _ a (n:=7) zu _ y0<|sy 0).mono;rintro e u' w'' ⟨rfl,rfl,hw⟩;rw[<- hw]at q0 q1 q2;obtain⟨u0,sx⟩:=AO.one (a:=BG a 7) q1.o;clear hw;have nO:=Vo (P:=prog) w'' w.heap.size 118 118 _ _ _ q0.o underlying118 rfl zt;have hle:(loadVar 57 (zm (w.heap.size+1) 0)).run prog w''= .ok (BG a 7) w'':=by simp[go_sem,u0]
   exact⟨_,Zla rfl _ _ _ _ _ _ rfl rfl nO hle,q2.o,Or.inl ⟨7,Y1.o,zu,rfl⟩⟩
def rC {P:Program}{fn:Func}{p q:Tmp}{t1:TypeId}(h:fn.results=#[.cell p t1,.tmp q])(tmps:Ca)(w:Bb)(g1:Addr)(v1 v2:Value)(hp:tmps.getD p undef= .pointer (some g1))(hq:tmps.getD q undef=v2)(h1:(loadVar t1 g1).run P w= .ok v1 w):(results fn tmps).run P w= .ok (.tuple #[v1,v2]) w:=by
 have yo:tmps[p]?.getD undef= .pointer (some g1):=by simpa using hp
 have iq:tmps[q]?.getD undef=v2:=by simpa using hq
 simp[results,h,yo,iq,asAddr,h1]
def _root_.Go.RowKit.Below.Ar {B g:Nat}{w u:Bb}(h:Below B w u)(nv:Ca)(hB:B<=g):Below B w (u.setRow g nv):=⟨h.os,h.tape,h.output,by rw[Ef];exact h.size,fun j hj=>(Db _ _ j _ zx).trans (h.block j hj)⟩
variable {vs:Bu}{x:Ch}{F:Cg}{a:Nat->Addr}{l:By}
def Zf:(prog.info? 118).map (·.size)=some BH.size:=zt
def VZ.arr (h:VZ 4 w vs x F):vs.toArray.size=34/\vs.toArray.all (·.oneCell')=true/\(prog.info? 118).map (·.size)=some vs.toArray.size:=by
 obtain⟨v,rfl,ht,hr⟩:=h;obtain⟨p,c,rfl⟩:=AQ.form hr;have hl:(Lib.byteCells x.tag).length=32:=by rw[xl,ht]
 exact⟨Vi _ _ hl,gK _ _ _ _ _,Wv _ _ hl⟩
def VZ.sb {w':Bb}(h:VZ 4 w vs x F)(k: ∀ j,j∈F->w'.heap[j]?=w.heap[j]?):VZ 4 w' vs x F:=by
 obtain⟨v,hv,ht,hr⟩:=h;exact⟨v,hv,ht,AQ.sb (Iu.sb (ty:=AV) 4) _ _ _ _ _ hr k⟩
def j6 (V:D9)(CL:Gg)(Z:AZ a w)(hl:l.length<1000000000):
  Calls prog 90 #[.string<|ba l] w (vW a w<|GZ Hu l):=by
 have Ho:=MR;have B0:=fun o=>zv w o;have C:=AC fun o=>Zm9 V CL (Z.be<|B0 o) hl;have L0:=AO.new w BH 118;clear Z V CL;go_in
 go_wp2_with fail
 apply(C.o<|.cells BH 118).mono;rintro e w1 ⟨hb1,⟨n,hy,hn,rfl⟩ | ⟨x,vs,F,hy,rfl,hQ,hN⟩⟩
 .have L1:=L0.of<|hb1.block _ L0.lt;have BB:=AC<|(B0<|.cells BH 118).trans<|hb1.mono zw;have HY:=AC hy;rw[BU _ hn];clear hb1 hy C L0;go_wp2_with (refine Ij rfl 118 (.tmp 2) (.tmp 6) rfl w.heap.size BH rfl rfl 118 BH L1 Zf rfl zt ?_)
  refine Bg (rC rfl _ _ _ _ _ rfl rfl<|Vo _ w.heap.size 118 118 _ _ _ (GM _ _ _ _ _ _ L1) underlying118 rfl Zf) rfl ?_;exact⟨BB.o.Ar _ lr,Or.inl ⟨n,HY.o,hn,by rw[BU _ hn];rfl⟩⟩
 .obtain⟨ha1,ha2,VP⟩:=VZ.arr hQ;have L1:=L0.of<|hb1.block _ L0.lt;have BB:=AC<|(B0<|.cells BH 118).trans<|hb1.mono zw;have HY:=AC<|AJ hy<|AJ hQ hN;obtain⟨CV,Dt⟩:=cK (vs.toArray);rw[Dt.o]at ha1 ha2 VP⊢;clear hb1 hy C L0 hQ hN;go_wp2_with (refine Ij rfl 118 (.tmp 2) (.tmp 6) rfl w.heap.size CV rfl rfl 118 BH L1 VP (by rw[ha1];rfl) ha2 ?_)
  refine Bg (rC rfl _ _ _ _ _ rfl rfl<|Vo _ w.heap.size 118 118 _ _ _ (GM _ _ _ _ _ _ L1) underlying118 rfl VP) rfl ?_;have nw:=HY.o.2.2;exact⟨BB.o.Ar _ lr,Or.inr ⟨x,vs,F,HY.o.1,by rw[Dt.o];rfl,VZ.sb HY.o.2.1 fun j hj=>Db _ _ j _ (by have:=nw.ge j hj;simp at this;omega),nw.la zw (by rw[Ef];exact EO _)⟩⟩
def Z1q (V:D9)(CL:Gg)(Z:AZ a w)(hl:l.length<1000000000)(hx:GZ Hu l= .ok x)(hs:x.sealed=false):
  Calls prog 41 #[.string<|ba l] w (vW a w<|.ok x):=by
 have B0:=fun o=>zv w o;have C:=AC fun o=>j6 V CL (Z.be<|B0 o) hl;have L0:=AO.new w BH 118;have HX:=AC hx;clear Z V CL hx;go_in
 go_wp2_with fail
 apply(C.o<|.cells BH 118).mono;rintro e w1 ⟨hb1,⟨n,hy,hn,rfl⟩ | ⟨y,vs,F,hy,rfl,hQ,hN⟩⟩
 .rw[HX.o]at hy;cases hy
 obtain rfl:y=x:=by rw[HX.o]at hy;exact((Except.ok.inj hy)).symm
 obtain⟨ha1,ha2,VP⟩:=VZ.arr hQ;have L1:=L0.of<|hb1.block _ L0.lt;have BB:=AC<|(B0<|.cells BH 118).trans<|hb1.mono zw;have HY:=AC<|AJ hQ hN;obtain⟨CV,Dt⟩:=cK (vs.toArray);have c0:CV[0]?=some (.bool false):=by
  obtain⟨v,rfl,_⟩:=hQ;rw[<- Dt.o,hs];rfl
 rw[Dt.o]at ha1 ha2 VP⊢;have S1:=AO.new w1 BH 118;have S2:=GM _ _ _ CV _ _ S1;have x0: ∀ cs t,((w1.alloc<|.cells cs t).setRow w1.heap.size CV).cell? (zm w1.heap.size 0)=some (.bool false):=fun cs t=>(AO.cell (GM _ _ _ CV _ _<|AO.new w1 cs t) 0).trans c0;have L2:=(L1.alloc<|.cells BH 118).of<|Db (w1.alloc<|.cells BH 118) w1.heap.size w.heap.size CV (fw (L1.lt));have hlt:=AC L1.lt;clear hb1 hy C L0 hQ hN;go_wp2_with (first
  | (refine Ij rfl 118 (.tmp 4) (.tmp 9) rfl w1.heap.size CV rfl rfl 118 BH S1 VP (by rw[ha1];rfl) ha2 ?_)
  | (refine QN rfl 118 (.tmp 4) rfl w1.heap.size rfl 118 CV (0,0) _ S2 underlying118 rfl VP ?_)
  | (refine Ij rfl 118 (.tmp 2) (.tmp 19) rfl w.heap.size CV rfl rfl 118 BH L2 VP (by rw[ha1];rfl) ha2 ?_))
 refine Bg (rC rfl _ _ _ _ _ rfl rfl<|Vo _ w.heap.size 118 118 _ _ _ (GM _ _ _ _ _ _ L2) underlying118 rfl VP) rfl ?_;have nw:=HY.o.2;have GU:=hlt.o;exact⟨((BB.o.alloc BB.o.size _).Ar _ BB.o.size).Ar _ lr,Or.inr ⟨_,vs,F,rfl,by rw[Dt.o];rfl,VZ.sb HY.o.1 (fun j hj=>by
  have g1:=nw.ge j hj;have g2:=nw.lt j hj;simp at g1;rw[Db _ _ j _ zx,Db _ _ j _ zx];exact Ah _ _ _ g2),nw.la zw (by rw[Ef,Ef];simp)⟩⟩
variable {f n:Nat}
def Z28 (h:128<=n):Nh (f+1) n=b1 (n % 128+128)++Nh f (n / 128):=by rw[Nh,xj h]
def Z5z (h:n<128):Nh f n=b1 n:=by cases f with
 | zero=>rfl
 | succ f=>rw[Nh,xd zx]
def Lh (n:Nat):(b1 n).size=1:=rfl
def Jl (a b c:Ay):a++b++c=a++(b++c):=ByteArray.append_assoc
def BM (a b:Ay):(a++b).size=a.size+b.size:=ByteArray.size_append
variable {B:Nat}{s:Ay}
def Yiu: ∀ X:Fin 256,bits .or .u8 ((X.val:Nat):Int) 128=((X.val % 128+128:Nat):Int):=zu
def Yj3 (m:Nat):bits .or .u8 ((m:Int) % 256) 128=((m % 128+128:Nat):Int):=by
 have h:=Yiu ⟨m % 256,Nat.mod_lt _ zx⟩;have e:(m % 256) % 128=m % 128:=zx
 simp only[e]at h;rw[<- h];rfl
def LZ (T B b:Nat) (s:Ay) (w:Bb) (e:Ending) (w':Bb):Prop:=e=uY (.tuple #[])/\DV T B b s w'/\Fr B b w w'
def Yhv (T B b:Nat) (s:Ay) (w:Bb) (nv:Value) (wr:Bb):Prop:= ∃ (f n:Nat) (s':Ay),n<2 ^ (7*f+1)/\n<18446744073709551616/\f<=10/\nv= .int .u64 (n:Int)/\s'++Nh f n=s/\DV T B b s' wr/\Fr B b w wr
def bN (hT:fH 153)(h:DV 153 B b s w)(n:Nat)(hn:n<18446744073709551616)(hs:s.size+(Do n).size<1000000000)(hB:B<=w.heap.size):
  Calls prog 150 #[zq b 0,.int .u64 (n:Int)] w (LZ 153 B b (s++Do n) w):=by
 go_in
 go_wp2
 go_loopw [1] (fun nv wr=>Yhv 153 B b (s++Do n) w nv wr) (fun nv _=>(intOf nv).toNat)
 .exact⟨10,n,s,zx,hn,zx,rfl,rfl,h,Fr.refl _ _ _⟩
 .obtain⟨f,m,s1,hf,hm,hf10,rfl,hE,hb,hw⟩:=hrel;have hsz:s1.size+(Nh f m).size=s.size+(Do n).size:=by rw[<- BM,hE,BM]
  by_cases hlt:128<=m
  .obtain⟨f,rfl⟩: ∃ g,f=g+1:=⟨f-1,by
    rcases Nat.eq_zero_or_pos f with rfl | h
    .omega
    .omega⟩
   rw[Z28 hlt,BM,Lh]at hsz;rw[Z28 hlt]at hE;have C:=AC<|kI hT hb (m % 128+128) zx zx<|Ab hB hw.size;have h1:(128:Int)<=(m:Int):=zx
   go_wp2_with fail
   rw[Yj3];apply mq C.o;rintro w1 ⟨hb1,BI⟩;have R:=AC<|AJ hb1<|hw.trans BI;clear hb hw hb1 BI C;go_wp2_with fail
   refine⟨⟨f,m / 128,s1++b1 (m % 128+128),?_,zx,zx,zw,by rw[Jl,hE],R.o.1,R.o.2⟩,zd⟩;rw[show 7*(f+1)+1=7*f+1+7 by omega,Nat.pow_add]at hf;omega
  .rw[Z5z zx]at hsz hE;rw[Lh]at hsz;have C:=AC<|kI hT hb m zx zx<|Ab hB hw.size;have h1: ¬ (128:Int)<=(m:Int):=zx
   have h2:(m:Int) % 256=(m:Int):=zx
   go_wp2_with fail
   apply mq C.o;rintro w1 ⟨hb1,BI⟩;have R:=AC<|AJ hb1<|hw.trans BI;clear hb hw hb1 BI C;go_wp2
   go_end0
   exact⟨rfl,hE▸R.o.1,R.o.2⟩
def Zwf (hT:fH 153)(h:DV 153 B b s w)(t:Ay)(hs:s.size+(Em t).size<1000000000)(hB:B<=w.heap.size):
  Calls prog 118 #[zq b 0,um t] w (LZ 153 B b (s++Em t) w):=by
 have hs':s.size+(Do t.size).size+t.size<1000000000:=by rw[Em,BM]at hs;omega
 have E:AF (s++Do t.size++t=s++Em t):=⟨by rw[Em,Jl]⟩;have C:=AC<|bN hT h t.size zx zx hB;have C2:=AC fun u (hu:DV 153 B b (s++Do t.size) u) (hb:Fr B b w u)=>Zj1 hT hu t (by rw[BM];omega) (Ab hB hb.size);clear h hs;go_in
 go_wp2_with fail
 apply mq C.o;rintro w1 ⟨hb1,BI⟩;have CC:=AC<|C2.o _ hb1 BI;have W1:=AC BI;clear hb1 BI C C2;go_wp2_with fail
 apply mq CC.o;rintro w2 ⟨hb2,hw2⟩;go_wp2
 go_end0
 exact⟨rfl,E.o▸hb2,W1.o.trans hw2⟩
end Go.W
