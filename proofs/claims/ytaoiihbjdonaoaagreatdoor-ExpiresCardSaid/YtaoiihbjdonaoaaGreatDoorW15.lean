import Derived.Test.YtaoiihbjdonaoaaGreatDoorW05
import Derived.Test.YtaoiihbjdonaoaaGreatDoorW14
import Derived.Deep.RegionWith
set_option linter.defProp false
set_option maxRecDepth 100000
set_option maxHeartbeats 8000000
set_option linter.unusedSimpArgs false
open Go.Proofs Go.RowKit Go.W Tryz
namespace Go.W
def Zy1 {n:Nat}{l t r:By}(h:Jt n l= .ok (t,r)):t.length=n/\r.length<=l.length:=by
 unfold Jt at h;split at h
 ·cases h
 ·injection h with h;injection h with h1 h2;subst h1;subst h2;simp;omega
end Go.W
namespace Go.P
def Z8m (V:D9)(CL:Gg){a:Nat->Addr}{w:World}{b:Nat}{l:By}(Z:AZ a w)(h:Dc w b l):
  Calls prog 133 #[zq b 0] w (Iw a b (Ie (Iu AV 4) w.heap.size) w<|Sv l):=by
 have hb:=h.1.lt;have hgb:=h.2.2;have K0:=AC<|(Ad.refl b w).alloc<|.cells #[.string ⟨#[]⟩,zn,zn,zn] 110;have L0:=AC<|AO.new w #[.string ⟨#[]⟩,zn,zn,zn] 110;have C:=AC<|Ze (Z.keeps K0.out hgb)<|h.alloc<|.cells #[.string ⟨#[]⟩,zn,zn,zn] 110;have ZZ:=AC Z;have VC:=AC<|AJ V CL;clear Z h V CL;go_in
 go_wp2_with fail
 refine C.out.mono ?_;rintro e w1 ⟨AX,⟨i,hy,hi,rfl⟩ | ⟨n,r1,v,hy,rfl,⟨rfl,hn⟩,Bc⟩⟩
 ·exact⟨rfl,K0.out.trans AX,Or.inl ⟨i,De.Ae hy,hi,rfl⟩⟩
 have K1:=AC<|K0.out.trans AX;have Y:AF (Sv l=(if 4000<n then fun _=> .error 4 else(Jt n).then Xh) r1):=⟨De.then_ok hy⟩;have L1:=AC<|L0.out.of<|AX.block w.heap.size zw zx;have hs1:=L1.out.lt;have Z1:=AC<|ZZ.out.keeps K1.out hgb;have T9:=AC Bc;clear hy AX Bc C L0 K0;by_cases hlt:4000<n
 ·have Y4:AF (Sv l= .error 4):=⟨by rw[Y.out,if_pos hlt]⟩;have g:(4000:Int)<(n:Int):=zx
  have z4:=Z1.out.c4;have CR:=AC<|QL a b w1 (n:=4) zu;clear Y;go_wp2_with fail
  refine mq CR.out ?_;rintro w2 rfl;exact⟨rfl,K1.out,Or.inl ⟨4,Y4.out,zu,rfl⟩⟩
 have g: ¬ (4000:Int)<(n:Int):=zx
 have Y1:=AC<|Y.out;rw[if_neg hlt]at Y1;have C2:=AC<|qJ Z1.out T9.out n hn;clear Y;go_wp2_with fail
 refine C2.out.mono ?_;rintro e w2 ⟨hk2,⟨i,hy,hi,rfl⟩ | ⟨t,r2,v,hy,rfl,rfl,Cj⟩⟩
 ·exact⟨rfl,K1.out.trans hk2,Or.inl ⟨i,Y1.out.trans<|De.Ae hy,hi,rfl⟩⟩
 have K2:=AC<|K1.out.trans hk2;have Y2:=AC<|Y1.out.trans<|De.then_ok hy;have L2:=AC<|L1.out.of<|hk2.block w.heap.size hs1 zx;have hs2:=L2.out.lt;have JW:=(Zy1 hy).1;have Z2:=AC<|ZZ.out.keeps K2.out hgb;have iK:=AC Cj;have C3:=AC<|Z43 VC.out.1 VC.out.2 Z2.out Z2.out.size (l:=t) zx;clear hy hk2 Cj C2 Y1 L1 T9 Z1 K1;go_wp2_with fail
 refine C3.out.mono ?_;rintro e w3 ⟨hb3,⟨m,hy,hm,rfl⟩ | ⟨x,vs,F,hy,rfl,hQ,hN⟩⟩
 ·have Y3:AF (Sv l= .error m):=⟨Y2.out.trans<|Z0u hy _⟩;have CR:=AC fun u=>QL a b u hm;have K3:=AC<|K2.out.AU hb3;rw[BU _ hm]at CR⊢;clear Y2 hy hb3 C3;go_wp2_with fail
  refine(CR.out _).mono ?_;rintro e w4 ⟨rfl,rfl⟩;exact⟨rfl,K3.out.alloc _,Or.inl ⟨m,Y3.out,hm,rfl⟩⟩
 ·have Y3:AF (Sv l= .ok ((ba t,x),r2)):=⟨Y2.out.trans<|Z2y hy _⟩;have K3:=AC<|K2.out.AU hb3;have L3:=AC<|L2.out.of<|hb3.block _ hs2;have bW:=AC<|iK.out.of<|hb3.block _ iK.out.1.lt;have HQ:=AC<|AJ hQ hN;obtain⟨p1,c1,p2,c2,p3,c3,rfl⟩:=Dx.vals hQ;have z0:=fun o=>(L3.out.alloc o).four.1;have z1:=fun o=>(L3.out.alloc o).four.2.1;have z2:=fun o=>(L3.out.alloc o).four.2.2.1;have z3:=fun o=>(L3.out.alloc o).four.2.2.2.1;have z4:=fun o=>(L3.out.alloc o).four.2.2.2.2;have hs3:=AC L3.out.lt;have H7:AF ((ba t).size<1000000000):=⟨by rw[Uk];omega⟩;have hs23:=hb3.size;clear Y2 hy hb3 C3 hQ hN;go_wp2
  refine Bg (by simp[results,results133,go_sem,z0,z1,z2,z3];try rfl) rfl ?_;have n1:=HQ.out.2;have st: ∀ j,j≠w.heap.size->j<w3.heap.size-> ∀ o x0 x1 x2 x3,(((((w3.alloc o).setCell (zm w.heap.size 0) x0).setCell (zm w.heap.size 1) x1).setCell (zm w.heap.size 2) x2).setCell (zm w.heap.size 3) x3).heap[j]?=w3.heap[j]?:=fun j hj hl o x0 x1 x2 x3=>(KY hj).trans (Ah _ _ _ hl);have hs3:=hs3.out;exact⟨(K3.out.alloc _).r4 lr,Or.inr ⟨_,r2,_,Y3.out,rfl,⟨_,F,rfl,⟨_,rfl,H7.out,Dx.stable (ty:=AV) 4 _ _ _ _ _ HQ.out.1 fun j hj=>st j (by have:=n1.ge j hj;omega) (n1.lt j hj) _ _ _ _ _⟩,n1.later zx zw⟩,bW.out.of<|st b zx bW.out.1.lt _ _ _ _ _⟩⟩
end Go.P
namespace Go.P
variable {t:List Value}{b:Nat}{w:World}
def BH:Array Value:=#[.bool false,zn,.int .u8 0,.int .u8 0,.int .u8 0,.int .u8 0,.int .u8 0,.int .u8 0,.int .u8 0,.int .u8 0,.int .u8 0,.int .u8 0,.int .u8 0,.int .u8 0,.int .u8 0,.int .u8 0,.int .u8 0,.int .u8 0,.int .u8 0,.int .u8 0,.int .u8 0,.int .u8 0,.int .u8 0,.int .u8 0,.int .u8 0,.int .u8 0,.int .u8 0,.int .u8 0,.int .u8 0,.int .u8 0,.int .u8 0,.int .u8 0,.int .u8 0,.int .u8 0]
def VZ (d:Nat):Du Ch:=fun w vs x F=> ∃ v,vs= .bool x.sealed::v::Lib.byteCells x.tag/\x.tag.length=32/\AQ 110 4 (Iu AV d) w v x.links F
def DC (s:Bool) (v:Value) (t:List Value):Array Value:=(.bool s::v::t).toArray
def Vi (s:Bool)(v:Value)(h:t.length=32):(DC s v t).size=34:=by simp[DC,h]
def Wv (s:Bool)(v:Value)(h:t.length=32):(prog.info? 82).map (·.size)=some (DC s v t).size:=by rw[Vi s v h];kernel_rfl
def Z4t (S:Bool)(v:Value){z:List Value}(hz:z.length=32){t:By}(ht:t.length=32):((DC S v z).toList.take 2++Lib.byteCells ((ba t).data.toList.take 32)++(DC S v z).toList.drop (2+32)).toArray=DC S v (Lib.byteCells t):=by
 have e1:(ba t).data.toList.take 32=t:=by rw[<- ht];simp[ba]
 rw[e1];simp[DC,hz]
def gK (S:Bool)(p:Option Addr)(n c:Nat)(t:List UInt8):(DC S (.slice p n c)<|Lib.byteCells t).all (·.oneCell')=true:=by
 unfold DC;rw[List.all_toArray,SI];intro x hx;rcases Ak.1 hx with rfl | hx
 ·rfl
 rcases Ak.1 hx with rfl | hx
 ·rfl
 exact Lib.byteCells_one _ x hx
def Ad.NH {L:Nat}{w0:World}(h:Ad b w0 w)(nv:Array Value)(hL:w0.heap.size<=L):Ad b w0 (w.setRow L nv):=⟨h.os,h.tape,h.output,by rw[Ef];exact h.size,fun j hj hne=>(Db _ _ j nv zx).trans (h.block j hj hne)⟩
def Zxn:Da 133:=EH func133 zt rfl
def Z4y (V:D9)(CL:Gg){a:Nat->Addr}{l:By}(Z:AZ a w)(h:Dc w b l):
  Calls prog 85 #[zq b 0] w (Iw a b (Ie (VZ 4) w.heap.size) w<|Hu l):=by
 have hb:=h.1.lt;have hgb:=h.2.2;have K0:=AC<|(Ad.refl b w).alloc<|.cells BH 82;have L0:=AC<|AO.new w BH 82;have C:=AC<|qJ (Z.keeps K0.out hgb) (h.alloc<|.cells BH 82) 4 zu;have ZZ:=AC Z;have VC:=AC<|AJ V CL;clear Z h V CL;go_in
 go_wp2_with fail
 refine C.out.mono ?_;rintro e w1 ⟨AX,⟨i,hy,hi,rfl⟩ | ⟨m,r1,v,hy,rfl,rfl,Bc⟩⟩
 ·exact⟨rfl,K0.out.trans AX,Or.inl ⟨i,De.Ae hy,hi,rfl⟩⟩
 have K1:=AC<|K0.out.trans AX;have Y:AF (Hu l=(if m≠Nr then fun _=> .error 7 else LY.then fP) r1):=⟨De.then_ok hy⟩;have L1:=AC<|L0.out.of<|AX.block w.heap.size zw zx;have hs1:=AC L1.out.lt;have Z1:=AC<|ZZ.out.keeps K1.out hgb;have T9:=AC Bc;clear hy AX Bc C L0 K0;by_cases hm:m=Nr
 case neg=>
  have Y7:AF (Hu l= .error 7):=⟨by rw[Y.out,if_pos hm]⟩;have g:((ba m).toList==[119,114,116,49])=false:=by
   rw[Nw,BJ];exact fun h=>hm h
  have z7:=Z1.out.c7;have CR:=AC<|QL a b w1 (n:=7) zu;generalize ba m=M at*;clear Y hm;go_wp2_with fail
  refine mq CR.out ?_;rintro w2 rfl;exact⟨rfl,K1.out,Or.inl ⟨7,Y7.out,zu,rfl⟩⟩
 have Y1:AF (Hu l=LY.then fP r1):=⟨by rw[Y.out,if_neg fun h=>h hm]⟩;have g:ba m=⟨#[119,114,116,49]⟩:=by rw[hm];rfl
 have HM:=AC g;clear Y hm;rw[g];clear g;have C2:=AC<|qN (Z1.out.keeps ((Ad.refl b w1).alloc<|.cells BH 82) hgb)<|T9.out.alloc<|.cells BH 82;go_wp2_with fail
 refine C2.out.mono ?_;rintro e w2 ⟨hk2,⟨i,hy,hi,rfl⟩ | ⟨s,r2,v,hy,rfl,⟨rfl,hs⟩,Cj⟩⟩
 ·exact⟨rfl,(K1.out.alloc _).trans hk2,Or.inl ⟨i,Y1.out.trans<|De.Ae hy,hi,rfl⟩⟩
 have K2:=AC<|(K1.out.alloc _).trans hk2;have Y2:=AC<|Y1.out.trans<|De.then_ok hy;have L2:=AC<|(L1.out.alloc<|.cells BH 82).of<|hk2.block w.heap.size (by have:=hs1.out;simp;omega) zx;have M2:=AC<|(AO.new w1 BH 82).of<|hk2.block w1.heap.size zw (by have:=T9.out.1.lt;omega);have hs2:=AC M2.out.lt;have jF:AF (b<w1.heap.size):=⟨T9.out.1.lt⟩;have Z2:=AC<|ZZ.out.keeps K2.out hgb;have iK:=AC Cj;clear hy hk2 Cj C2 Y1 L1 T9 Z1 K1;have Ho:=MR;by_cases gs:1<s
 ·have Y7:AF (Hu l= .error 7):=⟨by rw[Y2.out,fP,if_pos gs]⟩;have g0:((s:Int)==0)=false:=by rw[BJ];omega
  have g1:((s:Int)==1)=false:=by rw[BJ];omega
  have z7:=Z2.out.c7;have CR:=AC<|QL a b w2 (n:=7) zu;clear Y2;go_wp2_with fail
  refine mq CR.out ?_;rintro w3 rfl;exact⟨rfl,K2.out,Or.inl ⟨7,Y7.out,zu,rfl⟩⟩
 have Y3:AF (Hu l=(DF 8 Sv).then (jU s) r2):=⟨by rw[Y2.out,fP,if_neg gs]⟩;have g2:s=0\/s=1:=zx
 clear Y2 gs;rcases g2 with g2 | g2
 case' inl=>
  obtain⟨S,hS⟩: ∃ S,AF ((s==1)=S/\S=false):=⟨_,⟨rfl,by rw[g2];rfl⟩⟩;have M3:AF (AO w2 w1.heap.size (DC S (zn)<|List.replicate 32<|.int .u8 0) 82):=⟨by rw[hS.out.2];exact M2.out⟩;have K3:=AC K2.out;have L3:=AC L2.out;have Z3:=AC Z2.out;have bW:=AC iK.out;have g0:((s:Int)==0)=true:=by rw[DR];omega
  clear g2 M2 K2 L2 Z2 iK;go_wp2_with fail
  obtain⟨W3,hW⟩: ∃ W,w2=W:=⟨_,rfl⟩;rw[hW]at M3 K3 L3 Z3 bW hs2⊢;clear hW
 case' inr=>
  obtain⟨S,hS⟩: ∃ S,AF ((s==1)=S/\S=true):=⟨_,⟨rfl,by rw[g2];rfl⟩⟩;have z0:w2.cell? (zm w1.heap.size 0)=some (.bool false):=M2.out.cell 0;have z1:=M2.out.soft;have g0:((s:Int)==0)=false:=by rw[BJ];omega
  have g1:((s:Int)==1)=true:=by rw[DR];omega
  have M3:AF (AO (w2.setCell (zm w1.heap.size 0)<|.bool true) w1.heap.size (DC S (zn)<|List.replicate 32<|.int .u8 0) 82):=⟨by rw[hS.out.2];exact M2.out.set 0<|.bool true⟩;have K3:=AC<|K2.out.Ai w1.heap.size 0 (.bool true) (by have:=hs1.out;omega);have L3:=AC<|L2.out.away w1.heap.size 0 (by have:=hs1.out;omega)<|.bool true;have Z3:=AC<|ZZ.out.keeps K3.out hgb;have bW:=AC<|iK.out.of<|Aw _ (zm w1.heap.size 0) (.bool true) b (by have:=jF.out;show b≠w1.heap.size;omega);clear g2 K2 L2 Z2 iK M2;go_wp2_with fail
  clear z0 z1;obtain⟨W3,hW⟩: ∃ W,w2.setCell (zm w1.heap.size 0) (.bool true)=W:=⟨_,rfl⟩;have nD:AF (w1.heap.size<W3.heap.size):=⟨by rw[<- hW];simpa using hs2.out⟩;rw[hW]at M3 K3 L3 Z3 bW⊢;clear hW hs2;have hs2:=AC nD.out;clear nD
 all_goals
  have C3:=AC (Zqe (d:=4) (f:=Sv) Zxn (first:=#[zq b 0]) (cap:=#[]) (m:=8) Z3.out bW.out zx fun u r hu=>Z8m VC.out.1 VC.out.2 hu.2.2 hu.1);refine C3.out.mono ?_;rintro e w4 ⟨hk4,⟨i,hy,hi,rfl⟩ | ⟨xs,r4,v,hy,rfl,⟨F,hR,hN⟩,RQ⟩⟩
  ·exact⟨rfl,K3.out.trans hk4,Or.inl ⟨i,Y3.out.trans<|De.Ae hy,hi,rfl⟩⟩
  obtain⟨p1,c1,rfl⟩:=AQ.form hR;have K4:=AC<|K3.out.trans hk4;have Y4:=AC<|Y3.out.trans<|De.then_ok hy;have M4:=AC<|M3.out.of<|hk4.block _ hs2.out (by have:=jF.out;omega);have L4:=AC<|L3.out.of<|hk4.block _ (by have:=hs1.out;have:=hs2.out;omega) zx;have HR:=AC<|AJ hR hN;have HD4:=AC RQ;have UL:AF (w1.heap.size<w4.heap.size):=⟨M4.out.lt⟩;have mr:=AC hk4.size;have z1:w4.cell? (zm w1.heap.size 1)=some (zn):=M4.out.cell 1;have zs:=M4.out.soft;clear hy hk4 hR hN RQ C3 Y3 M3 L3 Z3 bW K3;by_cases hx:xs.length=0
  ·have Y7:AF (Hu l= .error 7):=⟨by rw[Y4.out,jU,if_pos hx]⟩;have z7:=(ZZ.out.keeps (K4.out.Ai w1.heap.size 1 (.slice p1 xs.length c1) (by have:=hs1.out;omega)) hgb).c7;have CR:=AC fun u=>QL a b u (n:=7) zu;have gx:((xs.length:Int)==0)=true:=by rw[DR];omega
   generalize xs.length=N at*;clear Y4 hx;go_wp2_with fail
   refine(CR.out _).mono ?_;rintro e w5 ⟨rfl,rfl⟩;exact⟨rfl,K4.out.Ai _ _ _ (by have:=hs1.out;omega),Or.inl ⟨7,Y7.out,zu,rfl⟩⟩
  have gx:((xs.length:Int)==0)=false:=by rw[BJ];omega
  have Y5:AF (Hu l=(Jt 32).map (fun t=>(⟨s==1,xs,t⟩:Ch)) r4):=⟨by rw[Y4.out,jU,if_neg hx]⟩;go_wp2_with fail
  have K5:=AC<|K4.out.Ai w1.heap.size 1 (.slice p1 xs.length c1) (by have:=hs1.out;omega);have M5:AF (AO (w4.setCell (zm w1.heap.size 1)<|.slice p1 xs.length c1) w1.heap.size (DC S (.slice p1 xs.length c1)<|List.replicate 32<|.int .u8 0) 82):=⟨M4.out.set 1<|.slice p1 xs.length c1⟩;have L5:=AC<|L4.out.away w1.heap.size 1 (by have:=hs1.out;omega)<|.slice p1 xs.length c1;have D5:=AC<|HD4.out.of<|Aw w4 (zm w1.heap.size 1) (.slice p1 xs.length c1) b (by have:=jF.out;show b≠w1.heap.size;omega);have R5:AF (AQ 110 4 (Iu AV 4) (w4.setCell (zm w1.heap.size 1)<|.slice p1 xs.length c1) (.slice p1 xs.length c1) xs F):=⟨AQ.stable (Iu.stable (ty:=AV) 4) _ _ _ _ _ HR.out.1 fun j hj=>Aw _ _ _ _ (by have:=HR.out.2.ge j hj;have:=hs2.out;show j≠w1.heap.size;omega)⟩;have N5:AF (Ag W3.heap.size (w4.setCell (zm w1.heap.size 1)<|.slice p1 xs.length c1) F):=⟨HR.out.2.later lr zw⟩;have hs5:AF (w1.heap.size<(w4.setCell (zm w1.heap.size 1)<|.slice p1 xs.length c1).heap.size/\W3.heap.size<=(w4.setCell (zm w1.heap.size 1)<|.slice p1 xs.length c1).heap.size):=⟨by simpa using AJ UL.out mr.out⟩;clear K4 M4 L4 HD4 HR z1 zs UL mr Y4;generalize w4.setCell (zm w1.heap.size 1) (.slice p1 xs.length c1)=W5 at*;have CT:=AC<|qJ (ZZ.out.keeps K5.out.drew hgb) D5.out.drew 32 zu;go_region_with (first
   | (go_at_call 130
      refine CT.out.mono ?_;rintro e w6 ⟨RN,⟨i,hy,hi,rfl⟩ | ⟨t,r6,v,hy,rfl,rfl,hd6⟩⟩
      ·exact⟨rfl,K5.out.drew.trans RN,Or.inl ⟨i,Y5.out.trans<|De.Az hy,hi,rfl⟩⟩
      have JW:=(Zy1 hy).1;have Y6:=AC<|Y5.out.trans<|De.map_ok hy;have M6:=M5.out.of<|RN.block _ hs5.out.1 (by have:=jF.out;omega);have OU:=Z2h (P:=prog) w6 115 9 3 5 w1.heap.size 2 32 32 32 (ba t) _ 82 underlying115 zt M6 (by rw[Uk,JW];rfl) (by rw[Vi _ _ zw];decide);rw[Z4t _ _ zw JW]at OU))
  all_goals
   have hlen:(Lib.byteCells t).length=32:=by rw[Lib.byteCells_length,JW]
   have h1:=hs1.out;have h5:=hs5.out;have hbn':=jF.out;have yg:=RN.size;have C7:=GM _ _ _ (DC S (.slice p1 xs.length c1)<|Lib.byteCells t) _ _ M6;have L7:=AO.of (L5.out.of<|RN.block _ (show w.heap.size<W5.heap.size by omega) zx)<|Db w6 w1.heap.size w.heap.size (DC S (.slice p1 xs.length c1)<|Lib.byteCells t) zx;have K8:=AC<|(Ad.NH (L:=w1.heap.size) (K5.out.drew.trans RN) (DC S (.slice p1 xs.length c1)<|Lib.byteCells t) zx);have K9:=AC<|Ad.NH (L:=w.heap.size) K8.out (DC S (.slice p1 xs.length c1)<|Lib.byteCells t) lr;have HK6:=AC RN;have HD6:=AC hd6;have R8:=GM _ _ _ (DC S (.slice p1 xs.length c1)<|Lib.byteCells t) _ _ L7;clear RN hd6 hy OU;go_wp2_with (first
    | (refine QN rfl 82 (.tmp 3) rfl w1.heap.size rfl 82 (DC S (.slice p1 xs.length c1)<|Lib.byteCells t) (0,0) _ C7 underlying82 rfl (Wv _ _ hlen) ?_)
    | (refine Ij rfl 82 (.tmp 2) (.tmp 37) rfl w.heap.size (DC S (.slice p1 xs.length c1)<|Lib.byteCells t) rfl rfl 82 BH L7 (Wv _ _ hlen) (by rw[Vi _ _ hlen];rfl) (gK _ _ _ _ _) ?_))
   refine Bg (results_cell_row (p:=2) (ty:=82) rfl _ _ w.heap.size 82 (DC S (.slice p1 xs.length c1)<|Lib.byteCells t) (0,0) _ rfl R8 underlying82 rfl<|Wv _ _ hlen) rfl ?_;have st: ∀ j,j≠w.heap.size->j≠w1.heap.size->j≠b->j<W5.heap.size->((w6.setRow w1.heap.size<|DC S (.slice p1 xs.length c1)<|Lib.byteCells t).setRow w.heap.size<|DC S (.slice p1 xs.length c1)<|Lib.byteCells t).heap[j]?=W5.heap[j]?:=fun j j1 j2 j3 j4=>(Db _ _ j _ j1).trans ((Db _ _ j _ j2).trans<|HK6.out.block j j4 j3);exact⟨K9.out,Or.inr ⟨_,r6,_,Y6.out,rfl,⟨.bool S:: .slice p1 xs.length c1::Lib.byteCells t,F,rfl,⟨_,by rw[<- hS.out.1],JW,AQ.stable (Iu.stable (ty:=AV) 4) _ _ _ _ _ R5.out fun j hj=>st j (by have:=N5.out.ge j hj;have:=hs2.out;omega) (by have:=N5.out.ge j hj;have:=hs2.out;omega) (by have:=N5.out.ge j hj;have:=hs2.out;omega) (N5.out.lt j hj)⟩,N5.out.later (by have:=hs2.out;omega) (by rw[Ef,Ef];exact yg)⟩,HD6.out.of<|(Db _ _ b _ zx).trans<|Db _ _ b _ zx⟩⟩
end Go.P
namespace Go.W
def Zla {P:Program}{fn:Func}{p q:Tmp}{t1 t2:TypeId}(h:fn.results=#[.cell p t1,.cell q t2])(tmps:Array Value)(w:World)(g1 g2:Addr)(v1 v2:Value)(hp:tmps.getD p undef= .pointer (some g1))(hq:tmps.getD q undef= .pointer (some g2))(h1:(loadVar t1 g1).run P w= .ok v1 w)(h2:(loadVar t2 g2).run P w= .ok v2 w):(results fn tmps).run P w= .ok (.tuple #[v1,v2]) w:=by
 have yo:tmps[p]?.getD undef= .pointer (some g1):=by simpa using hp
 have iq:tmps[q]?.getD undef= .pointer (some g2):=by simpa using hq
 simp[results,h,yo,iq,asAddr,h1,h2]
end Go.W
namespace Go.P
def Zji (b:Nat)(x:Value)(a:Nat->Addr){n:Int}(hn:n≠0)(w:World)(hc:w.cell? (zm b 0)=some x)(hf:w.frozen? (zm b 0)=false):CallsD prog 128 #[zq b 0] (.panicking [{v:= .iface 236<|.agg #[BG a n],recovered:=false}]) w fun e u' w'=>
  e= .returned (.tuple #[])/\u'= .panicking [{v:= .iface 236<|.agg #[BG a n],recovered:=true}]/\w'=(w.alloc<|.cells #[BG a n] 236).setCell (zm b 0) (BG a n):=by
 rw[BU _ hn];have hbl:=Wx hc;refine callsD_of_wpS func128 rfl fun c₀ cs hu=>?_;apply wpS_seq
 apply wpS_region
 simp[wpOpsS,go_sem,recoverD,hu,ntmps128,Exit.thenS,Array.replicate,List.replicate];refine wpS_of_wp ?_;have ta:=Zkq;go_wp2_with fail
 simp[bodyPostS,results,results128]
def Zw7 (b:Nat)(w:World):CallsD prog 128 #[zq b 0] .returning w fun e u' w'=>e= .returned (.tuple #[])/\u'= .returning/\w'=w:=by
 refine callsD_of_wpS func128 rfl fun c₀ cs hu=>?_;apply wpS_seq
 apply wpS_region
 simp[wpOpsS,go_sem,recoverD,hu,ntmps128,Exit.thenS,Array.replicate,List.replicate];refine wpS_of_wp ?_;go_wp2_with fail
 cases c₀;simp_all [bodyPostS,results,results128]
def vW (a:Nat->Addr) (w:World) (Y:Except Int Ch) (e:Ending) (w':World):Prop:=
 Bl w w'/\((∃ n,Y= .error n/\n≠0/\e= .returned (.tuple #[.agg BH,BG a n]))\/ ∃ x vs F,Y= .ok x/\e= .returned (.tuple #[.agg vs.toArray,.nilIface])/\VZ 4 w' vs x F/\Ag w.heap.size w' F)
def Zu9:Da 85:=EH func85 zt rfl
def Zm9 (V:D9)(CL:Gg){a:Nat->Addr}{w:World}{l:By}(Z:AZ a w)(hl:l.length<1000000000):
  Calls prog 84 #[.string<|ba l,.func (.func 85) #[] #[]] w (vW a w<|GZ Hu l):=by
 have Ho:=MR;have hg:=Z.size;have Dz: ∀ args w,(callFunc 85 args).run prog w= .ok (.enter 85 args) w:=Zu9;have B0:=AC<|(((AR w.heap.size w).alloc lr<|.cells BH 82).alloc zw<|.cells #[.nilIface] 67).alloc (by simp;omega)<|.cells #[.string<|ba l] 238;have LR:=AC<|((AO.new w BH 82).alloc<|.cells #[.nilIface] 67).alloc<|.cells #[.string<|ba l] 238;have LE:=AC<|(AO.new (w.alloc<|.cells BH 82) #[.nilIface] 67).alloc<|.cells #[.string<|ba l] 238;have LD:=AC<|AO.new ((w.alloc<|.cells BH 82).alloc<|.cells #[.nilIface] 67) #[.string<|ba l] 238;simp only[EV]at LE LD;have C:=AC<|Z4y V CL (Z.below B0.out) (b:=w.heap.size+1+1) (l:=l) ⟨LD.out,hl,zx⟩;have ZZ:=AC Z;clear Z CL V LD;go_enter_defers func84,ntmps84
 go_wp2_with fail
 refine C.out.mono ?_;rintro e w1 ⟨AX,⟨n,hy,hn,rfl⟩ | ⟨x,r,v,hy,rfl,⟨vs,F,rfl,hQ,hN⟩,Bc⟩⟩
 ·have NF:=LR.out.of<|AX.block w.heap.size (by simp;omega) zx;have JD:=LE.out.of<|AX.block (w.heap.size+1) zw zx;have B1:=AC<|B0.out.trans<|AX.below (B:=w.heap.size) zx (by simp;omega);obtain⟨y0,sy⟩:=JD.one;have q0:=AC<|(NF.alloc<|.cells #[BG a n] 236).away (w.heap.size+1) 0 zx<|BG a n;have q1:=AC<|(JD.alloc<|.cells #[BG a n] 236).set 0<|BG a n;have q2:=AC<|(B1.out.alloc (by have:=NF.lt;omega)<|.cells #[BG a n] 236).setCell (p:=(zm (w.heap.size+1) 0)) (by show w.heap.size<=w.heap.size+1;omega)<|BG a n;refine Vn (f:=128) (args:=#[zq (w.heap.size+1) 0]) zw (by simp[go_sem]) ?_;refine(Zji _ _ a hn w1 y0<|sy 0).mono ?_;rintro e u' w'' ⟨rfl,rfl,hw⟩;rw[<- hw]at q0 q1 q2;obtain⟨x0,sx⟩:=AO.one (a:=BG a n) q1.out;clear hw;have nO:=Vo (P:=prog) w'' w.heap.size 82 82 _ _ _ q0.out underlying82 rfl zt;have hle:(loadVar 67 (zm (w.heap.size+1) 0)).run prog w''= .ok (BG a n) w'':=by simp[go_sem,x0]
  exact⟨_,Zla rfl _ _ _ _ _ _ rfl rfl nO hle,q2.out,Or.inl ⟨n,Zos hy,hn,rfl⟩⟩
 ·have HQ:=AC hQ;obtain⟨lv,rfl,JW,hrow⟩:=hQ;obtain⟨p1,c1,rfl⟩:=AQ.form hrow;have NF:=AC<|LR.out.of<|AX.block w.heap.size (by simp;omega) zx;have JD:=AC<|LE.out.of<|AX.block (w.heap.size+1) zw zx;have B1:=AC<|B0.out.trans<|AX.below (B:=w.heap.size) zx (by simp;omega);have Y:=AC<|Zy9 hy;have HD:=AC Bc;have HN:=AC hN;have Z1:=AC<|ZZ.out.below B1.out;have x0:=fun o=>(Bc.1.alloc o).one.1;have hr:(ba r).toList=[]↔r=[]:=by
   rw[Nw];simp[ba]
  have hlen:(Lib.byteCells x.tag).length=32:=by rw[Lib.byteCells_length,JW]
  have Ci:=Wv x.sealed (.slice p1 x.links.length c1) hlen;have hsz:=Vi x.sealed (.slice p1 x.links.length c1) hlen;have tL:=gK x.sealed p1 x.links.length c1 x.tag;clear hrow AX Bc hN hy C LR LE JW hlen;have HCV:AF (DC x.sealed (.slice p1 x.links.length c1) (Lib.byteCells x.tag)=(Value.bool x.sealed::Value.slice p1 x.links.length c1::Lib.byteCells x.tag).toArray):=⟨rfl⟩;rw[<- HCV.out];obtain⟨CV,Dt⟩: ∃ CV,AF (DC x.sealed (.slice p1 x.links.length c1) (Lib.byteCells x.tag)=CV):=⟨_,⟨rfl⟩⟩;rw[Dt.out]at Ci hsz tL HCV⊢;have S1:=AO.new w1 BH 82;have S2:=GM _ _ _ CV _ _ S1;have hs1:=AC B1.out.size;have hdl:=AC HD.out.1.lt;clear x0;have x0: ∀ o,((w1.alloc o).setRow w1.heap.size CV).cell? (zm (w.heap.size+1+1) 0)=some (.string<|ba r):=fun o=>((HD.out.1.alloc o).of<|Db _ _ _ _ (by have:=hdl.out;omega)).one.1;have hL:w.heap.size<w1.heap.size:=NF.out.lt;have hE:w.heap.size+1<w1.heap.size:=JD.out.lt;have RW:=AC fun o=>(NF.out.alloc o).of (Db (w1.alloc o) w1.heap.size _ CV zx);have EW:=AC fun o=>(JD.out.alloc o).of (Db (w1.alloc o) w1.heap.size _ CV zx);have BW:=AC fun o=>(⟨(B1.out.alloc hs1.out o).os,(B1.out.alloc hs1.out o).tape,(B1.out.alloc hs1.out o).output,by rw[Ef];exact(B1.out.alloc hs1.out o).size,fun j hj=>(Db _ _ j _ zx).trans ((B1.out.alloc hs1.out o).block j hj)⟩:Bl w ((w1.alloc o).setRow w1.heap.size CV));by_cases Jo:r=[]
  ·have Y1:AF (GZ Hu l= .ok x):=⟨by rw[Y.out,if_pos Jo]⟩;have g:=hr.2 Jo;have L2:=RW.out<|.cells BH 82;have R3:=AC fun o=>GM _ _ _ CV _ _ (RW.out o);have E3:=AC fun o=>(EW.out o).of (Db ((w1.alloc o).setRow w1.heap.size CV) w.heap.size _ CV zx);have e0:=fun o=>(E3.out o).one.1;have e1:=fun o=>(E3.out o).one.2;have q0:=AC fun o=>AO.away (R3.out o) (w.heap.size+1) 0 zx .nilIface;have q1:=AC fun o=>(E3.out o).set 0 .nilIface;have q2:=AC fun o=>Below.setCell (⟨(BW.out o).os,(BW.out o).tape,(BW.out o).output,by rw[Ef];exact(BW.out o).size,fun j hj=>(Db _ _ j _ zx).trans ((BW.out o).block j hj)⟩:Bl w (((w1.alloc o).setRow w1.heap.size CV).setRow w.heap.size CV)) (p:=(zm (w.heap.size+1) 0)) (by show w.heap.size<=w.heap.size+1;omega) .nilIface;have q3:AF (∀ o j,j∈F->((((w1.alloc o).setRow w1.heap.size CV).setRow w.heap.size CV).setCell (zm (w.heap.size+1) 0) .nilIface).heap[j]?=w1.heap[j]?):=⟨fun o j hj=>by
    have g1:=HN.out.ge j hj;have g2:=HN.out.lt j hj;simp at g1;rw[Aw _ _ _ _ (by show j≠w.heap.size+1;omega),Db _ _ j _ zx,Db _ _ j _ zx];exact Ah _ _ _ g2⟩
   have q4:AF (∀ o,Ag w.heap.size ((((w1.alloc o).setRow w1.heap.size CV).setRow w.heap.size CV).setCell (zm (w.heap.size+1) 0) .nilIface) F):=⟨fun o=>HN.out.later (by simp;omega) (by simp[Ef])⟩;clear hr Jo Y;generalize ba r=s at*;go_wp2_with (first
    | (refine Ij rfl 82 (.tmp 7) (.tmp 14) rfl w1.heap.size CV rfl rfl 82 BH S1 Ci (by rw[hsz];rfl) tL ?_)
    | (refine QN rfl 82 (.tmp 7) rfl w1.heap.size rfl 82 CV (0,0) _ S2 underlying82 rfl Ci ?_)
    | (refine Ij rfl 82 (.tmp 4) (.tmp 23) rfl w.heap.size CV rfl rfl 82 BH L2 Ci (by rw[hsz];rfl) tL ?_))
   clear e0 e1 x0;refine Vn (f:=128) (args:=#[zq (w.heap.size+1) 0]) zw (by simp[go_sem]) ?_;refine(Zw7 _ _).mono ?_;rintro e u' w'' ⟨rfl,rfl,hw⟩;have p0:AO w'' w.heap.size CV 82:=by rw[hw];exact q0.out _
   have yC:AO w'' (w.heap.size+1) #[.nilIface] 67:=by rw[hw];exact q1.out _
   have p2:Bl w w'':=by rw[hw];exact q2.out _
   have p3: ∀ j,j∈F->w''.heap[j]?=w1.heap[j]?:=by rw[hw];exact q3.out _
   have p4:Ag w.heap.size w'' F:=by rw[hw];exact q4.out _
   clear hw;obtain⟨y0,sy⟩:=yC.one;have nO:=Vo (P:=prog) w'' w.heap.size 82 82 _ _ _ p0 underlying82 rfl Ci;have hle:(loadVar 67 (zm (w.heap.size+1) 0)).run prog w''= .ok .nilIface w'':=by simp[go_sem,y0]
   refine⟨_,Zla rfl _ _ _ _ _ _ rfl rfl nO hle,p2,Or.inr ⟨x,_,F,Y1.out,by rw[HCV.out],?_,p4⟩⟩;obtain⟨v,hv,ht,hrow⟩:=HQ.out;exact⟨v,hv,ht,AQ.stable (Iu.stable (ty:=AV) 4) _ _ _ _ _ hrow p3⟩
  ·have Y1:AF (GZ Hu l= .error 7):=⟨by rw[Y.out,if_neg Jo]⟩;have g:(ba r).toList.isEmpty=false:=by rw[List.isEmpty_eq_false_iff];exact fun q=>Jo (hr.1 q)
   have z7:=fun o=>(ZZ.out.below<|BW.out o).c7;have CR:=AC fun u=>QL a (w.heap.size+1+1) u (n:=7) zu;clear hr Jo Y;generalize ba r=s at*;go_wp2_with (first
    | (refine Ij rfl 82 (.tmp 7) (.tmp 14) rfl w1.heap.size CV rfl rfl 82 BH S1 Ci (by rw[hsz];rfl) tL ?_))
   refine(CR.out _).mono ?_;rintro e w2 ⟨rfl,hw2⟩;have l0:AO w2 w.heap.size BH 82:=by rw[hw2];exact RW.out _
   have l1:AO w2 (w.heap.size+1) #[.nilIface] 67:=by rw[hw2];exact EW.out _
   have l2:Bl w w2:=by rw[hw2];exact BW.out _
   clear hw2;obtain⟨y0,sy⟩:=l1.one;have q0:=AC<|(l0.alloc<|.cells #[BG a 7] 236).away (w.heap.size+1) 0 zx<|BG a 7;have q1:=AC<|(l1.alloc<|.cells #[BG a 7] 236).set 0<|BG a 7;have q2:=AC<|(l2.alloc l2.size<|.cells #[BG a 7] 236).setCell (p:=(zm (w.heap.size+1) 0)) (by show w.heap.size<=w.heap.size+1;omega)<|BG a 7;refine Vn (f:=128) (args:=#[zq (w.heap.size+1) 0]) zw (by simp[go_sem]) ?_;refine(Zji _ _ a (n:=7) zu _ y0<|sy 0).mono ?_;rintro e u' w'' ⟨rfl,rfl,hw⟩;rw[<- hw]at q0 q1 q2;obtain⟨u0,sx⟩:=AO.one (a:=BG a 7) q1.out;clear hw;have nO:=Vo (P:=prog) w'' w.heap.size 82 82 _ _ _ q0.out underlying82 rfl zt;have hle:(loadVar 67 (zm (w.heap.size+1) 0)).run prog w''= .ok (BG a 7) w'':=by simp[go_sem,u0]
   exact⟨_,Zla rfl _ _ _ _ _ _ rfl rfl nO hle,q2.out,Or.inl ⟨7,Y1.out,zu,rfl⟩⟩
end Go.P
namespace Go.W
def rC {P:Program}{fn:Func}{p q:Tmp}{t1:TypeId}(h:fn.results=#[.cell p t1,.tmp q])(tmps:Array Value)(w:World)(g1:Addr)(v1 v2:Value)(hp:tmps.getD p undef= .pointer (some g1))(hq:tmps.getD q undef=v2)(h1:(loadVar t1 g1).run P w= .ok v1 w):(results fn tmps).run P w= .ok (.tuple #[v1,v2]) w:=by
 have yo:tmps[p]?.getD undef= .pointer (some g1):=by simpa using hp
 have iq:tmps[q]?.getD undef=v2:=by simpa using hq
 simp[results,h,yo,iq,asAddr,h1]
def _root_.Go.RowKit.Below.Ar {B g:Nat}{w u:World}(h:Below B w u)(nv:Array Value)(hB:B<=g):Below B w (u.setRow g nv):=⟨h.os,h.tape,h.output,by rw[Ef];exact h.size,fun j hj=>(Db _ _ j _ zx).trans (h.block j hj)⟩
end Go.W
namespace Go.P
variable {w:World}{vs:List Value}{x:Ch}{F:List Nat}{a:Nat->Addr}{l:By}
def Zf:(prog.info? 82).map (·.size)=some BH.size:=zt
def VZ.arr (h:VZ 4 w vs x F):vs.toArray.size=34/\vs.toArray.all (·.oneCell')=true/\(prog.info? 82).map (·.size)=some vs.toArray.size:=by
 obtain⟨v,rfl,ht,hr⟩:=h;obtain⟨p,c,rfl⟩:=AQ.form hr;have hl:(Lib.byteCells x.tag).length=32:=by rw[Lib.byteCells_length,ht]
 exact⟨Vi _ _ hl,gK _ _ _ _ _,Wv _ _ hl⟩
def VZ.stable {w':World}(h:VZ 4 w vs x F)(k: ∀ j,j∈F->w'.heap[j]?=w.heap[j]?):VZ 4 w' vs x F:=by
 obtain⟨v,hv,ht,hr⟩:=h;exact⟨v,hv,ht,AQ.stable (Iu.stable (ty:=AV) 4) _ _ _ _ _ hr k⟩
def j6 (V:D9)(CL:Gg)(Z:AZ a w)(hl:l.length<1000000000):
  Calls prog 37 #[.string<|ba l] w (vW a w<|GZ Hu l):=by
 have Ho:=MR;have B0:=fun o=>(AR w.heap.size w).alloc lr o;have C:=AC fun o=>Zm9 V CL (Z.below<|B0 o) hl;have L0:=AO.new w BH 82;clear Z V CL;go_in
 go_wp2_with fail
 refine(C.out<|.cells BH 82).mono ?_;rintro e w1 ⟨hb1,⟨n,hy,hn,rfl⟩ | ⟨x,vs,F,hy,rfl,hQ,hN⟩⟩
 ·have L1:=L0.of<|hb1.block _ L0.lt;have BB:=AC<|(B0<|.cells BH 82).trans<|hb1.mono zw;have HY:=AC hy;rw[BU _ hn];clear hb1 hy C L0;go_wp2_with (refine Ij rfl 82 (.tmp 2) (.tmp 6) rfl w.heap.size BH rfl rfl 82 BH L1 Zf rfl zt ?_)
  refine Bg (rC rfl _ _ _ _ _ rfl rfl<|Vo _ w.heap.size 82 82 _ _ _ (GM _ _ _ _ _ _ L1) underlying82 rfl Zf) rfl ?_;exact⟨BB.out.Ar _ lr,Or.inl ⟨n,HY.out,hn,by rw[BU _ hn];rfl⟩⟩
 ·obtain⟨ha1,ha2,VP⟩:=VZ.arr hQ;have L1:=L0.of<|hb1.block _ L0.lt;have BB:=AC<|(B0<|.cells BH 82).trans<|hb1.mono zw;have HY:=AC<|AJ hy<|AJ hQ hN;obtain⟨CV,Dt⟩: ∃ CV,AF (vs.toArray=CV):=⟨_,⟨rfl⟩⟩;rw[Dt.out]at ha1 ha2 VP⊢;clear hb1 hy C L0 hQ hN;go_wp2_with (refine Ij rfl 82 (.tmp 2) (.tmp 6) rfl w.heap.size CV rfl rfl 82 BH L1 VP (by rw[ha1];rfl) ha2 ?_)
  refine Bg (rC rfl _ _ _ _ _ rfl rfl<|Vo _ w.heap.size 82 82 _ _ _ (GM _ _ _ _ _ _ L1) underlying82 rfl VP) rfl ?_;have nw:=HY.out.2.2;exact⟨BB.out.Ar _ lr,Or.inr ⟨x,vs,F,HY.out.1,by rw[Dt.out];rfl,VZ.stable HY.out.2.1 fun j hj=>Db _ _ j _ (by have:=nw.ge j hj;simp at this;omega),nw.later zw (by rw[Ef];exact EO _)⟩⟩
def Z1q (V:D9)(CL:Gg)(Z:AZ a w)(hl:l.length<1000000000)(hx:GZ Hu l= .ok x)(hs:x.sealed=false):
  Calls prog 20 #[.string<|ba l] w (vW a w<|.ok x):=by
 have B0:=fun o=>(AR w.heap.size w).alloc lr o;have C:=AC fun o=>j6 V CL (Z.below<|B0 o) hl;have L0:=AO.new w BH 82;have HX:=AC hx;clear Z V CL hx;go_in
 go_wp2_with fail
 refine(C.out<|.cells BH 82).mono ?_;rintro e w1 ⟨hb1,⟨n,hy,hn,rfl⟩ | ⟨y,vs,F,hy,rfl,hQ,hN⟩⟩
 ·rw[HX.out]at hy;cases hy
 obtain rfl:y=x:=by rw[HX.out]at hy;exact((Except.ok.inj hy)).symm
 obtain⟨ha1,ha2,VP⟩:=VZ.arr hQ;have L1:=L0.of<|hb1.block _ L0.lt;have BB:=AC<|(B0<|.cells BH 82).trans<|hb1.mono zw;have HY:=AC<|AJ hQ hN;obtain⟨CV,Dt⟩: ∃ CV,AF (vs.toArray=CV):=⟨_,⟨rfl⟩⟩;have c0:CV[0]?=some (.bool false):=by
  obtain⟨v,rfl,_⟩:=hQ;rw[<- Dt.out,hs];rfl
 rw[Dt.out]at ha1 ha2 VP⊢;have S1:=AO.new w1 BH 82;have S2:=GM _ _ _ CV _ _ S1;have x0: ∀ cs t,((w1.alloc<|.cells cs t).setRow w1.heap.size CV).cell? (zm w1.heap.size 0)=some (.bool false):=fun cs t=>(AO.cell (GM _ _ _ CV _ _<|AO.new w1 cs t) 0).trans c0;have L2:=(L1.alloc<|.cells BH 82).of<|Db (w1.alloc<|.cells BH 82) w1.heap.size w.heap.size CV (by have:=L1.lt;omega);have hlt:=AC L1.lt;clear hb1 hy C L0 hQ hN;go_wp2_with (first
  | (refine Ij rfl 82 (.tmp 4) (.tmp 9) rfl w1.heap.size CV rfl rfl 82 BH S1 VP (by rw[ha1];rfl) ha2 ?_)
  | (refine QN rfl 82 (.tmp 4) rfl w1.heap.size rfl 82 CV (0,0) _ S2 underlying82 rfl VP ?_)
  | (refine Ij rfl 82 (.tmp 2) (.tmp 19) rfl w.heap.size CV rfl rfl 82 BH L2 VP (by rw[ha1];rfl) ha2 ?_))
 refine Bg (rC rfl _ _ _ _ _ rfl rfl<|Vo _ w.heap.size 82 82 _ _ _ (GM _ _ _ _ _ _ L2) underlying82 rfl VP) rfl ?_;have nw:=HY.out.2;have GU:=hlt.out;exact⟨((BB.out.alloc BB.out.size _).Ar _ BB.out.size).Ar _ lr,Or.inr ⟨_,vs,F,rfl,by rw[Dt.out];rfl,VZ.stable HY.out.1 (fun j hj=>by
  have g1:=nw.ge j hj;have g2:=nw.lt j hj;simp at g1;rw[Db _ _ j _ zx,Db _ _ j _ zx];exact Ah _ _ _ g2),nw.later zw (by rw[Ef,Ef];simp)⟩⟩
end Go.P
namespace Go.W
variable {f n:Nat}
def Z28 (h:128<=n):Nh (f+1) n=b1 (n % 128+128)++Nh f (n / 128):=by rw[Nh,if_pos h]
def Z5z (h:n<128):Nh f n=b1 n:=by cases f with
 | zero=>rfl
 | succ f=>rw[Nh,if_neg zx]
def Lh (n:Nat):(b1 n).size=1:=rfl
def Jl (a b c:ByteArray):a++b++c=a++(b++c):=ByteArray.append_assoc
def BM (a b:ByteArray):(a++b).size=a.size+b.size:=ByteArray.size_append
end Go.W
namespace Go.P
variable {B b:Nat}{s:ByteArray}{w:World}
def Yiu: ∀ X:Fin 256,bits .or .u8 ((X.val:Nat):Int) 128=((X.val % 128+128:Nat):Int):=zu
def Yj3 (m:Nat):bits .or .u8 ((m:Int) % 256) 128=((m % 128+128:Nat):Int):=by
 have h:=Yiu ⟨m % 256,Nat.mod_lt _ zx⟩;have e:(m % 256) % 128=m % 128:=zx
 simp only[e]at h;rw[<- h];rfl
def LZ (T B b:Nat) (s:ByteArray) (w:World) (e:Ending) (w':World):Prop:=e= .returned (.tuple #[])/\DV T B b s w'/\Fr B b w w'
def Yhv (T B b:Nat) (s:ByteArray) (w:World) (nv:Value) (wr:World):Prop:= ∃ (f n:Nat) (s':ByteArray),n<2 ^ (7*f+1)/\n<18446744073709551616/\f<=10/\nv= .int .u64 (n:Int)/\s'++Nh f n=s/\DV T B b s' wr/\Fr B b w wr
def bN (hT:fH 119)(h:DV 119 B b s w)(n:Nat)(hn:n<18446744073709551616)(hs:s.size+(Do n).size<1000000000)(hB:B<=w.heap.size):
  Calls prog 87 #[zq b 0,.int .u64 (n:Int)] w (LZ 119 B b (s++Do n) w):=by
 go_in
 go_wp2
 go_loopw [1] (fun nv wr=>Yhv 119 B b (s++Do n) w nv wr) (fun nv _=>(intOf nv).toNat)
 case atStart=>exact⟨10,n,s,zx,hn,zx,rfl,rfl,h,Fr.refl _ _ _⟩
 case round=>
  obtain⟨f,m,s1,hf,hm,hf10,rfl,hE,hb,hw⟩:=hrel;have hsz:s1.size+(Nh f m).size=s.size+(Do n).size:=by rw[<- BM,hE,BM]
  by_cases hlt:128<=m
  ·obtain⟨f,rfl⟩: ∃ g,f=g+1:=⟨f-1,by
    rcases Nat.eq_zero_or_pos f with rfl | h
    ·omega
    ·omega⟩
   rw[Z28 hlt,BM,Lh]at hsz;rw[Z28 hlt]at hE;have C:=AC<|kI hT hb (m % 128+128) zx zx<|Ab hB hw.size;have h1:(128:Int)<=(m:Int):=zx
   go_wp2_with fail
   rw[Yj3];refine C.out.mono ?_;rintro e w1 ⟨rfl,hb1,BI⟩;have R:=AC<|AJ hb1<|hw.trans BI;clear hb hw hb1 BI C;go_wp2_with fail
   refine⟨⟨f,m / 128,s1++b1 (m % 128+128),?_,zx,zx,zw,by rw[Jl,hE],R.out.1,R.out.2⟩,by simp[intOf];omega⟩;rw[show 7*(f+1)+1=7*f+1+7 by omega,Nat.pow_add]at hf;omega
  ·rw[Z5z zx]at hsz hE;rw[Lh]at hsz;have C:=AC<|kI hT hb m zx zx<|Ab hB hw.size;have h1: ¬ (128:Int)<=(m:Int):=zx
   have h2:(m:Int) % 256=(m:Int):=zx
   go_wp2_with fail
   refine C.out.mono ?_;rintro e w1 ⟨rfl,hb1,BI⟩;have R:=AC<|AJ hb1<|hw.trans BI;clear hb hw hb1 BI C;go_wp2
   go_end0
   exact⟨rfl,hE▸R.out.1,R.out.2⟩
def Zwf (hT:fH 119)(h:DV 119 B b s w)(t:ByteArray)(hs:s.size+(Em t).size<1000000000)(hB:B<=w.heap.size):
  Calls prog 88 #[zq b 0,.string t] w (LZ 119 B b (s++Em t) w):=by
 have hs':s.size+(Do t.size).size+t.size<1000000000:=by rw[Em,BM]at hs;omega
 have E:AF (s++Do t.size++t=s++Em t):=⟨by rw[Em,Jl]⟩;have C:=AC<|bN hT h t.size zx zx hB;have C2:=AC fun u (hu:DV 119 B b (s++Do t.size) u) (hb:Fr B b w u)=>Zj1 hT hu t (by rw[BM];omega) (Ab hB hb.size);clear h hs;go_in
 go_wp2_with fail
 refine C.out.mono ?_;rintro e w1 ⟨rfl,hb1,BI⟩;have CC:=AC<|C2.out _ hb1 BI;have W1:=AC BI;clear hb1 BI C C2;go_wp2_with fail
 refine CC.out.mono ?_;rintro e w2 ⟨rfl,hb2,hw2⟩;go_wp2
 go_end0
 exact⟨rfl,E.out▸hb2,W1.out.trans hw2⟩
end Go.P
