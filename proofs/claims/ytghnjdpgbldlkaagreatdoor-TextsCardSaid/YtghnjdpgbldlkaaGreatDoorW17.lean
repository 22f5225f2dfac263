import Derived.Test.YtghnjdpgbldlkaaGreatDoorW16
set_option linter.defProp false
set_option maxRecDepth 100000
set_option maxHeartbeats 8000000
set_option linter.unusedSimpArgs false
open Go.Proofs Go.RowKit Go.W Tryz
namespace Go.P
variable {t:List Value}{b:Nat}{w:World}
def DR:Array Value:=#[.bool false,.slice none 0 0,.int .u8 0,.int .u8 0,.int .u8 0,.int .u8 0,.int .u8 0,.int .u8 0,.int .u8 0,.int .u8 0,.int .u8 0,.int .u8 0,.int .u8 0,.int .u8 0,.int .u8 0,.int .u8 0,.int .u8 0,.int .u8 0,.int .u8 0,.int .u8 0,.int .u8 0,.int .u8 0,.int .u8 0,.int .u8 0,.int .u8 0,.int .u8 0,.int .u8 0,.int .u8 0,.int .u8 0,.int .u8 0,.int .u8 0,.int .u8 0,.int .u8 0,.int .u8 0]
def Tc (d:Nat):D9 Ch:=fun w vs x F=> ∃ v,vs= .bool x.sealed::v::Lib.byteCells x.tag/\x.tag.length=32/\AO 108 4 (Hf AY d) w v x.links F
def C8 (s:Bool) (v:Value) (t:List Value):Array Value:=(.bool s::v::t).toArray
def Uz (s:Bool)(v:Value)(h:t.length=32):(C8 s v t).size=34:=by simp[C8,h]
def U0 (s:Bool)(v:Value)(h:t.length=32):(prog.info? 114).map (·.size)=some (C8 s v t).size:=by rw[Uz s v h];kernel_rfl
def Z1v (S:Bool)(v:Value){z:List Value}(hz:z.length=32){t:By}(ht:t.length=32):((C8 S v z).toList.take 2++Lib.byteCells ((ba t).data.toList.take 32)++(C8 S v z).toList.drop (2+32)).toArray=C8 S v (Lib.byteCells t):=by
 have e1:(ba t).data.toList.take 32=t:=by rw[<- ht];simp[ba]
 rw[e1];simp[C8,hz]
def bY (S:Bool)(p:Option Addr)(n c:Nat)(t:List UInt8):(C8 S (.slice p n c)<|Lib.byteCells t).all (·.oneCell')=true:=by
 unfold C8;rw[List.all_toArray,UI];intro x hx;rcases Be.1 hx with rfl | hx
 ·rfl
 rcases Be.1 hx with rfl | hx
 ·rfl
 exact Lib.byteCells_one _ x hx
def Ac.Jz {L:Nat}{w0:World}(h:Ac b w0 w)(nv:Array Value)(hL:w0.heap.size<=L):Ac b w0 (w.setRow L nv):=⟨h.os,h.tape,h.output,by rw[ET];exact h.size,fun j hj hne=>(Db _ _ j nv zx).trans (h.block j hj hne)⟩
def Zvu:Bj 188:=DL func188 zt rfl
def Z12 (V:E8)(CL:Ig){a:Nat->Addr}{l:By}(Z:Aa a w)(h:Dc w b l):
  Calls prog 137 #[.pointer<|Qb b 0] w (Hg a b (G5 (Tc 4) w.heap.size) w<|KO l):=by
 have hb:=h.1.lt;have hgb:=h.2.2;have K0:=AA<|(Ac.refl b w).alloc<|.cells DR 114;have L0:=AA<|AJ.new w DR 114;have C:=AA<|jA (Z.keeps K0.out hgb) (h.alloc<|.cells DR 114) 4 zu;have ZZ:=AA Z;have VC:=AA<|AF V CL;clear Z h V CL;go_in
 go_wp2_with fail
 refine C.out.mono ?_;rintro e w1 ⟨AZ,⟨i,hy,hi,rfl⟩ | ⟨m,r1,v,hy,rfl,rfl,Bg⟩⟩
 ·exact⟨rfl,K0.out.trans AZ,Or.inl ⟨i,De.Ad hy,hi,rfl⟩⟩
 have K1:=AA<|K0.out.trans AZ;have Y:AC (KO l=(if m≠Np then fun _=> .error 7 else KM.then ay) r1):=⟨De.then_ok hy⟩;have L1:=AA<|L0.out.of<|AZ.block w.heap.size zw zx;have hs1:=AA L1.out.lt;have Z1:=AA<|ZZ.out.keeps K1.out hgb;have QS:=AA Bg;clear hy AZ Bg C L0 K0;by_cases hm:m=Np
 case neg=>
  have Y7:AC (KO l= .error 7):=⟨by rw[Y.out,if_pos hm]⟩;have g:((ba m).toList==[119,114,116,49])=false:=by
   rw[Lr,BK];exact fun h=>hm h
  have z7:=Z1.out.c7;have CR:=AA<|Nu a b w1 (n:=7) zu;generalize ba m=M at*;clear Y hm;go_wp2_with fail
  refine mq CR.out ?_;rintro w2 rfl;exact⟨rfl,K1.out,Or.inl ⟨7,Y7.out,zu,rfl⟩⟩
 have Y1:AC (KO l=KM.then ay r1):=⟨by rw[Y.out,if_neg fun h=>h hm]⟩;have g:ba m=⟨#[119,114,116,49]⟩:=by rw[hm];rfl
 have HM:=AA g;clear Y hm;rw[g];clear g;have C2:=AA<|ic (Z1.out.keeps ((Ac.refl b w1).alloc<|.cells DR 114) hgb)<|QS.out.alloc<|.cells DR 114;go_wp2_with fail
 refine C2.out.mono ?_;rintro e w2 ⟨hk2,⟨i,hy,hi,rfl⟩ | ⟨s,r2,v,hy,rfl,⟨rfl,hs⟩,Cf⟩⟩
 ·exact⟨rfl,(K1.out.alloc _).trans hk2,Or.inl ⟨i,Y1.out.trans<|De.Ad hy,hi,rfl⟩⟩
 have K2:=AA<|(K1.out.alloc _).trans hk2;have Y2:=AA<|Y1.out.trans<|De.then_ok hy;have L2:=AA<|(L1.out.alloc<|.cells DR 114).of<|hk2.block w.heap.size (by have:=hs1.out;simp;omega) zx;have M2:=AA<|(AJ.new w1 DR 114).of<|hk2.block w1.heap.size zw (by have:=QS.out.1.lt;omega);have hs2:=AA M2.out.lt;have Va:AC (b<w1.heap.size):=⟨QS.out.1.lt⟩;have Z2:=AA<|ZZ.out.keeps K2.out hgb;have Z7:=AA Cf;clear hy hk2 Cf C2 Y1 L1 QS Z1 K1;have Dw:=G6;by_cases gs:1<s
 ·have Y7:AC (KO l= .error 7):=⟨by rw[Y2.out,ay,if_pos gs]⟩;have g0:((s:Int)==0)=false:=by rw[BK];omega
  have g1:((s:Int)==1)=false:=by rw[BK];omega
  have z7:=Z2.out.c7;have CR:=AA<|Nu a b w2 (n:=7) zu;clear Y2;go_wp2_with fail
  refine mq CR.out ?_;rintro w3 rfl;exact⟨rfl,K2.out,Or.inl ⟨7,Y7.out,zu,rfl⟩⟩
 have Y3:AC (KO l=(DI 8 TY).then (iO s) r2):=⟨by rw[Y2.out,ay,if_neg gs]⟩;have g2:s=0\/s=1:=zx
 clear Y2 gs;rcases g2 with g2 | g2
 case' inl=>
  obtain⟨S,hS⟩: ∃ S,AC ((s==1)=S/\S=false):=⟨_,⟨rfl,by rw[g2];rfl⟩⟩;have M3:AC (AJ w2 w1.heap.size (C8 S (.slice none 0 0)<|List.replicate 32<|.int .u8 0) 114):=⟨by rw[hS.out.2];exact M2.out⟩;have K3:=AA K2.out;have L3:=AA L2.out;have Z3:=AA Z2.out;have Xq:=AA Z7.out;have g0:((s:Int)==0)=true:=by rw[DJ];omega
  clear g2 M2 K2 L2 Z2 Z7;go_wp2_with fail
  obtain⟨W3,hW⟩: ∃ W,w2=W:=⟨_,rfl⟩;rw[hW]at M3 K3 L3 Z3 Xq hs2⊢;clear hW
 case' inr=>
  obtain⟨S,hS⟩: ∃ S,AC ((s==1)=S/\S=true):=⟨_,⟨rfl,by rw[g2];rfl⟩⟩;have z0:w2.cell? ⟨w1.heap.size,0,none⟩=some (.bool false):=M2.out.cell 0;have z1:=M2.out.soft;have g0:((s:Int)==0)=false:=by rw[BK];omega
  have g1:((s:Int)==1)=true:=by rw[DJ];omega
  have M3:AC (AJ (w2.setCell ⟨w1.heap.size,0,none⟩<|.bool true) w1.heap.size (C8 S (.slice none 0 0)<|List.replicate 32<|.int .u8 0) 114):=⟨by rw[hS.out.2];exact M2.out.set 0<|.bool true⟩;have K3:=AA<|K2.out.Ai w1.heap.size 0 (.bool true) (by have:=hs1.out;omega);have L3:=AA<|L2.out.away w1.heap.size 0 (by have:=hs1.out;omega)<|.bool true;have Z3:=AA<|ZZ.out.keeps K3.out hgb;have Xq:=AA<|Z7.out.of<|Au _ ⟨w1.heap.size,0,none⟩ (.bool true) b (by have:=Va.out;show b≠w1.heap.size;omega);clear g2 K2 L2 Z2 Z7 M2;go_wp2_with fail
  clear z0 z1;obtain⟨W3,hW⟩: ∃ W,w2.setCell ⟨w1.heap.size,0,none⟩ (.bool true)=W:=⟨_,rfl⟩;have eQ:AC (w1.heap.size<W3.heap.size):=⟨by rw[<- hW];simpa using hs2.out⟩;rw[hW]at M3 K3 L3 Z3 Xq⊢;clear hW hs2;have hs2:=AA eQ.out;clear eQ
 all_goals
  have C3:=AA (Zo9 (d:=4) (f:=TY) Zvu (first:=#[.pointer<|Qb b 0]) (cap:=#[]) (m:=8) Z3.out Xq.out zx fun u r hu=>Z45 VC.out.1 VC.out.2 hu.2.2 hu.1);refine C3.out.mono ?_;rintro e w4 ⟨hk4,⟨i,hy,hi,rfl⟩ | ⟨xs,r4,v,hy,rfl,⟨F,hR,hN⟩,O0⟩⟩
  ·exact⟨rfl,K3.out.trans hk4,Or.inl ⟨i,Y3.out.trans<|De.Ad hy,hi,rfl⟩⟩
  obtain⟨p1,c1,rfl⟩:=AO.form hR;have K4:=AA<|K3.out.trans hk4;have Y4:=AA<|Y3.out.trans<|De.then_ok hy;have M4:=AA<|M3.out.of<|hk4.block _ hs2.out (by have:=Va.out;omega);have L4:=AA<|L3.out.of<|hk4.block _ (by have:=hs1.out;have:=hs2.out;omega) zx;have HR:=AA<|AF hR hN;have HD4:=AA O0;have QW:AC (w1.heap.size<w4.heap.size):=⟨M4.out.lt⟩;have eO:=AA hk4.size;have z1:w4.cell? ⟨w1.heap.size,1,none⟩=some (.slice none 0 0):=M4.out.cell 1;have zs:=M4.out.soft;clear hy hk4 hR hN O0 C3 Y3 M3 L3 Z3 Xq K3;by_cases hx:xs.length=0
  ·have Y7:AC (KO l= .error 7):=⟨by rw[Y4.out,iO,if_pos hx]⟩;have z7:=(ZZ.out.keeps (K4.out.Ai w1.heap.size 1 (.slice p1 xs.length c1) (by have:=hs1.out;omega)) hgb).c7;have CR:=AA fun u=>Nu a b u (n:=7) zu;have gx:((xs.length:Int)==0)=true:=by rw[DJ];omega
   generalize xs.length=N at*;clear Y4 hx;go_wp2_with fail
   refine(CR.out _).mono ?_;rintro e w5 ⟨rfl,rfl⟩;exact⟨rfl,K4.out.Ai _ _ _ (by have:=hs1.out;omega),Or.inl ⟨7,Y7.out,zu,rfl⟩⟩
  have gx:((xs.length:Int)==0)=false:=by rw[BK];omega
  have Y5:AC (KO l=(KI 32).map (fun t=>(⟨s==1,xs,t⟩:Ch)) r4):=⟨by rw[Y4.out,iO,if_neg hx]⟩;go_wp2_with fail
  have K5:=AA<|K4.out.Ai w1.heap.size 1 (.slice p1 xs.length c1) (by have:=hs1.out;omega);have M5:AC (AJ (w4.setCell ⟨w1.heap.size,1,none⟩<|.slice p1 xs.length c1) w1.heap.size (C8 S (.slice p1 xs.length c1)<|List.replicate 32<|.int .u8 0) 114):=⟨M4.out.set 1<|.slice p1 xs.length c1⟩;have L5:=AA<|L4.out.away w1.heap.size 1 (by have:=hs1.out;omega)<|.slice p1 xs.length c1;have D5:=AA<|HD4.out.of<|Au w4 ⟨w1.heap.size,1,none⟩ (.slice p1 xs.length c1) b (by have:=Va.out;show b≠w1.heap.size;omega);have R5:AC (AO 108 4 (Hf AY 4) (w4.setCell ⟨w1.heap.size,1,none⟩<|.slice p1 xs.length c1) (.slice p1 xs.length c1) xs F):=⟨AO.stable (Hf.stable (ty:=AY) 4) _ _ _ _ _ HR.out.1 fun j hj=>Au _ _ _ _ (by have:=HR.out.2.ge j hj;have:=hs2.out;show j≠w1.heap.size;omega)⟩;have N5:AC (Af W3.heap.size (w4.setCell ⟨w1.heap.size,1,none⟩<|.slice p1 xs.length c1) F):=⟨HR.out.2.later lr zw⟩;have hs5:AC (w1.heap.size<(w4.setCell ⟨w1.heap.size,1,none⟩<|.slice p1 xs.length c1).heap.size/\W3.heap.size<=(w4.setCell ⟨w1.heap.size,1,none⟩<|.slice p1 xs.length c1).heap.size):=⟨by simpa using AF QW.out eO.out⟩;clear K4 M4 L4 HD4 HR z1 zs QW eO Y4;generalize w4.setCell ⟨w1.heap.size,1,none⟩ (.slice p1 xs.length c1)=W5 at*;have CT:=AA<|jA (ZZ.out.keeps K5.out.drew hgb) D5.out.drew 32 zu;go_region_with (first
   | (go_at_call 185
      refine CT.out.mono ?_;rintro e w6 ⟨Pj,⟨i,hy,hi,rfl⟩ | ⟨t,r6,v,hy,rfl,rfl,hd6⟩⟩
      ·exact⟨rfl,K5.out.drew.trans Pj,Or.inl ⟨i,Y5.out.trans<|De.Av hy,hi,rfl⟩⟩
      have JV:=(Zw7 hy).1;have Y6:=AA<|Y5.out.trans<|De.map_ok hy;have M6:=M5.out.of<|Pj.block _ hs5.out.1 (by have:=Va.out;omega);have Uc:=Z0e (P:=prog) w6 74 9 3 5 w1.heap.size 2 32 32 32 (ba t) _ 114 underlying74 zt M6 (by rw[Bh,JV];rfl) (by rw[Uz _ _ zw];decide);rw[Z1v _ _ zw JV]at Uc))
  all_goals
   have hlen:(Lib.byteCells t).length=32:=by rw[Lib.byteCells_length,JV]
   have h1:=hs1.out;have h5:=hs5.out;have hbn':=Va.out;have zS:=Pj.size;have C7:=Gj _ _ _ (C8 S (.slice p1 xs.length c1)<|Lib.byteCells t) _ _ M6;have L7:=AJ.of (L5.out.of<|Pj.block _ (show w.heap.size<W5.heap.size by omega) zx)<|Db w6 w1.heap.size w.heap.size (C8 S (.slice p1 xs.length c1)<|Lib.byteCells t) zx;have K8:=AA<|(Ac.Jz (L:=w1.heap.size) (K5.out.drew.trans Pj) (C8 S (.slice p1 xs.length c1)<|Lib.byteCells t) zx);have K9:=AA<|Ac.Jz (L:=w.heap.size) K8.out (C8 S (.slice p1 xs.length c1)<|Lib.byteCells t) lr;have HK6:=AA Pj;have HD6:=AA hd6;have R8:=Gj _ _ _ (C8 S (.slice p1 xs.length c1)<|Lib.byteCells t) _ _ L7;clear Pj hd6 hy Uc;go_wp2_with (first
    | (refine QK rfl 114 (.tmp 3) rfl w1.heap.size rfl 114 (C8 S (.slice p1 xs.length c1)<|Lib.byteCells t) (0,0) _ C7 underlying114 rfl (U0 _ _ hlen) ?_)
    | (refine Jp rfl 114 (.tmp 2) (.tmp 37) rfl w.heap.size (C8 S (.slice p1 xs.length c1)<|Lib.byteCells t) rfl rfl 114 DR L7 (U0 _ _ hlen) (by rw[Uz _ _ hlen];rfl) (bY _ _ _ _ _) ?_))
   refine CQ (results_cell_row (p:=2) (ty:=114) rfl _ _ w.heap.size 114 (C8 S (.slice p1 xs.length c1)<|Lib.byteCells t) (0,0) _ rfl R8 underlying114 rfl<|U0 _ _ hlen) rfl ?_;have st: ∀ j,j≠w.heap.size->j≠w1.heap.size->j≠b->j<W5.heap.size->((w6.setRow w1.heap.size<|C8 S (.slice p1 xs.length c1)<|Lib.byteCells t).setRow w.heap.size<|C8 S (.slice p1 xs.length c1)<|Lib.byteCells t).heap[j]?=W5.heap[j]?:=fun j j1 j2 j3 j4=>(Db _ _ j _ j1).trans ((Db _ _ j _ j2).trans<|HK6.out.block j j4 j3);exact⟨K9.out,Or.inr ⟨_,r6,_,Y6.out,rfl,⟨.bool S:: .slice p1 xs.length c1::Lib.byteCells t,F,rfl,⟨_,by rw[<- hS.out.1],JV,AO.stable (Hf.stable (ty:=AY) 4) _ _ _ _ _ R5.out fun j hj=>st j (by have:=N5.out.ge j hj;have:=hs2.out;omega) (by have:=N5.out.ge j hj;have:=hs2.out;omega) (by have:=N5.out.ge j hj;have:=hs2.out;omega) (N5.out.lt j hj)⟩,N5.out.later (by have:=hs2.out;omega) (by rw[ET,ET];exact zS)⟩,HD6.out.of<|(Db _ _ b _ zx).trans<|Db _ _ b _ zx⟩⟩
end Go.P
namespace Go.W
def wH {P:Program}{fn:Func}{p q:Tmp}{t1 t2:TypeId}(h:fn.results=#[.cell p t1,.cell q t2])(tmps:Array Value)(w:World)(g1 g2:Addr)(v1 v2:Value)(hp:tmps.getD p undef= .pointer (some g1))(hq:tmps.getD q undef= .pointer (some g2))(h1:(loadVar t1 g1).run P w= .ok v1 w)(h2:(loadVar t2 g2).run P w= .ok v2 w):(results fn tmps).run P w= .ok (.tuple #[v1,v2]) w:=by
 have qR:tmps[p]?.getD undef= .pointer (some g1):=by simpa using hp
 have aK:tmps[q]?.getD undef= .pointer (some g2):=by simpa using hq
 simp[results,h,qR,aK,asAddr,h1,h2]
end Go.W
namespace Go.P
def Zi1 (b:Nat)(x:Value)(a:Nat->Addr){n:Int}(hn:n≠0)(w:World)(hc:w.cell? ⟨b,0,none⟩=some x)(hf:w.frozen? ⟨b,0,none⟩=false):CallsD prog 183 #[.pointer<|Qb b 0] (.panicking [{v:= .iface 278<|.agg #[BS a n],recovered:=false}]) w fun e u' w'=>
  e= .returned (.tuple #[])/\u'= .panicking [{v:= .iface 278<|.agg #[BS a n],recovered:=true}]/\w'=(w.alloc<|.cells #[BS a n] 278).setCell ⟨b,0,none⟩ (BS a n):=by
 rw[DC _ hn];have hbl:=Ll hc;refine callsD_of_wpS func183 rfl fun c₀ cs hu=>?_;apply wpS_seq
 apply wpS_region
 simp[wpOpsS,go_sem,recoverD,hu,ntmps183,Exit.thenS,Array.replicate,List.replicate];refine wpS_of_wp ?_;have ta:=Zj5;go_wp2_with fail
 simp[bodyPostS,results,results183]
def Zvd (b:Nat)(w:World):CallsD prog 183 #[.pointer<|Qb b 0] .returning w fun e u' w'=>e= .returned (.tuple #[])/\u'= .returning/\w'=w:=by
 refine callsD_of_wpS func183 rfl fun c₀ cs hu=>?_;apply wpS_seq
 apply wpS_region
 simp[wpOpsS,go_sem,recoverD,hu,ntmps183,Exit.thenS,Array.replicate,List.replicate];refine wpS_of_wp ?_;go_wp2_with fail
 cases c₀;simp_all [bodyPostS,results,results183]
def vN (a:Nat->Addr) (w:World) (Y:Except Int Ch) (e:Ending) (w':World):Prop:=
 Bl w w'/\((∃ n,Y= .error n/\n≠0/\e= .returned (.tuple #[.agg DR,BS a n]))\/ ∃ x vs F,Y= .ok x/\e= .returned (.tuple #[.agg vs.toArray,.nilIface])/\Tc 4 w' vs x F/\Af w.heap.size w' F)
def Zti:Bj 137:=DL func137 zt rfl
def Zmi (V:E8)(CL:Ig){a:Nat->Addr}{w:World}{l:By}(Z:Aa a w)(hl:l.length<1000000000):
  Calls prog 136 #[.string<|ba l,.func (.func 137) #[] #[]] w (vN a w<|JK KO l):=by
 have Dw:=G6;have hg:=Z.size;have Cb: ∀ args w,(callFunc 137 args).run prog w= .ok (.enter 137 args) w:=Zti;have B0:=AA<|(((AQ w.heap.size w).alloc lr<|.cells DR 114).alloc zw<|.cells #[.nilIface] 56).alloc (by simp;omega)<|.cells #[.string<|ba l] 280;have LR:=AA<|((AJ.new w DR 114).alloc<|.cells #[.nilIface] 56).alloc<|.cells #[.string<|ba l] 280;have LE:=AA<|(AJ.new (w.alloc<|.cells DR 114) #[.nilIface] 56).alloc<|.cells #[.string<|ba l] 280;have LD:=AA<|AJ.new ((w.alloc<|.cells DR 114).alloc<|.cells #[.nilIface] 56) #[.string<|ba l] 280;simp only[EH]at LE LD;have C:=AA<|Z12 V CL (Z.below B0.out) (b:=w.heap.size+1+1) (l:=l) ⟨LD.out,hl,zx⟩;have ZZ:=AA Z;clear Z CL V LD;go_enter_defers func136,ntmps136
 go_wp2_with fail
 refine C.out.mono ?_;rintro e w1 ⟨AZ,⟨n,hy,hn,rfl⟩ | ⟨x,r,v,hy,rfl,⟨vs,F,rfl,hQ,hN⟩,Bg⟩⟩
 ·have Jw:=LR.out.of<|AZ.block w.heap.size (by simp;omega) zx;have Hu:=LE.out.of<|AZ.block (w.heap.size+1) zw zx;have B1:=AA<|B0.out.trans<|AZ.below (B:=w.heap.size) zx (by simp;omega);obtain⟨y0,sy⟩:=Hu.one;have q0:=AA<|(Jw.alloc<|.cells #[BS a n] 278).away (w.heap.size+1) 0 zx<|BS a n;have q1:=AA<|(Hu.alloc<|.cells #[BS a n] 278).set 0<|BS a n;have q2:=AA<|(B1.out.alloc (by have:=Jw.lt;omega)<|.cells #[BS a n] 278).setCell (p:=⟨w.heap.size+1,0,none⟩) (by show w.heap.size<=w.heap.size+1;omega)<|BS a n;refine Ru (f:=183) (args:=#[.pointer<|Qb (w.heap.size+1) 0]) zw (by simp[go_sem]) ?_;refine(Zi1 _ _ a hn w1 y0<|sy 0).mono ?_;rintro e u' w'' ⟨rfl,rfl,hw⟩;rw[<- hw]at q0 q1 q2;obtain⟨x0,sx⟩:=AJ.one (a:=BS a n) q1.out;clear hw;have fB:=WK (P:=prog) w'' w.heap.size 114 114 _ _ _ q0.out underlying114 rfl zt;have hle:(loadVar 56 ⟨w.heap.size+1,0,none⟩).run prog w''= .ok (BS a n) w'':=by simp[go_sem,x0]
  exact⟨_,wH rfl _ _ _ _ _ _ rfl rfl fB hle,q2.out,Or.inl ⟨n,Znz hy,hn,rfl⟩⟩
 ·have HQ:=AA hQ;obtain⟨lv,rfl,JV,hrow⟩:=hQ;obtain⟨p1,c1,rfl⟩:=AO.form hrow;have Jw:=AA<|LR.out.of<|AZ.block w.heap.size (by simp;omega) zx;have Hu:=AA<|LE.out.of<|AZ.block (w.heap.size+1) zw zx;have B1:=AA<|B0.out.trans<|AZ.below (B:=w.heap.size) zx (by simp;omega);have Y:=AA<|Zxf hy;have HD:=AA Bg;have HN:=AA hN;have Z1:=AA<|ZZ.out.below B1.out;have x0:=fun o=>(Bg.1.alloc o).one.1;have hr:(ba r).toList=[]↔r=[]:=by
   rw[Lr];simp[ba]
  have hlen:(Lib.byteCells x.tag).length=32:=by rw[Lib.byteCells_length,JV]
  have DN:=U0 x.sealed (.slice p1 x.links.length c1) hlen;have hsz:=Uz x.sealed (.slice p1 x.links.length c1) hlen;have kQ:=bY x.sealed p1 x.links.length c1 x.tag;clear hrow AZ Bg hN hy C LR LE JV hlen;have xy:AC (C8 x.sealed (.slice p1 x.links.length c1) (Lib.byteCells x.tag)=(Value.bool x.sealed::Value.slice p1 x.links.length c1::Lib.byteCells x.tag).toArray):=⟨rfl⟩;rw[<- xy.out];obtain⟨CV,Ei⟩: ∃ CV,AC (C8 x.sealed (.slice p1 x.links.length c1) (Lib.byteCells x.tag)=CV):=⟨_,⟨rfl⟩⟩;rw[Ei.out]at DN hsz kQ xy⊢;have S1:=AJ.new w1 DR 114;have S2:=Gj _ _ _ CV _ _ S1;have hs1:=AA B1.out.size;have hdl:=AA HD.out.1.lt;clear x0;have x0: ∀ o,((w1.alloc o).setRow w1.heap.size CV).cell? ⟨w.heap.size+1+1,0,none⟩=some (.string<|ba r):=fun o=>((HD.out.1.alloc o).of<|Db _ _ _ _ (by have:=hdl.out;omega)).one.1;have hL:w.heap.size<w1.heap.size:=Jw.out.lt;have hE:w.heap.size+1<w1.heap.size:=Hu.out.lt;have RW:=AA fun o=>(Jw.out.alloc o).of (Db (w1.alloc o) w1.heap.size _ CV zx);have EW:=AA fun o=>(Hu.out.alloc o).of (Db (w1.alloc o) w1.heap.size _ CV zx);have BW:=AA fun o=>(⟨(B1.out.alloc hs1.out o).os,(B1.out.alloc hs1.out o).tape,(B1.out.alloc hs1.out o).output,by rw[ET];exact(B1.out.alloc hs1.out o).size,fun j hj=>(Db _ _ j _ zx).trans ((B1.out.alloc hs1.out o).block j hj)⟩:Bl w ((w1.alloc o).setRow w1.heap.size CV));by_cases IY:r=[]
  ·have Y1:AC (JK KO l= .ok x):=⟨by rw[Y.out,if_pos IY]⟩;have g:=hr.2 IY;have L2:=RW.out<|.cells DR 114;have R3:=AA fun o=>Gj _ _ _ CV _ _ (RW.out o);have E3:=AA fun o=>(EW.out o).of (Db ((w1.alloc o).setRow w1.heap.size CV) w.heap.size _ CV zx);have e0:=fun o=>(E3.out o).one.1;have e1:=fun o=>(E3.out o).one.2;have q0:=AA fun o=>AJ.away (R3.out o) (w.heap.size+1) 0 zx .nilIface;have q1:=AA fun o=>(E3.out o).set 0 .nilIface;have q2:=AA fun o=>Below.setCell (⟨(BW.out o).os,(BW.out o).tape,(BW.out o).output,by rw[ET];exact(BW.out o).size,fun j hj=>(Db _ _ j _ zx).trans ((BW.out o).block j hj)⟩:Bl w (((w1.alloc o).setRow w1.heap.size CV).setRow w.heap.size CV)) (p:=⟨w.heap.size+1,0,none⟩) (by show w.heap.size<=w.heap.size+1;omega) .nilIface;have q3:AC (∀ o j,j∈F->((((w1.alloc o).setRow w1.heap.size CV).setRow w.heap.size CV).setCell ⟨w.heap.size+1,0,none⟩ .nilIface).heap[j]?=w1.heap[j]?):=⟨fun o j hj=>by
    have g1:=HN.out.ge j hj;have g2:=HN.out.lt j hj;simp at g1;rw[Au _ _ _ _ (by show j≠w.heap.size+1;omega),Db _ _ j _ zx,Db _ _ j _ zx];exact Ah _ _ _ g2⟩
   have q4:AC (∀ o,Af w.heap.size ((((w1.alloc o).setRow w1.heap.size CV).setRow w.heap.size CV).setCell ⟨w.heap.size+1,0,none⟩ .nilIface) F):=⟨fun o=>HN.out.later (by simp;omega) (by simp[ET])⟩;clear hr IY Y;generalize ba r=s at*;go_wp2_with (first
    | (refine Jp rfl 114 (.tmp 7) (.tmp 14) rfl w1.heap.size CV rfl rfl 114 DR S1 DN (by rw[hsz];rfl) kQ ?_)
    | (refine QK rfl 114 (.tmp 7) rfl w1.heap.size rfl 114 CV (0,0) _ S2 underlying114 rfl DN ?_)
    | (refine Jp rfl 114 (.tmp 4) (.tmp 23) rfl w.heap.size CV rfl rfl 114 DR L2 DN (by rw[hsz];rfl) kQ ?_))
   clear e0 e1 x0;refine Ru (f:=183) (args:=#[.pointer<|Qb (w.heap.size+1) 0]) zw (by simp[go_sem]) ?_;refine(Zvd _ _).mono ?_;rintro e u' w'' ⟨rfl,rfl,hw⟩;have p0:AJ w'' w.heap.size CV 114:=by rw[hw];exact q0.out _
   have p1':AJ w'' (w.heap.size+1) #[.nilIface] 56:=by rw[hw];exact q1.out _
   have p2:Bl w w'':=by rw[hw];exact q2.out _
   have p3: ∀ j,j∈F->w''.heap[j]?=w1.heap[j]?:=by rw[hw];exact q3.out _
   have p4:Af w.heap.size w'' F:=by rw[hw];exact q4.out _
   clear hw;obtain⟨y0,sy⟩:=p1'.one;have fB:=WK (P:=prog) w'' w.heap.size 114 114 _ _ _ p0 underlying114 rfl DN;have hle:(loadVar 56 ⟨w.heap.size+1,0,none⟩).run prog w''= .ok .nilIface w'':=by simp[go_sem,y0]
   refine⟨_,wH rfl _ _ _ _ _ _ rfl rfl fB hle,p2,Or.inr ⟨x,_,F,Y1.out,by rw[xy.out],?_,p4⟩⟩;obtain⟨v,hv,ht,hrow⟩:=HQ.out;exact⟨v,hv,ht,AO.stable (Hf.stable (ty:=AY) 4) _ _ _ _ _ hrow p3⟩
  ·have Y1:AC (JK KO l= .error 7):=⟨by rw[Y.out,if_neg IY]⟩;have g:(ba r).toList.isEmpty=false:=by rw[List.isEmpty_eq_false_iff];exact fun q=>IY (hr.1 q)
   have z7:=fun o=>(ZZ.out.below<|BW.out o).c7;have CR:=AA fun u=>Nu a (w.heap.size+1+1) u (n:=7) zu;clear hr IY Y;generalize ba r=s at*;go_wp2_with (first
    | (refine Jp rfl 114 (.tmp 7) (.tmp 14) rfl w1.heap.size CV rfl rfl 114 DR S1 DN (by rw[hsz];rfl) kQ ?_))
   refine(CR.out _).mono ?_;rintro e w2 ⟨rfl,hw2⟩;have l0:AJ w2 w.heap.size DR 114:=by rw[hw2];exact RW.out _
   have l1:AJ w2 (w.heap.size+1) #[.nilIface] 56:=by rw[hw2];exact EW.out _
   have l2:Bl w w2:=by rw[hw2];exact BW.out _
   clear hw2;obtain⟨y0,sy⟩:=l1.one;have q0:=AA<|(l0.alloc<|.cells #[BS a 7] 278).away (w.heap.size+1) 0 zx<|BS a 7;have q1:=AA<|(l1.alloc<|.cells #[BS a 7] 278).set 0<|BS a 7;have q2:=AA<|(l2.alloc l2.size<|.cells #[BS a 7] 278).setCell (p:=⟨w.heap.size+1,0,none⟩) (by show w.heap.size<=w.heap.size+1;omega)<|BS a 7;refine Ru (f:=183) (args:=#[.pointer<|Qb (w.heap.size+1) 0]) zw (by simp[go_sem]) ?_;refine(Zi1 _ _ a (n:=7) zu _ y0<|sy 0).mono ?_;rintro e u' w'' ⟨rfl,rfl,hw⟩;rw[<- hw]at q0 q1 q2;obtain⟨u0,sx⟩:=AJ.one (a:=BS a 7) q1.out;clear hw;have fB:=WK (P:=prog) w'' w.heap.size 114 114 _ _ _ q0.out underlying114 rfl zt;have hle:(loadVar 56 ⟨w.heap.size+1,0,none⟩).run prog w''= .ok (BS a 7) w'':=by simp[go_sem,u0]
   exact⟨_,wH rfl _ _ _ _ _ _ rfl rfl fB hle,q2.out,Or.inl ⟨7,Y1.out,zu,rfl⟩⟩
end Go.P
namespace Go.W
def wh {P:Program}{fn:Func}{p q:Tmp}{t1:TypeId}(h:fn.results=#[.cell p t1,.tmp q])(tmps:Array Value)(w:World)(g1:Addr)(v1 v2:Value)(hp:tmps.getD p undef= .pointer (some g1))(hq:tmps.getD q undef=v2)(h1:(loadVar t1 g1).run P w= .ok v1 w):(results fn tmps).run P w= .ok (.tuple #[v1,v2]) w:=by
 have qR:tmps[p]?.getD undef= .pointer (some g1):=by simpa using hp
 have aK:tmps[q]?.getD undef=v2:=by simpa using hq
 simp[results,h,qR,aK,asAddr,h1]
def _root_.Go.RowKit.Below.Br {B g:Nat}{w u:World}(h:Below B w u)(nv:Array Value)(hB:B<=g):Below B w (u.setRow g nv):=⟨h.os,h.tape,h.output,by rw[ET];exact h.size,fun j hj=>(Db _ _ j _ zx).trans (h.block j hj)⟩
end Go.W
namespace Go.P
variable {w:World}{vs:List Value}{x:Ch}{F:List Nat}{a:Nat->Addr}{l:By}
def Zo5:(prog.info? 114).map (·.size)=some DR.size:=zt
def Tc.arr (h:Tc 4 w vs x F):vs.toArray.size=34/\vs.toArray.all (·.oneCell')=true/\(prog.info? 114).map (·.size)=some vs.toArray.size:=by
 obtain⟨v,rfl,ht,hr⟩:=h;obtain⟨p,c,rfl⟩:=AO.form hr;have hl:(Lib.byteCells x.tag).length=32:=by rw[Lib.byteCells_length,ht]
 exact⟨Uz _ _ hl,bY _ _ _ _ _,U0 _ _ hl⟩
def Tc.stable {w':World}(h:Tc 4 w vs x F)(k: ∀ j,j∈F->w'.heap[j]?=w.heap[j]?):Tc 4 w' vs x F:=by
 obtain⟨v,hv,ht,hr⟩:=h;exact⟨v,hv,ht,AO.stable (Hf.stable (ty:=AY) 4) _ _ _ _ _ hr k⟩
def Zsg (V:E8)(CL:Ig)(Z:Aa a w)(hl:l.length<1000000000):
  Calls prog 83 #[.string<|ba l] w (vN a w<|JK KO l):=by
 have Dw:=G6;have B0:=fun o=>(AQ w.heap.size w).alloc lr o;have C:=AA fun o=>Zmi V CL (Z.below<|B0 o) hl;have L0:=AJ.new w DR 114;clear Z V CL;go_in
 go_wp2_with fail
 refine(C.out<|.cells DR 114).mono ?_;rintro e w1 ⟨hb1,⟨n,hy,hn,rfl⟩ | ⟨x,vs,F,hy,rfl,hQ,hN⟩⟩
 ·have L1:=L0.of<|hb1.block _ L0.lt;have BB:=AA<|(B0<|.cells DR 114).trans<|hb1.mono zw;have HY:=AA hy;rw[DC _ hn];clear hb1 hy C L0;go_wp2_with (refine Jp rfl 114 (.tmp 2) (.tmp 6) rfl w.heap.size DR rfl rfl 114 DR L1 Zo5 rfl zt ?_)
  refine CQ (wh rfl _ _ _ _ _ rfl rfl<|WK _ w.heap.size 114 114 _ _ _ (Gj _ _ _ _ _ _ L1) underlying114 rfl Zo5) rfl ?_;exact⟨BB.out.Br _ lr,Or.inl ⟨n,HY.out,hn,by rw[DC _ hn];rfl⟩⟩
 ·obtain⟨ha1,ha2,Vd⟩:=Tc.arr hQ;have L1:=L0.of<|hb1.block _ L0.lt;have BB:=AA<|(B0<|.cells DR 114).trans<|hb1.mono zw;have HY:=AA<|AF hy<|AF hQ hN;obtain⟨CV,Ei⟩: ∃ CV,AC (vs.toArray=CV):=⟨_,⟨rfl⟩⟩;rw[Ei.out]at ha1 ha2 Vd⊢;clear hb1 hy C L0 hQ hN;go_wp2_with (refine Jp rfl 114 (.tmp 2) (.tmp 6) rfl w.heap.size CV rfl rfl 114 DR L1 Vd (by rw[ha1];rfl) ha2 ?_)
  refine CQ (wh rfl _ _ _ _ _ rfl rfl<|WK _ w.heap.size 114 114 _ _ _ (Gj _ _ _ _ _ _ L1) underlying114 rfl Vd) rfl ?_;have nw:=HY.out.2.2;exact⟨BB.out.Br _ lr,Or.inr ⟨x,vs,F,HY.out.1,by rw[Ei.out];rfl,Tc.stable HY.out.2.1 fun j hj=>Db _ _ j _ (by have:=nw.ge j hj;simp at this;omega),nw.later zw (by rw[ET];exact JB _)⟩⟩
def Zzp (V:E8)(CL:Ig)(Z:Aa a w)(hl:l.length<1000000000)(hx:JK KO l= .ok x)(hs:x.sealed=false):
  Calls prog 38 #[.string<|ba l] w (vN a w<|.ok x):=by
 have B0:=fun o=>(AQ w.heap.size w).alloc lr o;have C:=AA fun o=>Zsg V CL (Z.below<|B0 o) hl;have L0:=AJ.new w DR 114;have HX:=AA hx;clear Z V CL hx;go_in
 go_wp2_with fail
 refine(C.out<|.cells DR 114).mono ?_;rintro e w1 ⟨hb1,⟨n,hy,hn,rfl⟩ | ⟨y,vs,F,hy,rfl,hQ,hN⟩⟩
 ·rw[HX.out]at hy;cases hy
 obtain rfl:y=x:=by rw[HX.out]at hy;exact((Except.ok.inj hy)).symm
 obtain⟨ha1,ha2,Vd⟩:=Tc.arr hQ;have L1:=L0.of<|hb1.block _ L0.lt;have BB:=AA<|(B0<|.cells DR 114).trans<|hb1.mono zw;have HY:=AA<|AF hQ hN;obtain⟨CV,Ei⟩: ∃ CV,AC (vs.toArray=CV):=⟨_,⟨rfl⟩⟩;have c0:CV[0]?=some (.bool false):=by
  obtain⟨v,rfl,_⟩:=hQ;rw[<- Ei.out,hs];rfl
 rw[Ei.out]at ha1 ha2 Vd⊢;have S1:=AJ.new w1 DR 114;have S2:=Gj _ _ _ CV _ _ S1;have x0: ∀ cs t,((w1.alloc<|.cells cs t).setRow w1.heap.size CV).cell? ⟨w1.heap.size,0,none⟩=some (.bool false):=fun cs t=>(AJ.cell (Gj _ _ _ CV _ _<|AJ.new w1 cs t) 0).trans c0;have L2:=(L1.alloc<|.cells DR 114).of<|Db (w1.alloc<|.cells DR 114) w1.heap.size w.heap.size CV (by have:=L1.lt;omega);have hlt:=AA L1.lt;clear hb1 hy C L0 hQ hN;go_wp2_with (first
  | (refine Jp rfl 114 (.tmp 4) (.tmp 9) rfl w1.heap.size CV rfl rfl 114 DR S1 Vd (by rw[ha1];rfl) ha2 ?_)
  | (refine QK rfl 114 (.tmp 4) rfl w1.heap.size rfl 114 CV (0,0) _ S2 underlying114 rfl Vd ?_)
  | (refine Jp rfl 114 (.tmp 2) (.tmp 19) rfl w.heap.size CV rfl rfl 114 DR L2 Vd (by rw[ha1];rfl) ha2 ?_))
 refine CQ (wh rfl _ _ _ _ _ rfl rfl<|WK _ w.heap.size 114 114 _ _ _ (Gj _ _ _ _ _ _ L2) underlying114 rfl Vd) rfl ?_;have nw:=HY.out.2;have Fp:=hlt.out;exact⟨((BB.out.alloc BB.out.size _).Br _ BB.out.size).Br _ lr,Or.inr ⟨_,vs,F,rfl,by rw[Ei.out];rfl,Tc.stable HY.out.1 (fun j hj=>by
  have g1:=nw.ge j hj;have g2:=nw.lt j hj;simp at g1;rw[Db _ _ j _ zx,Db _ _ j _ zx];exact Ah _ _ _ g2),nw.later zw (by rw[ET,ET];simp)⟩⟩
end Go.P
namespace Go.W
def Qp (B:Nat) (w:World) (b o:Nat) (x:ByteArray):Prop:=b<B/\x.size<1000000000/\ ∃ p1 n1 c1 p2 n2 c2 p3 n3 c3,w.cell? ⟨b,o,none⟩=some (.string x)/\w.cell? ⟨b,o+1,none⟩=some (.slice p1 n1 c1)/\w.cell? ⟨b,o+2,none⟩=some (.slice p2 n2 c2)/\w.cell? ⟨b,o+3,none⟩=some (.slice p3 n3 c3)
def xK (vs:List Value) (x:ByteArray):Prop:= ∃ p1 n1 c1 p2 n2 c2 p3 n3 c3,vs=[.string x,.slice p1 n1 c1,.slice p2 n2 c2,.slice p3 n3 c3]/\x.size<1000000000
def Qp.carry {B B':Nat}{w w':World}{b o:Nat}{x:ByteArray}(c:Dy B B' w w')(h:Qp B w b o x):Qp B' w' b o x:=by
 obtain⟨hb,hx,p1,n1,c1,p2,n2,c2,p3,n3,c3,k0,k1,k2,k3⟩:=h;have cc:=fun o=>c.cell b o hb;exact⟨Ba hb c.le,hx,p1,n1,c1,p2,n2,c2,p3,n3,c3,by rw[cc];exact k0,by rw[cc];exact k1,by rw[cc];exact k2,by rw[cc];exact k3⟩
end Go.W
namespace Go.P
def Zpf {K B b:Nat}(hen:Bj K){first cap:Array Value}{f:ByteArray->ByteArray}{s:ByteArray}{w:World}{p:Option Addr}{xs:List ByteArray}{c:Nat}(h:Ak 164 B b s w)(hs:s.size+(BZ f xs).size<1000000000)(hrow:Ap 4 (Qp B w) p xs)(hB:B<=w.heap.size)
  (HC: ∀ u vs x s',x∈xs->Ak 164 B b s' u->Fr B b w u->xK vs x->s'.size+(f x).size<1000000000->Calls prog K (first.push (.agg vs.toArray)++cap) u (Df 164 B b (s'++f x) u)):
  Calls prog 80 #[.pointer<|Qb b 0,.slice p xs.length c,.func (.func K) first cap] w (Df 164 B b (s++BZ f xs) w):=by
 have hl:=hrow.len;have HR:=AA hrow;have HH:=AA HC;have Cb: ∀ args w,(callFunc K args).run prog w= .ok (.enter K args) w:=hen;have hz:s.size+((Dm xs.length).size+(cat f xs).size)<1000000000:=by rw[BZ,Ae]at hs;exact hs
 have EQ:AC (s++Dm xs.length++cat f xs=s++BZ f xs):=⟨by rw[BZ,Bw]⟩;have C:=AA<|Xf Ob h xs.length zx zx hB;have SZ:AC ((s++Dm xs.length).size=s.size+(Dm xs.length).size):=⟨Ae _ _⟩;clear hrow HC hen h hs;generalize s++Dm xs.length=s1 at*;go_in
 go_wp2_with fail
 refine C.out.mono ?_;rintro e w1 ⟨rfl,hb1,Ag⟩;have H1:=AA<|AF hb1 Ag;clear hb1 Ag C;go_wp2
 go_loopw [15] (fun iv wr=>bK 164 B b s1 f w xs iv wr) (fun iv _=>xs.length-(intOf iv).toNat)
 case atStart=>exact⟨0,zx,rfl,by simpa[cat]using H1.out.1,H1.out.2⟩
 case round=>
  obtain⟨q,hq,rfl,hbl,AX⟩:=hrel;have HB:=AA<|AF hbl AX;by_cases hlt:q<xs.length
  ·have FD:=AA<|bN f hlt;have LE:=az f xs<|q+1;obtain⟨b1,o1,rfl,hx⟩:=HR.out.get q hlt;have hm:xs[q]∈xs:=KV hlt;obtain⟨hb1,hS,p1,n1,c1,p2,n2,c2,p3,n3,c3,k0,k1,k2,k3⟩:=Qp.carry (Go.W.Below.carry AX.below lr) hx;have hsz:=AU hB AX.size;rw[FD.out,Ae]at LE;have CC:=AA<|HH.out _ _ _ _ hm (hbl.alloc<|.cells #[.string xs[q],.slice p1 n1 c1,.slice p2 n2 c2,.slice p3 n3 c3] 108) (AX.alloc hsz _) ⟨p1,n1,c1,p2,n2,c2,p3,n3,c3,rfl,hS⟩ (by rw[Ae,SZ.out];omega);clear hbl AX hx hm hS HH;go_wp2_with fail
   refine CC.out.mono ?_;rintro e w2 ⟨rfl,hb2,hw2⟩;have R:=AA<|AF hb2<|(HB.out.2.alloc hsz _).trans hw2;clear hb2 hw2 CC;go_wp2
   go_roundw
   case rel=>exact⟨q+1,zx,by go_num,by rw[FD.out,<- Bw];exact R.out.1,R.out.2⟩
   case measure=>simp[intOf];omega
  ·obtain rfl:q=xs.length:=zx
   rw[JQ]at hbl;have Ce:=AA<|AF hbl AX;clear hbl AX HB;go_wp2
   go_end0
   exact⟨rfl,EQ.out▸Ce.out.1,Ce.out.2⟩
end Go.P
namespace Go.W
def Pz (S:Bool) (ts:List ByteArray) (tag:List UInt8):ByteArray:=((ba Np++b1 (if S then 1 else 0))++BZ GH ts)++ba tag
end Go.W
namespace Go.P
variable {B b c:Nat}{s:ByteArray}{w:World}
def Z7z {T:Nat}(hT:XN T)(h:Ak T B b s w)(l:List UInt8){g o:Nat}(hg: ∀ j u,(Lib.byteCells l)[j]?=some u->w.cell? ⟨g,o+j,none⟩=some u){cs:Array Value}{t:TypeId}(hgb:AJ w g cs t)(aR:g≠b)(qH:t≠5)(hs:s.size+l.length<1000000000)(hB:B<=w.heap.size):
  Calls prog 82 #[.pointer<|Qb b 0,.slice (Qb g o) l.length c] w fun e w'=>e= .returned (.tuple #[.int .i64 l.length,.nilIface])/\Ak T B b (s++ba l) w'/\Fr B b w w':=by
 obtain⟨i0,hi,hz0,hz1,hz2⟩:=info_parts iZ;have C:=AA<|wZ hT h;have E:=AA<|wV s<|ba l;have EB:AC (Lib.strCells (ba l)=Lib.byteCells l):=⟨by simp[Lib.strCells,Lib.byteCells,ba]⟩;have gH:=hT.2;have hlen:(Lib.strCells s).length+l.length<1000000000:=by rw[Lib.strCells_length];exact hs
 have HG:=AA<|AF hg hgb;clear h hT hg hgb;rw[EB.out]at E;obtain⟨n,hn⟩: ∃ n,AC (l.length=n):=⟨_,⟨rfl⟩⟩;rw[hn.out]at hlen⊢;generalize Lib.strCells s=bs at*;go_in
 go_wp2_with fail
 refine C.out.mono ?_;rintro e w1 ⟨rfl,⟨JY,v,DT,hown,hne⟩,hb1⟩;have G1:=hb1.blk HG.out.2 aR qH;have hnews: ∀ j u,(Lib.byteCells l)[j]?=some u->w1.cell? ((⟨g,o,none⟩:Addr).add j)=some u:=fun j u hj=>by
  rw[Addr.add_lit,G1.cell,<- HG.out.2.cell];exact HG.out.1 j u hj
 obtain⟨va,vc,rfl⟩:=V7 hown;obtain⟨c0,c1,sf⟩:=AJ.two (w:=w1) (L:=b) (e:=T) DT;have hlt:b<w1.heap.size:=AJ.lt (w:=w1) (L:=b) (e:=T) DT;have hsz:=hb1.size;go_wp2_with (at_builtin;go_must (refine wpList_append_own _ rfl _ _ 74 rfl B 5 i0 _ 1 1 underlying74 hi hz0 hz1 hz2 rfl zu _ _ _ rfl hown ⟨g,o,none⟩ n c (Lib.byteCells l) rfl (by rw[Lib.byteCells_length,hn.out];omega) hnews (Lib.byteCells_one l) ?c3 ?c4 ?c5 ?_))
 case c3=>unfold maxLen;omega
 case c4=>omega
 case c5=>omega
 intro v2 w2 FC Dx _;obtain⟨dM,dL,rfl⟩:=V7 FC;have hb2:w2.heap[b]?=some (.cells #[.pointer<|Qb b 0,.slice va bs.length vc] T (0,0)):=by
  rw[Dx.block b hlt fun e=>hne e.symm];exact DT
 obtain⟨d0,d1,UR⟩:=AJ.two (w:=w2) (L:=b) (e:=T) hb2;have EL:(bs++Lib.byteCells l).length=bs.length+n:=by rw[Bq,Lib.byteCells_length,hn.out]
 have R:=AA<|AF (Lib.BuilderAt.put (T:=T) (e:=5) JY hb2 (bs':=bs++Lib.byteCells l) (by rw[EL];exact FC) gH) (Fr.mk ((hb1.below.grown Dx zx fun k hk=>(hown.lt k hk).1).setCell (p:=⟨b,1,none⟩) JY<|.slice dM (bs.length+n) dL) fun k cs t fz hk ht q=>by
  have q1:=hb1.kept k cs t fz hk ht q;have kl:=(IU.1 q1).1;rw[Au _ _ _ _ hk,Dx.block k kl fun e=>Lib.ownBlock_ne hown q1 ht e.symm];exact q1)
 clear c0 c1 sf hown FC Dx hb2 DT hb1 hne C hnews G1 HG;go_wp2
 go_ret2
 exact⟨rfl,Or.inr (by rw[E.out];exact R.out.1),R.out.2⟩
def Z47 (h:Ak 164 B b s w){vs:List Value}{x:ByteArray}(hx:xK vs x)(hs:s.size+(GH x).size<1000000000)(hB:B<=w.heap.size):
  Calls prog 81 #[.pointer<|Qb b 0,.agg vs.toArray] w (Df 164 B b (s++GH x) w):=by
 obtain⟨p1,n1,c1,p2,n2,c2,p3,n3,c3,rfl,UV⟩:=hx;have C:=AA fun o=>uJ Ob (h.alloc o) x hs (by simp;omega);clear h;go_in
 go_wp2_with fail
 refine(C.out _).mono ?_;rintro e w1 ⟨rfl,hb1,Ag⟩;have R:=AA<|AF hb1<|((Fr.refl B b w).alloc hB _).trans Ag;clear hb1 Ag C;go_wp2
 go_end0
 exact⟨rfl,R.out.1,R.out.2⟩
def Zvw:Bj 81:=DL func81 zt rfl
def Zxg {S:Bool}{ts:List ByteArray}{tag:List UInt8}{p:Option Addr}(hB:B<=w.heap.size)(hrow:Ap 4 (Qp B w) p ts)(ht:tag.length=32)(hs:(Pz S ts tag).size<1000000000):
  Calls prog 37 #[.agg<|C8 S (.slice p ts.length c)<|Lib.byteCells tag] w fun e w'=>e= .returned (.string<|Pz S ts tag)/\Bl w w':=by
 have Dw:=G6;obtain⟨CV,Ei⟩: ∃ CV,AC (C8 S (.slice p ts.length c) (Lib.byteCells tag)=CV):=⟨_,⟨rfl⟩⟩;have v0:CV[0]?=some (.bool S):=by rw[<- Ei.out];rfl
 have v1:CV[1]?=some (.slice p ts.length c):=by rw[<- Ei.out];rfl
 have v2:AC (∀ j u,(Lib.byteCells tag)[j]?=some u->CV[2+j]?=some u):=⟨fun j u hj=>by rw[<- Ei.out,C8,Qz,Nat.add_comm 2 j];exact hj⟩;rw[Ei.out];have BN:Ak 164 (w.heap.size+1) (w.heap.size+1) ByteArray.empty ((w.alloc<|.cells CV 114).alloc<|.cells #[.pointer none,.slice none 0 0] 164):=by
  have:=Lib.fresh_isBuilder 164 5<|w.alloc<|.cells CV 114
  simp only[EH]at this;exact this
 have KC:=AA<|(AJ.new w CV 114).alloc<|.cells #[.pointer none,.slice none 0 0] 164;have KB:=AA<|((AQ w.heap.size w).alloc lr<|.cells CV 114).alloc zw<|.cells #[.pointer none,.slice none 0 0] 164;have hsz:(ba Np).size=4:=rfl;have hS1:AC ((ba Np).size+1+(BZ GH ts).size+32<1000000000):=⟨by rw[Pz,Ae,Ae,Ae,E6,Bh tag,ht]at hs;exact hs⟩;have C1:=AA<|KT Ob BN (ba Np) (by have:=hS1.out;simp;omega) zw;have HRW:=AA hrow;have HS:=AA hs;clear hrow hs BN;go_in
 go_wp2_with fail
 refine C1.out.mono ?_;rintro e w1 ⟨rfl,hb1,Ag⟩;rw[show ByteArray.empty++ba Np=ba Np by simp]at hb1;have hs1:AC (w.heap.size+2<=w1.heap.size):=⟨by have:=Ag.size;simpa using this⟩;have c0:=((Ag.blk KC.out zx zu).cell 0).trans v0;have c1:=((Ag.blk KC.out zx zu).cell 1).trans v1;have C2:=AA fun k (hk:k<256)=>Jn Ob hb1 k hk (by have:=hS1.out;omega) (by have:=hs1.out;omega);have W1:=AA Ag;clear C1 hb1 Ag;have HF: ∃ s1,AC (s1=ba Np++b1 (if S then 1 else 0)):=⟨_,⟨rfl⟩⟩;obtain⟨s1,HF⟩:=HF;cases S
 case' false=>
  go_wp2_with fail
  refine(C2.out 0 zu).mono ?_;rw[show ba Np++b1 0=s1 from HF.out.symm]
 case' true=>
  go_wp2_with fail
  refine(C2.out 1 zu).mono ?_;rw[show ba Np++b1 1=s1 from HF.out.symm]
 all_goals
  rintro e w2 ⟨rfl,hb2,hw2⟩;have W2:=AA<|W1.out.trans hw2;have hs2:AC (w.heap.size+2<=w2.heap.size):=⟨by have:=hs1.out;have:=hw2.size;omega⟩;have RX:=((W2.out.blk KC.out zx zu).cell 1).trans v1;have cr:Dy B (w.heap.size+1) w w2:=⟨zx,fun b o hb=>((W2.out.below.cell (p:=⟨b,o,none⟩) (by show b<w.heap.size+1;omega)).trans<|KB.out.cell (p:=⟨b,o,none⟩) (by show b<w.heap.size;omega))⟩;have hq:s1.size=5:=by rw[HF.out,Ae,E6];rfl
  have C3:=AA (Zpf (c:=c) Zvw (first:=#[.pointer<|Qb (w.heap.size+1) 0]) (cap:=#[]) (f:=GH) hb2 (by have:=hS1.out;omega) (HRW.out.carry fun b o x h=>Qp.carry cr h) (by have:=hs2.out;omega) fun u vs x s' hx Kr hfu hlk hsz=>Z47 Kr hlk hsz (by have:=hfu.size;have:=hs2.out;omega));clear c0 c1 C2 hb2 hw2 cr W1;go_wp2_with fail
  refine C3.out.mono ?_;rintro e w3 ⟨rfl,hb3,hw3⟩;have W3:=AA<|W2.out.trans hw3;have hs3:AC (w.heap.size+2<=w3.heap.size):=⟨by have:=hs2.out;have:=hw3.size;omega⟩;have K3:=W3.out.blk KC.out (show w.heap.size≠w.heap.size+1 by omega) zu;have hq3:(s1++BZ GH ts).size=s1.size+(BZ GH ts).size:=Ae _ _;have C4:=AA<|Z7z Ob hb3 tag (g:=w.heap.size) (o:=2) (c:=32) (fun j u hj=>(K3.cell _).trans (v2.out j u hj)) K3 zx zu (by rw[hq3,ht];have:=hS1.out;omega) (by have:=hs3.out;omega);rw[ht]at C4;clear RX C3 hb3 hw3 W2 K3;go_wp2_with fail
  refine C4.out.mono ?_;rintro e w4 ⟨rfl,hb4,hw4⟩;have W4:=AA<|W3.out.trans hw4;have QW:AC (w.heap.size+2<=w4.heap.size):=⟨by have:=hs3.out;have:=hw4.size;omega⟩;rw[HF.out]at hb4;have C5:=AA<|wG hb4 HS.out (by have:=QW.out;omega);clear C4 hb4 hw4 W3;go_wp2_with fail
  refine mq C5.out ?_;rintro w5 Bf;have R:=AA<|KB.out.trans<|(W4.out.below.trans Bf).mono zx;clear Bf C5;go_wp2
  go_ret
  exact⟨rfl,R.out⟩
end Go.P
namespace Go.W
open Go
def xL (i1 i2 i3 i4:Nat) (d1 d2 d3 d4:Bool):List Nat:=(if d1 then []else [i1])++((if d2 then(if d3 then []else [i3])else [i2])++(if d4 then []else [i4]))
def bi (d1 d2 d3 d4:Bool):Nat:=(if d1 then 0 else 1)+(if d2 then 0 else 1)+(if d3 then 0 else 1)+(if d4 then 0 else 1)
def XV (P:Program) (ops:Array Oper) (Q:Exit->Act->World->Prop) (o:Oper) (a:Act) (w:World) (K:Act->World->Prop):Prop:=if Region.wanted o (yielded ops a.tmps)=true then Oper.wp P o a w K Q else K (a.put o.dst undef) w
def Z39 {P:Program}{ops:Array Oper}{Q:Exit->Act->World->Prop}{S:World->Prop}(L:Bool->Bool->Bool->Bool->Array Bool)(i1 i2 i3 i4:Nat)(o1 o2 o3 o4:Oper)(J:Bool->Bool->Bool->Bool->Act->World->Prop)(fuel:Nat)(hS: ∀ d1 d2 d3 d4 a w,J d1 d2 d3 d4 a w->S w)
  (ho1:ops[i1]?=some o1) (EU:ops[i2]?=some o2) (UX:ops[i3]?=some o3) (aM:ops[i4]?=some o4)
  (hr: ∀ d1 d2 d3 d4,(d3=true->d2=true)->(d1 && d3)=false->Region.ready .any ops (L d1 d2 d3 d4)=xL i1 i2 i3 i4 d1 d2 d3 d4)
  (h1: ∀ d2 d3 d4,(L false d2 d3 d4).setIfInBounds i1 true=L true d2 d3 d4) (h2: ∀ d1 d3 d4,(L d1 false d3 d4).setIfInBounds i2 true=L d1 true d3 d4) (h3: ∀ d1 d2 d4,(L d1 d2 false d4).setIfInBounds i3 true=L d1 d2 true d4) (h4: ∀ d1 d2 d3,(L d1 d2 d3 false).setIfInBounds i4 true=L d1 d2 d3 true)
  (s1: ∀ d2 d3 d4 a w,J false d2 d3 d4 a w-> ∀ K,(∀ a' w',J true d2 d3 d4 a' w'->K a' w')->XV P ops Q o1 a w K)
  (s2: ∀ d1 d4 a w,J d1 false false d4 a w-> ∀ K,(∀ a' w',J d1 true false d4 a' w'->K a' w')->XV P ops Q o2 a w K)
  (s3: ∀ d1 d4 a w,J d1 true false d4 a w-> ∀ K,(∀ a' w',J d1 true true d4 a' w'->K a' w')->XV P ops Q o3 a w K)
  (s4: ∀ d1 d2 d3 a w,J d1 d2 d3 false a w-> ∀ K,(∀ a' w',J d1 d2 d3 true a' w'->K a' w')->XV P ops Q o4 a w K)
  (hend: ∀ d4 a w,J true true true d4 a w->wpAnyH P .any ops Q S (fuel+bi true true true d4) (L true true true d4) a w):
  ∀ n d1 d2 d3 d4,bi d1 d2 d3 d4=n->(d3=true->d2=true)-> ∀ a w,J d1 d2 d3 d4 a w->wpAnyH P .any ops Q S (fuel+n) (L d1 d2 d3 d4) a w:=by
 intro n;induction n with
 | zero=>
  intro d1 d2 d3 d4 hn Ea a w hJ;cases d1 <;> cases d2 <;> cases d3 <;> cases d4 <;> first | (exact absurd hn zu) | exact hend true a w hJ
 | succ n ih=>
  intro d1 d2 d3 d4 hn Ea a w hJ;by_cases iD:(d1 && d3)=true
  ·obtain⟨rfl,rfl⟩:=Bool.and_eq_true_iff.1 iD;obtain rfl:=Ea rfl
   have:=hend d4 a w hJ
   rw[hn]at this;exact this
  have iD:(d1 && d3)=false:=by simpa using iD
  have zT:=hr d1 d2 d3 d4 Ea iD;refine⟨fun h0=>?_,fun i hi=>?_⟩
  ·rw[zT]at h0;cases d1 <;> cases d2 <;> cases d3 <;> cases d4 <;> first | (simp[xL]at h0;done) | (simp at iD;done)
  ·rw[zT]at hi;unfold xL at hi;rcases CY.1 hi with hi | hi
   ·cases d1 with
    | true=>cases hi
    | false=>
     obtain rfl:i=i1:=by simpa using hi
     refine wpOp_step ho1 fun K hK=>s1 _ _ _ _ _ hJ K fun a' w' TR=>hK a' w' ⟨hS _ _ _ _ _ _ TR,?_⟩;rw[h1];exact ih _ _ _ _ (by simp[bi]at hn⊢;omega) Ea _ _ TR
   ·rcases CY.1 hi with hi | hi
    ·cases d2 with
     | true=>
      cases d3 with
      | true=>cases hi
      | false=>
       obtain rfl:i=i3:=by simpa using hi
       refine wpOp_step UX fun K hK=>s3 _ _ _ _ hJ K fun a' w' TR=>hK a' w' ⟨hS _ _ _ _ _ _ TR,?_⟩;rw[h3];exact ih _ _ _ _ (by simp[bi]at hn⊢;omega) (fun _=>rfl) _ _ TR
     | false=>
      obtain rfl:i=i2:=by simpa using hi
      obtain rfl:d3=false:=by cases d3 with
       | false=>rfl
       | true=>exact absurd (Ea rfl) zu
      refine wpOp_step EU fun K hK=>s2 _ _ _ _ hJ K fun a' w' TR=>hK a' w' ⟨hS _ _ _ _ _ _ TR,?_⟩;rw[h2];exact ih _ _ _ _ (by simp[bi]at hn⊢;omega) (fun h=>by cases h) _ _ TR
    ·cases d4 with
     | true=>cases hi
     | false=>
      obtain rfl:i=i4:=by simpa using hi
      refine wpOp_step aM fun K hK=>s4 _ _ _ _ _ hJ K fun a' w' TR=>hK a' w' ⟨hS _ _ _ _ _ _ TR,?_⟩;rw[h4];exact ih _ _ _ _ (by simp[bi]at hn⊢;omega) Ea _ _ TR
end Go.W
