import Derived.Test.YtghnjdpgbldlkaaGreatDoorW05
import Derived.Test.YtghnjdpgbldlkaaGreatDoorW09
import Derived.Defers
import Derived.Recover
set_option linter.defProp false
set_option maxRecDepth 100000
set_option maxHeartbeats 8000000
set_option linter.unusedSimpArgs false
open Go.Proofs Go.RowKit Go.W Tryz
namespace Go.W
def ZG (d k:Nat):De T:=if k=2\/k=5 then QC.map fun n=> .mk k (Td n) ByteArray.empty []else if k=6 then KM.map fun n=> .mk k n ByteArray.empty []else if k=7 then(match d with
  | 0=>fun _=> .error 3
  | d+1=>(DI 6<|KH d).map fun x=> .mk k 0 ByteArray.empty x)else if k=1\/k=3\/k=4 then Vp.map fun t=> .mk k 0 t []else fun _=> .error 7
def Yaa (d:Nat)(l:By):KH d l=KM.then (ZG d) l:=by cases d <;> rfl
end Go.W
namespace Go.P
def nI (CL:Ig){d:Nat}(hd:d<=3)(ih: ∀ e,d=e+1->V9 e):V9 d:=by
 intro a w b l Z h;have hb:=h.1.lt;have hgb:=h.2.2;have B0:=AA<|(AQ w.heap.size w).alloc lr<|.cells #[.int .i64 0,.int .i64 0,.string ⟨#[]⟩,.slice none 0 0] 100;have K0:=AA<|(Ac.refl b w).alloc<|.cells #[.int .i64 0,.int .i64 0,.string ⟨#[]⟩,.slice none 0 0] 100;have L0:=AA<|AJ.new w #[.int .i64 0,.int .i64 0,.string ⟨#[]⟩,.slice none 0 0] 100;have C:=AA<|ic (Z.below B0.out)<|h.alloc<|.cells #[.int .i64 0,.int .i64 0,.string ⟨#[]⟩,.slice none 0 0] 100;have TE:=AA<|Yaa d l;have ZZ:=AA Z;clear Z h;go_in
 go_wp2_with fail
 refine C.out.mono ?_;rintro e w1 ⟨AZ,⟨i,hy,hi,rfl⟩ | ⟨k,r1,v,hy,rfl,⟨rfl,hk8⟩,Bg⟩⟩
 ·exact⟨rfl,K0.out.trans AZ,Or.inl ⟨i,TE.out.trans<|De.Ad hy,hi,rfl⟩⟩
 have Y:AC (KH d l=ZG d k r1):=⟨TE.out.trans<|De.then_ok hy⟩;have L1:=AA<|L0.out.of<|AZ.block w.heap.size zw zx;have K1:=AA<|K0.out.trans AZ;have QS:=AA Bg;clear hy AZ Bg C TE;have KA:=AA<|K1.out.alloc<|.cells #[.int .i64 (k:Int),.int .i64 0,.string ⟨#[]⟩,.slice none 0 0] 100;have DA:=AA<|QS.out.alloc<|.cells #[.int .i64 (k:Int),.int .i64 0,.string ⟨#[]⟩,.slice none 0 0] 100;have ZA:=AA<|ZZ.out.keeps KA.out hgb;have Z1:=AA<|ZZ.out.keeps K1.out hgb;have LA:=AA<|AJ.new w1 #[.int .i64 (k:Int),.int .i64 0,.string ⟨#[]⟩,.slice none 0 0] 100;have LR:=AA<|L1.out.alloc<|.cells #[.int .i64 (k:Int),.int .i64 0,.string ⟨#[]⟩,.slice none 0 0] 100;have hs1:w.heap.size<w1.heap.size:=by have:=L1.out.lt;exact this
 have Va:b≠w1.heap.size:=zx
 have Io:Ey (k:Int):=⟨zx,zx⟩;clear L0 L1 K0 K1 QS ZZ B0;have W:((k=2\/k=5)/\ZG d k r1=(QC.map fun n=>T.mk k (Td n) ByteArray.empty []) r1)\/(k=6/\ZG d k r1=(KM.map fun n=>T.mk k n ByteArray.empty []) r1)\/k=7\/((k=1\/k=3\/k=4)/\ZG d k r1=(Vp.map fun t=>T.mk k 0 t []) r1)\/((k=0\/7<k)/\ZG d k r1= .error 7):=by
  unfold ZG;by_cases h1:k=2\/k=5
  ·exact Or.inl ⟨h1,by rw[if_pos h1]⟩
  by_cases h2:k=6
  ·exact Or.inr<|Or.inl ⟨h2,by rw[if_neg h1,if_pos h2]⟩
  by_cases h3:k=7
  ·exact Or.inr<|Or.inr<|Or.inl h3
  by_cases h4:k=1\/k=3\/k=4
  ·exact Or.inr<|Or.inr<|Or.inr<|Or.inl ⟨h4,by rw[if_neg h1,if_neg h2,if_neg h3,if_pos h4]⟩
  ·exact Or.inr<|Or.inr<|Or.inr<|Or.inr ⟨zx,by rw[if_neg h1,if_neg h2,if_neg h3,if_neg h4]⟩
 rcases W with⟨hk,hT⟩ | ⟨hk,hT⟩ | hk | ⟨hk,hT⟩ | ⟨hk,hT⟩
 ·have CN:=AA<|WF ZA.out DA.out;have YT:=AA<|Y.out.trans hT;clear hT Y ih CL;have G:((k:Int)==2)=true\/(((k:Int)==2)=false/\((k:Int)==5)=true):=by simp only[DJ,BK];omega
  rcases G with g | ⟨g,g'⟩;all_goals
   go_wp2_with fail
   refine CN.out.mono ?_;rintro e w2 ⟨hk2,⟨i,hy,hi,rfl⟩ | ⟨n,r2,v,hy,rfl,⟨rfl,hn⟩,Cf⟩⟩
   ·exact⟨rfl,KA.out.trans hk2,Or.inl ⟨i,YT.out.trans<|De.Av hy,hi,rfl⟩⟩
   have CU:=AA<|Zxc n hn;have VN:Ey (Td n):=by unfold Td;split <;> exact⟨zx,zx⟩
   obtain⟨y0,y1,y2,y3,sf⟩:=(LA.out.of<|hk2.block w1.heap.size zw zx).four;obtain⟨z0,z1,z2,z3,sg⟩:=(LR.out.of<|hk2.block w.heap.size (by simp;omega) zx).four;have R:=AA<|AF (YT.out.trans<|De.map_ok hy)<|AF (KA.out.trans hk2) Cf;clear hy hk2 Cf CN;go_wp2_with (go_at_call 300;refine(CU.out _).mono ?_;rintro e w3 ⟨rfl,rfl⟩)
   refine CQ (by simp[results,results297,go_sem,z0,z1,z2,z3];try rfl) rfl ?_;exact⟨(R.out.2.1.Ai _ _ _ zx).r4 lr,Or.inr ⟨_,r2,_,R.out.1,rfl,⟨_,[],rfl,⟨_,rfl,Io,VN,(by decide:(0:Nat)<1000000000),AO.nil⟩,Af.nil _ _⟩,R.out.2.2.of<|(Iz zx).trans<|Au _ _ _ _ zx⟩⟩
 ·have CN:=AA<|ic ZA.out DA.out;have YT:=AA<|Y.out.trans hT;obtain rfl:=hk;clear hT Y ih CL;go_wp2_with fail
  refine CN.out.mono ?_;rintro e w2 ⟨hk2,⟨i,hy,hi,rfl⟩ | ⟨n,r2,v,hy,rfl,⟨rfl,hn⟩,Cf⟩⟩
  ·exact⟨rfl,KA.out.trans hk2,Or.inl ⟨i,YT.out.trans<|De.Av hy,hi,rfl⟩⟩
  have VN:Ey (n:Int):=⟨zx,zx⟩;obtain⟨y0,y1,y2,y3,sf⟩:=(LA.out.of<|hk2.block w1.heap.size zw zx).four;obtain⟨z0,z1,z2,z3,sg⟩:=(LR.out.of<|hk2.block w.heap.size (by simp;omega) zx).four;have R:=AA<|AF (YT.out.trans<|De.map_ok hy)<|AF (KA.out.trans hk2) Cf;clear hy hk2 Cf CN;go_wp2
  refine CQ (by simp[results,results297,go_sem,z0,z1,z2,z3];try rfl) rfl ?_;exact⟨(R.out.2.1.Ai _ _ _ zx).r4 lr,Or.inr ⟨_,r2,_,R.out.1,rfl,⟨_,[],rfl,⟨_,rfl,Io,VN,(by decide:(0:Nat)<1000000000),AO.nil⟩,Af.nil _ _⟩,R.out.2.2.of<|(Iz zx).trans<|Au _ _ _ _ zx⟩⟩
 ·obtain rfl:=hk;cases d with
  | zero=>
   have z3:=fun o=>Aq Z1.out.c3 ((AQ _ w1).alloc lr o);have CR:=AA<|Nu a b (w1.alloc<|.cells #[.int .i64 7,.int .i64 0,.string ⟨#[]⟩,.slice none 0 0] 100) (n:=3) zu;clear CL ih;go_wp2_with fail
   refine mq CR.out ?_;rintro w2 rfl;exact⟨rfl,KA.out,Or.inl ⟨3,Y.out,zu,rfl⟩⟩
  | succ d=>
   have CN:=AA<|Zrx (ih d rfl) ZA.out DA.out;have YT:AC (KH (d+1) l=((DI 6<|KH d).map fun x=>T.mk 7 0 ByteArray.empty x) r1):=⟨Y.out⟩;obtain⟨dz,hdz⟩: ∃ dz,3-(d+1)=dz:=⟨_,rfl⟩;rw[hdz];have g3:((dz:Int)==3)=false:=by rw[BK];omega
   rw[show((3-d:Nat):Int)=(dz:Int)+1 by omega]at CN;have hdz3:dz<3:=zx
   clear Y ih CL hdz;go_wp2_with fail
   refine CN.out.mono ?_;rintro e w2 ⟨hk2,⟨i,hy,hi,rfl⟩ | ⟨xs,r2,v,hy,rfl,⟨F,hR,hN⟩,Cf⟩⟩
   ·exact⟨rfl,KA.out.trans hk2,Or.inl ⟨i,YT.out.trans<|De.Av hy,hi,rfl⟩⟩
   obtain⟨p2,c2,rfl⟩:=AO.form hR;obtain⟨y0,y1,y2,y3,sf⟩:=(LA.out.of<|hk2.block w1.heap.size zw zx).four;obtain⟨z0,z1,z2,z3,sg⟩:=(LR.out.of<|hk2.block w.heap.size (by simp;omega) zx).four;have R:=AA<|AF (YT.out.trans<|De.map_ok hy)<|AF (KA.out.trans hk2)<|AF Cf<|AF hR hN;clear hy hk2 Cf CN hR hN;go_wp2
   refine CQ (by simp[results,results297,go_sem,z0,z1,z2,z3];try rfl) rfl ?_;obtain⟨hY,hK,hD,hR,hN⟩:=R.out;exact⟨(hK.Ai _ _ _ zx).r4 lr,Or.inr ⟨_,r2,_,hY,rfl,⟨_,F,rfl,⟨_,rfl,Io,⟨by show(_:Int)<=0;omega,by show(0:Int)<=_;omega⟩,(by decide:(0:Nat)<1000000000),AO.stable (BH.stable (ty:=AY)<|d+1) _ _ _ _ _ hR fun j hj=>(Iz (by have:=hN.ge j hj;simp at this;omega)).trans (Au _ _ _ _ (by have:=hN.ge j hj;simp at this;show j≠w1.heap.size;omega))⟩,hN.later (by simp;omega) zw⟩,hD.of<|(Iz zx).trans<|Au _ _ _ _ zx⟩⟩
 ·have CN:=AA<|Zvm CL ZA.out DA.out;have YT:=AA<|Y.out.trans hT;clear hT Y ih CL;rcases hk with rfl | rfl | rfl;all_goals
   go_wp2_with fail
   refine CN.out.mono ?_;rintro e w2 ⟨hk2,⟨i,hy,hi,rfl⟩ | ⟨t,r2,v,hy,rfl,⟨rfl,hn⟩,Cf⟩⟩
   ·exact⟨rfl,KA.out.trans hk2,Or.inl ⟨i,YT.out.trans<|De.Av hy,hi,rfl⟩⟩
   obtain⟨y0,y1,y2,y3,sf⟩:=(LA.out.of<|hk2.block w1.heap.size zw zx).four;obtain⟨z0,z1,z2,z3,sg⟩:=(LR.out.of<|hk2.block w.heap.size (by simp;omega) zx).four;have R:=AA<|AF (YT.out.trans<|De.map_ok hy)<|AF (KA.out.trans hk2) Cf;clear hy hk2 Cf CN;go_wp2
   refine CQ (by simp[results,results297,go_sem,z0,z1,z2,z3];try rfl) rfl ?_;exact⟨(R.out.2.1.Ai _ _ _ zx).r4 lr,Or.inr ⟨_,r2,_,R.out.1,rfl,⟨_,[],rfl,⟨_,rfl,Io,⟨by show(_:Int)<=0;omega,by show(0:Int)<=_;omega⟩,hn,AO.nil⟩,Af.nil _ _⟩,R.out.2.2.of<|(Iz zx).trans<|Au _ _ _ _ zx⟩⟩
 ·have z7:=ZA.out.c7;have CR:=AA<|Nu a b (w1.alloc<|.cells #[.int .i64 (k:Int),.int .i64 0,.string ⟨#[]⟩,.slice none 0 0] 100) (n:=7) zu;have YT:=AA<|Y.out.trans hT;have g1:((k:Int)==1)=false:=by rw[BK];omega
  have g2:((k:Int)==2)=false:=by rw[BK];omega
  have g3:((k:Int)==3)=false:=by rw[BK];omega
  have g4:((k:Int)==4)=false:=by rw[BK];omega
  have g5:((k:Int)==5)=false:=by rw[BK];omega
  have g6:((k:Int)==6)=false:=by rw[BK];omega
  have g7:((k:Int)==7)=false:=by rw[BK];omega
  clear hT Y ih CL hk;go_wp2_with fail
  refine mq CR.out ?_;rintro w2 rfl;exact⟨rfl,KA.out,Or.inl ⟨7,YT.out,zu,rfl⟩⟩
def Zvl (CL:Ig): ∀ d,d<=3->V9 d:=by
 have h0:V9 0:=nI CL zx fun e h=>absurd h zx;have h1:V9 1:=nI CL zx fun e h=>by obtain rfl:e=0:=zx;exact @h0
 have h2:V9 2:=nI CL zx fun e h=>by obtain rfl:e=1:=zx;exact @h1
 have h3:V9 3:=nI CL zx fun e h=>by obtain rfl:e=2:=zx;exact @h2
 intro d hd;match d,hd with
 | 0,_=>exact @h0
 | 1,_=>exact @h1
 | 2,_=>exact @h2
 | 3,_=>exact @h3
end Go.P
namespace Go.W
variable {w:World}{L:Nat}{x0 x1 x2 x3 x4 x5 x6 x7 x8:Value}
def bH {k:Nat}(hk:k≠L):(((((((((w.setCell ⟨L,0,none⟩ x0).setCell ⟨L,1,none⟩ x1).setCell ⟨L,2,none⟩ x2).setCell ⟨L,3,none⟩ x3).setCell ⟨L,4,none⟩ x4).setCell ⟨L,5,none⟩ x5).setCell ⟨L,6,none⟩ x6).setCell ⟨L,7,none⟩ x7).setCell ⟨L,8,none⟩ x8).heap[k]?=w.heap[k]?:=by
 iterate 9 rw[Au _ _ _ _ hk]
def Ac.r9 {b:Nat}{w0:World}(h:Ac b w0 w)(hL:w0.heap.size<=L):Ac b w0 (((((((((w.setCell ⟨L,0,none⟩ x0).setCell ⟨L,1,none⟩ x1).setCell ⟨L,2,none⟩ x2).setCell ⟨L,3,none⟩ x3).setCell ⟨L,4,none⟩ x4).setCell ⟨L,5,none⟩ x5).setCell ⟨L,6,none⟩ x6).setCell ⟨L,7,none⟩ x7).setCell ⟨L,8,none⟩ x8):=
 (((((h.r4 hL).Ai _ _ _ hL).Ai _ _ _ hL).Ai _ _ _ hL).Ai _ _ _ hL).Ai _ _ _ hL
end Go.W
namespace Go.P
variable {a:Nat->Addr}{w:World}{b:Nat}{l:By}
def vO (CL:Ig)(Z:Aa a w)(h:Dc w b l):
  Calls prog 273 #[.pointer<|Qb b 0] w (Hg a b (G5 (Bo AY 4) w.heap.size) w<|XP l):=by
 have hb:=h.1.lt;have hgb:=h.2.2;have K0:=AA<|(Ac.refl b w).alloc<|.cells #[.string ⟨#[]⟩,.slice none 0 0] 95;have L0:=AA<|AJ.new w #[.string ⟨#[]⟩,.slice none 0 0] 95;have C:=AA<|Zvm CL (Z.keeps K0.out hgb)<|h.alloc<|.cells #[.string ⟨#[]⟩,.slice none 0 0] 95;have ZZ:=AA Z;have TM:=AA<|@Zvl CL 3 zx;clear Z h CL;go_in
 go_wp2_with fail
 refine C.out.mono ?_;rintro e w1 ⟨AZ,⟨i,hy,hi,rfl⟩ | ⟨t,r1,v,hy,rfl,⟨rfl,ht⟩,Bg⟩⟩
 ·exact⟨rfl,K0.out.trans AZ,Or.inl ⟨i,De.Ad hy,hi,rfl⟩⟩
 have K1:=AA<|K0.out.trans AZ;have Y:=AA<|De.then_ok (g:=fun n=>(DI 6<|KH 3).map fun l=>(⟨n,l⟩:A)) hy;have L1:=AA<|L0.out.of<|AZ.block w.heap.size zw zx;have C2:=AA<|Zrx TM.out (ZZ.out.keeps K1.out hgb) Bg;have hs1:=L1.out.lt;clear hy AZ Bg C L0 K0;go_wp2_with fail
 refine C2.out.mono ?_;rintro e w2 ⟨hk2,⟨i,hy,hi,rfl⟩ | ⟨xs,r2,v,hy,rfl,⟨F,hR,hN⟩,Cf⟩⟩
 ·exact⟨rfl,K1.out.trans hk2,Or.inl ⟨i,Y.out.trans<|De.Av hy,hi,rfl⟩⟩
 obtain⟨p2,c2,rfl⟩:=AO.form hR;obtain⟨z0,z1,sg⟩:=(L1.out.of<|hk2.block w.heap.size hs1 zx).two;have R:=AA<|AF (Y.out.trans<|De.map_ok hy)<|AF (K1.out.trans hk2)<|AF Cf<|AF hR hN;clear hy hk2 Cf hR hN C2 Y;go_wp2_with fail
 refine CQ (by simp[results,results273,go_sem,z0,z1];try rfl) rfl ?_;obtain⟨hY,hK,hD,hR,hN⟩:=R.out;exact⟨hK.r2 lr,Or.inr ⟨_,r2,_,hY,rfl,⟨_,F,rfl,⟨_,rfl,ht,AO.stable (BH.stable (ty:=AY) 4) _ _ _ _ _ hR fun j hj=>lm (by have:=hN.ge j hj;omega)⟩,hN.later zx zw⟩,hD.of<|lm zx⟩⟩
def Z18 (CL:Ig)(Z:Aa a w)(h:Dc w b l):
  Calls prog 299 #[.pointer<|Qb b 0] w (Hg a b (G5 (Ee AY 4) w.heap.size) w<|bG l):=by
 have hb:=h.1.lt;have hgb:=h.2.2;have K0:=AA<|(Ac.refl b w).alloc<|.cells #[.int .i64 0,.int .i64 0,.int .i64 0,.string ⟨#[]⟩,.slice none 0 0,.int .i64 0,.int .i64 0,.string ⟨#[]⟩,.slice none 0 0] 102;have L0:=AA<|AJ.new w #[.int .i64 0,.int .i64 0,.int .i64 0,.string ⟨#[]⟩,.slice none 0 0,.int .i64 0,.int .i64 0,.string ⟨#[]⟩,.slice none 0 0] 102;have C:=AA<|ic (Z.keeps K0.out hgb)<|h.alloc<|.cells #[.int .i64 0,.int .i64 0,.int .i64 0,.string ⟨#[]⟩,.slice none 0 0,.int .i64 0,.int .i64 0,.string ⟨#[]⟩,.slice none 0 0] 102;have ZZ:=AA Z;have TM:=AA<|@Zvl CL 3 zx;clear Z h CL;go_in
 go_wp2_with fail
 refine C.out.mono ?_;rintro e w1 ⟨AZ,⟨i,hy,hi,rfl⟩ | ⟨op,r1,v,hy,rfl,⟨rfl,hop⟩,Bg⟩⟩
 ·exact⟨rfl,K0.out.trans AZ,Or.inl ⟨i,De.Ad hy,hi,rfl⟩⟩
 have K1:=AA<|K0.out.trans AZ;have Y:=AA<|De.then_ok (g:=fun(o:Nat)=>(KH 3).then fun a=>(KH 3).map fun b=>(⟨(o:Int),a,b⟩:G)) hy;have L1:=AA<|L0.out.of<|AZ.block w.heap.size zw zx;have C2:=AA<|TM.out (ZZ.out.keeps K1.out hgb) Bg;have hs1:=L1.out.lt;clear hy AZ Bg C L0 K0;go_wp2_with fail
 refine C2.out.mono ?_;rintro e w2 ⟨hk2,⟨i,hy,hi,rfl⟩ | ⟨x,r2,v,hy,rfl,⟨vs,F,rfl,hQ,hN⟩,Cf⟩⟩
 ·exact⟨rfl,K1.out.trans hk2,Or.inl ⟨i,Y.out.trans<|De.Ad hy,hi,rfl⟩⟩
 obtain⟨p2,c2,rfl⟩:=BH.vals hQ;have K2:=AA<|K1.out.trans hk2;have Y2:=AA<|Y.out.trans<|De.then_ok (g:=fun a=>(KH 3).map fun b=>(⟨(op:Int),a,b⟩:G)) hy;have L2:=AA<|L1.out.of<|hk2.block w.heap.size hs1 zx;have C3:=AA<|TM.out (ZZ.out.keeps K2.out hgb) Cf;have HQ:=AA<|AF hQ hN;have hs2:=hk2.size;clear hy hk2 Cf C2 L1 K1 Y hQ hN;go_wp2_with fail
 refine C3.out.mono ?_;rintro e w3 ⟨hk3,⟨i,hy,hi,rfl⟩ | ⟨y,r3,v,hy,rfl,⟨us,G,rfl,Yw,BI⟩,Ub⟩⟩
 ·exact⟨rfl,K2.out.trans hk3,Or.inl ⟨i,Y2.out.trans<|De.Av hy,hi,rfl⟩⟩
 obtain⟨p3,c3,rfl⟩:=BH.vals Yw;obtain⟨z0,z1,z2,z3,z4,z5,z6,z7,z8,sg⟩:=(L2.out.of<|hk3.block w.heap.size zx zx).nine;have R:=AA<|AF (Y2.out.trans<|De.map_ok hy)<|AF (K2.out.trans hk3)<|AF Ub<|AF (BH.stable (ty:=AY) 4 _ _ _ _ _ HQ.out.1 fun j hj=>hk3.block j (HQ.out.2.lt j hj) (by have:=HQ.out.2.ge j hj;omega))<|AF Yw BI;have hs3:=hk3.size;clear hy hk3 Ub Yw BI C3 Y2;go_wp2_with fail
 refine CQ (by simp[results,results299,go_sem,z0,z1,z2,z3,z4,z5,z6,z7,z8];try rfl) rfl ?_;obtain⟨hY,hK,hD,hA,hB,BI⟩:=R.out;refine⟨hK.r9 lr,Or.inr ⟨_,r3,_,hY,rfl,⟨_,F++G,rfl,⟨_,_,F,G,rfl,⟨by show(_:Int)<=(op:Int);omega,by show(op:Int)<=_;omega⟩,BH.stable (ty:=AY) 4 _ _ _ _ _ hA fun j hj=>bH (by have:=HQ.out.2.ge j hj;omega),BH.stable (ty:=AY) 4 _ _ _ _ _ hB fun j hj=>bH (by have:=BI.ge j hj;omega),rfl⟩,?_⟩,hD.of<|bH zx⟩⟩;exact(HQ.out.2.later (B':=w.heap.size) zx lr).append (BI.later (B':=w2.heap.size) lr zw) zx lr (by simp;omega)
def Zvk (CL:Ig)(Z:Aa a w)(h:Dc w b l):
  Calls prog 292 #[.pointer<|Qb b 0] w (Hg a b (G5 (Cj AY 4) w.heap.size) w<|XO l):=by
 have hb:=h.1.lt;have hgb:=h.2.2;have Dw:=G6;have K0:=AA<|(Ac.refl b w).alloc<|.cells #[.string ⟨#[]⟩,.slice none 0 0,.slice none 0 0,.slice none 0 0] 98;have L0:=AA<|AJ.new w #[.string ⟨#[]⟩,.slice none 0 0,.slice none 0 0,.slice none 0 0] 98;have ea:Bj 273:=DL func273 zt rfl;have eg:Bj 299:=DL func299 zt rfl;have C:=AA (Zi2 (d:=4) (f:=XP) ea (first:=#[.pointer<|Qb b 0]) (cap:=#[]) (m:=4) (Z.keeps K0.out hgb) (h.alloc<|.cells #[.string ⟨#[]⟩,.slice none 0 0,.slice none 0 0,.slice none 0 0] 98) zx fun u r hu=>vO CL hu.2.2 hu.1);have CG:=AA (fun u r (hz:Aa a u) (hd:Dc u b r)=>Zn2 (d:=3) (f:=bG) eg (first:=#[.pointer<|Qb b 0]) (cap:=#[]) (m:=4) hz hd zx fun u r hu=>Z18 CL hu.2.2 hu.1);have ZZ:=AA Z;clear Z h CL ea eg;go_in
 go_wp2_with fail
 refine C.out.mono ?_;rintro e w1 ⟨AZ,⟨i,hy,hi,rfl⟩ | ⟨xs,r1,v,hy,rfl,⟨F,hR,hN⟩,Bg⟩⟩
 ·exact⟨rfl,K0.out.trans AZ,Or.inl ⟨i,De.Ad hy,hi,rfl⟩⟩
 obtain⟨p1,c1,rfl⟩:=AO.form hR;have K1:=AA<|K0.out.trans AZ;have Y:=AA<|De.then_ok (g:=fun l=>(DI 4 bG).map fun g=>(⟨⟨ByteArray.empty,[]⟩,l,g⟩:R)) hy;have L1:=AA<|L0.out.of<|AZ.block w.heap.size zw zx;have C2:=AA<|CG.out _ _ (ZZ.out.keeps K1.out hgb) Bg;have HR:=AA<|AF hR hN;have hs1:=L1.out.lt;clear hy AZ Bg C L0 K0 hR hN CG;go_wp2_with fail
 refine C2.out.mono ?_;rintro e w2 ⟨hk2,⟨i,hy,hi,rfl⟩ | ⟨gs,r2,v,hy,rfl,⟨G,hR,hN⟩,Cf⟩⟩
 ·exact⟨rfl,K1.out.trans hk2,Or.inl ⟨i,Y.out.trans<|De.Av hy,hi,rfl⟩⟩
 obtain⟨p2,c2,rfl⟩:=AO.form hR;obtain⟨z0,z1,z2,z3,sg⟩:=(L1.out.of<|hk2.block w.heap.size hs1 zx).four;have R:=AA<|AF (Y.out.trans<|De.map_ok hy)<|AF (K1.out.trans hk2)<|AF Cf<|AF (MR.stable (ty:=AY) HR.out.1 fun j hj=>hk2.block j (HR.out.2.lt j hj) (by have:=HR.out.2.ge j hj;simp at this;omega))<|AF hR hN;have hs2:=hk2.size;clear hy hk2 Cf hR hN C2 Y;go_wp2_with fail
 refine CQ (by simp[results,results292,go_sem,z0,z1,z2,z3];try rfl) rfl ?_;obtain⟨hY,hK,hD,hA,hB,BI⟩:=R.out;have n1:=HR.out.2;simp only[EH]at n1;refine⟨hK.r4 lr,Or.inr ⟨_,r2,_,hY,rfl,⟨_,[]++(F++G),rfl,⟨_,_,_,[],F,G,rfl,⟨_,rfl,(by decide:(0:Nat)<1000000000),AO.nil⟩,MR.stable (ty:=AY) hA fun j hj=>Iz (by have:=n1.ge j hj;omega),Tj.stable (ty:=AY) hB fun j hj=>Iz (by have:=BI.ge j hj;omega),rfl⟩,?_⟩,hD.of<|Iz zx⟩⟩;exact(n1.later (B':=w.heap.size) zx lr).append (BI.later (B':=w1.heap.size) lr zw) zx lr (by simp;omega)
end Go.P
namespace Go.W
variable {B:Nat}{w:World}{F:List Nat}
def Af.right {G:List Nat}(h:Af B w (F++G)):Af B w G:=⟨(Qy.1 h.once).2.1,fun k hk=>h.ge k (UH _ hk),fun k hk=>h.lt k (UH _ hk)⟩
def Af.left {G:List Nat}(h:Af B w (F++G)):Af B w F:=⟨(Qy.1 h.once).1,fun k hk=>h.ge k (UF _ hk),fun k hk=>h.lt k (UF _ hk)⟩
def Cj.rows {ty:Q8}{d:Nat}{x:R}{v0 v1 v2 v3:Value}(h:Cj ty d w [v0,v1,v2,v3] x F): ∃ Fh Fb Fg,Bo ty d w [v0,v1] x.head Fh/\MR ty d w v2 x.body Fb/\Tj ty d w v3 x.guards Fg/\F=Fh++(Fb++Fg):=by
 obtain⟨hv,bv,gv,Fh,Fb,Fg,e,hh,hb,hg,hF⟩:=h;obtain⟨p,c,rfl⟩:=Bo.vals hh;injection e with e0 e;injection e with e1 e;injection e with e2 e;injection e with e3 e;subst e0 e1 e2 e3;exact⟨Fh,Fb,Fg,hh,hb,hg,hF⟩
end Go.W
namespace Go.P
variable {a:Nat->Addr}{w:World}{b:Nat}{l:By}
def Z46 (CL:Ig)(Z:Aa a w)(h:Dc w b l):
  Calls prog 275 #[.pointer<|Qb b 0] w (Hg a b (G5 (Cj AY 4) w.heap.size) w<|bZ l):=by
 have hb:=h.1.lt;have hgb:=h.2.2;have K0:=AA<|(Ac.refl b w).alloc<|.cells #[.string ⟨#[]⟩,.slice none 0 0,.slice none 0 0,.slice none 0 0] 98;have L0:=AA<|AJ.new w #[.string ⟨#[]⟩,.slice none 0 0,.slice none 0 0,.slice none 0 0] 98;have C:=AA<|vO CL (Z.keeps K0.out hgb)<|h.alloc<|.cells #[.string ⟨#[]⟩,.slice none 0 0,.slice none 0 0,.slice none 0 0] 98;have CB:=AA fun u r (hz:Aa a u) (hd:Dc u b r)=>Zvk CL hz hd;have ZZ:=AA Z;clear Z h CL;go_in
 go_wp2_with fail
 refine C.out.mono ?_;rintro e w1 ⟨AZ,⟨i,hy,hi,rfl⟩ | ⟨x,r1,v,hy,rfl,⟨vs,F,rfl,hQ,hN⟩,Bg⟩⟩
 ·exact⟨rfl,K0.out.trans AZ,Or.inl ⟨i,De.Ad hy,hi,rfl⟩⟩
 obtain⟨p1,c1,rfl⟩:=Bo.vals hQ;have K1:=AA<|K0.out.trans AZ;have Y:=AA<|De.then_ok (g:=fun h=>XO.map fun b=>(⟨h,b.body,b.guards⟩:R)) hy;have L1:=AA<|L0.out.of<|AZ.block w.heap.size zw zx;have HR:=AA<|AF hQ<|AF hN<|AF Bg<|ZZ.out.keeps K1.out hgb;have hs1:=L1.out.lt;clear hy AZ Bg C L0 K0 hQ hN;go_wp2_with fail
 have KA:=AA<|K1.out.alloc<|.cells #[.string x.name,.slice p1 x.terms.length c1] 95;have LA:=AA<|AJ.new w1 #[.string x.name,.slice p1 x.terms.length c1] 95;have LR:=AA<|L1.out.alloc<|.cells #[.string x.name,.slice p1 x.terms.length c1] 95;refine(CB.out _ _ (ZZ.out.keeps KA.out hgb)<|HR.out.2.2.1.alloc _).mono ?_;rintro e w2 ⟨hk2,⟨i,hy,hi,rfl⟩ | ⟨z,r2,v,hy,rfl,⟨us,G,rfl,Yw,BI⟩,Cf⟩⟩
 ·exact⟨rfl,KA.out.trans hk2,Or.inl ⟨i,Y.out.trans<|De.Av hy,hi,rfl⟩⟩
 have Z5:=AA Yw;obtain⟨q0,k0,q1,k1,q2,k2,rfl⟩:=Cj.vals Yw;have hs2:=hk2.size;simp only[EH]at hs2;have LA2:=AA<|LA.out.of<|hk2.block w1.heap.size zw zx;have SG:=AA<|LR.out.of<|hk2.block w.heap.size (by simp;omega) zx;have y0:=fun o=>(LA2.out.alloc o).two.1;have y1:=fun o=>(LA2.out.alloc o).two.2.1;have z0:=fun o=>(SG.out.alloc o).four.1;have z1:=fun o=>(SG.out.alloc o).four.2.1;have z2:=fun o=>(SG.out.alloc o).four.2.2.1;have z3:=fun o=>(SG.out.alloc o).four.2.2.2.1;have z4:=fun o=>(SG.out.alloc o).four.2.2.2.2;have R:=AA<|AF (Y.out.trans<|De.map_ok hy)<|AF (KA.out.trans hk2)<|AF Cf<|AF (Bo.stable (ty:=AY) 4 _ _ _ _ _ HR.out.1 fun j hj=>(hk2.block j (by have:=HR.out.2.1.lt j hj;simp;omega) (by have:=HR.out.2.1.ge j hj;simp at this;omega)).trans (Ah _ _ _<|HR.out.2.1.lt j hj)) BI;clear hy hk2 Cf BI Yw Y KA LA LR K1 L1 CB;go_wp2
 refine CQ (by simp[results,results275,go_sem,z0,z1,z2,z3];try rfl) rfl ?_;obtain⟨hY,hK,hD,hA,BI⟩:=R.out;obtain⟨Fh,Fb,Fg,_,Bf,QX,rfl⟩:=Cj.rows Z5.out;have n1:=HR.out.2.1;have n2:=BI.right;simp only[EH]at n1 n2;have st: ∀ j,j≠w.heap.size->j<w2.heap.size-> ∀ o x0 x1 x2 x3,(((((w2.alloc o).setCell ⟨w.heap.size,0,none⟩ x0).setCell ⟨w.heap.size,1,none⟩ x1).setCell ⟨w.heap.size,2,none⟩ x2).setCell ⟨w.heap.size,3,none⟩ x3).heap[j]?=w2.heap[j]?:=fun j hj hl o x0 x1 x2 x3=>(Iz hj).trans (Ah _ _ _ hl);refine⟨(hK.alloc _).r4 lr,Or.inr ⟨_,r2,_,hY,rfl,⟨_,F++(Fb++Fg),rfl,⟨_,_,_,F,Fb,Fg,rfl,Bo.stable (ty:=AY) 4 _ _ _ _ _ hA fun j hj=>st j (by have:=n1.ge j hj;omega) (by have:=n1.lt j hj;omega) _ _ _ _ _,MR.stable (ty:=AY) Bf fun j hj=>st j (by have:=n2.left.ge j hj;omega) (n2.left.lt j hj) _ _ _ _ _,Tj.stable (ty:=AY) QX fun j hj=>st j (by have:=n2.right.ge j hj;omega) (n2.right.lt j hj) _ _ _ _ _,rfl⟩,?_⟩,hD.of<|st b zx hD.1.lt _ _ _ _ _⟩⟩;exact(n1.later (B':=w.heap.size) zx lr).append (n2.later (B':=w1.heap.size) zx zw) zx lr (by simp;omega)
def Z13 (CL:Ig)(Z:Aa a w)(h:Dc w b l):
  Calls prog 277 #[.pointer<|Qb b 0] w (Hg a b (G5 (Eo AY 4) w.heap.size) w<|ax l):=by
 have hb:=h.1.lt;have hgb:=h.2.2;have Dw:=G6;have K0:=AA<|(Ac.refl b w).alloc<|.cells #[.slice none 0 0] 65;have L0:=AA<|AJ.new w #[.slice none 0 0] 65;have eb:Bj 292:=DL func292 zt rfl;have C:=AA (Zi3 (d:=4) (f:=XO) eb (first:=#[.pointer<|Qb b 0]) (cap:=#[]) (m:=4) (Z.keeps K0.out hgb) (h.alloc<|.cells #[.slice none 0 0] 65) zx fun u r hu=>Zvk CL hu.2.2 hu.1);clear Z h CL eb;go_in
 go_wp2_with fail
 refine C.out.mono ?_;rintro e w1 ⟨AZ,⟨i,hy,hi,rfl⟩ | ⟨xs,r1,v,hy,rfl,⟨F,hR,hN⟩,Bg⟩⟩
 ·exact⟨rfl,K0.out.trans AZ,Or.inl ⟨i,hy,hi,rfl⟩⟩
 obtain⟨p1,c1,rfl⟩:=AO.form hR;obtain⟨z0,sg⟩:=(L0.out.of<|AZ.block w.heap.size zw zx).one;have R:=AA<|AF hy<|AF (K0.out.trans AZ)<|AF Bg<|AF hR hN;clear hy AZ Bg hR hN C;go_wp2
 refine CQ (by simp[results,results277,go_sem,z0];try rfl) rfl ?_;obtain⟨hY,hK,hD,hR,hN⟩:=R.out;simp only[EH]at hN;exact⟨hK.r1 lr,Or.inr ⟨_,r1,_,hY,rfl,⟨_,F,rfl,⟨_,rfl,Rh.stable (ty:=AY) hR fun j hj=>Z5l (by have:=hN.ge j hj;omega)⟩,hN.later zx zw⟩,hD.of<|Z5l zx⟩⟩
def Z11 (CL:Ig)(Z:Aa a w)(h:Dc w b l):
  Calls prog 247 #[.pointer<|Qb b 0] w (Hg a b (G5 (Dq AY 4) w.heap.size) w<|Vy l):=by
 have hb:=h.1.lt;have hgb:=h.2.2;have Dw:=G6;have K0:=AA<|(Ac.refl b w).alloc<|.cells #[.slice none 0 0,.slice none 0 0,.slice none 0 0] 38;have L0:=AA<|AJ.new w #[.slice none 0 0,.slice none 0 0,.slice none 0 0] 38;have ea:Bj 273:=DL func273 zt rfl;have er:Bj 275:=DL func275 zt rfl;have ec:Bj 277:=DL func277 zt rfl;have C:=AA (Zi2 (d:=4) (f:=XP) ea (first:=#[.pointer<|Qb b 0]) (cap:=#[]) (m:=24) (Z.keeps K0.out hgb) (h.alloc<|.cells #[.slice none 0 0,.slice none 0 0,.slice none 0 0] 38) zx fun u r hu=>vO CL hu.2.2 hu.1);have CG:=AA (fun u r (hz:Aa a u) (hd:Dc u b r)=>Zi3 (d:=4) (f:=bZ) er (first:=#[.pointer<|Qb b 0]) (cap:=#[]) (m:=24) hz hd zx fun u r hu=>Z46 CL hu.2.2 hu.1);have CK:=AA (fun u r (hz:Aa a u) (hd:Dc u b r)=>Zn1 (d:=4) (f:=ax) ec (first:=#[.pointer<|Qb b 0]) (cap:=#[]) (m:=24) hz hd zx fun u r hu=>Z13 CL hu.2.2 hu.1);have ZZ:=AA Z;clear Z h CL ea er ec;go_in
 go_wp2_with fail
 refine C.out.mono ?_;rintro e w1 ⟨AZ,⟨i,hy,hi,rfl⟩ | ⟨xs,r1,v,hy,rfl,⟨F,hR,hN⟩,Bg⟩⟩
 ·exact⟨rfl,K0.out.trans AZ,Or.inl ⟨i,De.Ad hy,hi,rfl⟩⟩
 obtain⟨p1,c1,rfl⟩:=AO.form hR;have K1:=AA<|K0.out.trans AZ;have Y:=AA<|De.then_ok (g:=fun f=>(DI 24 bZ).then fun r=>(DI 24 ax).map fun c=>(⟨f,r,c⟩:Bk)) hy;have L1:=AA<|L0.out.of<|AZ.block w.heap.size zw zx;have C2:=AA<|CG.out _ _ (ZZ.out.keeps K1.out hgb) Bg;have HR:=AA<|AF hR hN;have hs1:=L1.out.lt;clear hy AZ Bg C L0 K0 hR hN CG;go_wp2_with fail
 refine C2.out.mono ?_;rintro e w2 ⟨hk2,⟨i,hy,hi,rfl⟩ | ⟨gs,r2,v,hy,rfl,⟨G,hR,hN⟩,Cf⟩⟩
 ·exact⟨rfl,K1.out.trans hk2,Or.inl ⟨i,Y.out.trans<|De.Ad hy,hi,rfl⟩⟩
 obtain⟨p2,c2,rfl⟩:=AO.form hR;have K2:=AA<|K1.out.trans hk2;have Y2:=AA<|Y.out.trans<|De.then_ok (g:=fun r=>(DI 24 ax).map fun c=>(⟨xs,r,c⟩:Bk)) hy;have L2:=AA<|L1.out.of<|hk2.block w.heap.size hs1 zx;have C3:=AA<|CK.out _ _ (ZZ.out.keeps K2.out hgb) Cf;have n1:=HR.out.2;simp only[EH]at n1;have BF:=AA<|AF (MR.stable (ty:=AY) HR.out.1 fun j hj=>hk2.block j (n1.lt j hj) (by have:=n1.ge j hj;omega))<|AF hR hN;have xu:=AA n1;have hs2:=hk2.size;clear hy hk2 Cf C2 L1 K1 Y hR hN HR n1 CK;go_wp2_with fail
 refine C3.out.mono ?_;rintro e w3 ⟨hk3,⟨i,hy,hi,rfl⟩ | ⟨cs,r3,v,hy,rfl,⟨H,hR,hN⟩,Ub⟩⟩
 ·exact⟨rfl,K2.out.trans hk3,Or.inl ⟨i,Y2.out.trans<|De.Av hy,hi,rfl⟩⟩
 obtain⟨p3,c3,rfl⟩:=AO.form hR;obtain⟨z0,z1,z2,sg⟩:=(L2.out.of<|hk3.block w.heap.size zx zx).three;have R:=AA<|AF (Y2.out.trans<|De.map_ok hy)<|AF (K2.out.trans hk3)<|AF Ub<|AF (MR.stable (ty:=AY) BF.out.1 fun j hj=>hk3.block j (by have:=xu.out.lt j hj;omega) (by have:=xu.out.ge j hj;omega))<|AF (Rh.stable (ty:=AY) BF.out.2.1 fun j hj=>hk3.block j (BF.out.2.2.lt j hj) (by have:=BF.out.2.2.ge j hj;omega))<|AF hR hN;have hs3:=hk3.size;clear hy hk3 Ub hR hN C3 Y2;go_wp2
 refine CQ (by simp[results,results247,go_sem,z0,z1,z2];try rfl) rfl ?_;obtain⟨hY,hK,hD,hA,hB,hC,Wv⟩:=R.out;have n1:=xu.out;have n2:=BF.out.2.2;refine⟨hK.r3 lr,Or.inr ⟨_,r3,_,hY,rfl,⟨_,F++(G++H),rfl,⟨_,_,_,F,G,H,rfl,MR.stable (ty:=AY) hA fun j hj=>Rk (by have:=n1.ge j hj;omega),Rh.stable (ty:=AY) hB fun j hj=>Rk (by have:=n2.ge j hj;omega),Xb.stable (ty:=AY) hC fun j hj=>Rk (by have:=Wv.ge j hj;omega),rfl⟩,?_⟩,hD.of<|Rk zx⟩⟩;exact(n1.later (B':=w.heap.size) zx lr).append ((n2.later (B':=w1.heap.size) lr lr).append (Wv.later (B':=w2.heap.size) lr zw) zx lr (by simp;omega)) zx lr (by simp;omega)
end Go.P
namespace Go.W
def Dq.toS {ty:Q8}{d B:Nat}{w:World}{vs:List Value}{x:Bk}{F:List Nat}(h:Dq ty (d+1) w vs x F)(hF: ∀ k,k∈F->k<B):DW B w d vs x:=by
 obtain⟨fv,rv,cv,F1,F2,F3,rfl,h1,h2,h3,rfl⟩:=h;obtain⟨p1,c1,rfl,l1,r1⟩:=MR.JR h1 fun k hk=>hF k (by simp[hk]);obtain⟨p2,c2,rfl,l2,r2⟩:=Rh.JR h2 fun k hk=>hF k (by simp[hk]);obtain⟨p3,c3,rfl,l3,r3⟩:=Xb.JR h3 fun k hk=>hF k (by simp[hk]);exact⟨p1,c1,p2,c2,p3,c3,rfl,l1,r1,l2,r2,l3,r3⟩
end Go.W
namespace Go.P
variable {n:Int}{l:By}{a:Nat->Addr}{w:World}
def Zj5 (v:Value)(w:World):(Instr.typeAssert (.iface 278 v) 20 278 true).run prog w= .ok (.tuple #[v,.bool true]) w:=zt
def Zj7 (b:Nat)(x:Value)(a:Nat->Addr)(hn:n≠0)(w:World)(hc:w.cell? ⟨b,0,none⟩=some x)(hf:w.frozen? ⟨b,0,none⟩=false):CallsD prog 271 #[.pointer<|Qb b 0] (.panicking [{v:= .iface 278<|.agg #[BS a n],recovered:=false}]) w fun e u' w'=>
  e= .returned (.tuple #[])/\u'= .panicking [{v:= .iface 278<|.agg #[BS a n],recovered:=true}]/\w'=(w.alloc<|.cells #[BS a n] 278).setCell ⟨b,0,none⟩ (BS a n):=by
 rw[DC _ hn];have hbl:=Ll hc;refine callsD_of_wpS func271 rfl fun c₀ cs hu=>?_;apply wpS_seq
 apply wpS_region
 simp[wpOpsS,go_sem,recoverD,hu,ntmps271,Exit.thenS,Array.replicate,List.replicate];refine wpS_of_wp ?_;have ta:=Zj5;go_wp2_with fail
 simp[bodyPostS,results,results271]
def Zxv (b:Nat)(w:World):CallsD prog 271 #[.pointer<|Qb b 0] .returning w fun e u' w'=>e= .returned (.tuple #[])/\u'= .returning/\w'=w:=by
 refine callsD_of_wpS func271 rfl fun c₀ cs hu=>?_;apply wpS_seq
 apply wpS_region
 simp[wpOpsS,go_sem,recoverD,hu,ntmps271,Exit.thenS,Array.replicate,List.replicate];refine wpS_of_wp ?_;go_wp2_with fail
 cases c₀;simp_all [bodyPostS,results,results271]
def Znz {α:Type}{f:De α}{e:Int}(h:f l= .error e):JK f l= .error e:=by unfold JK;rw[h]
def Zxf {α:Type}{f:De α}{r:By}{x:α}(h:f l= .ok (x,r)):JK f l=if r=[]then .ok x else .error 7:=by unfold JK;rw[h]
def Zu0 (a:Nat->Addr) (w:World) (Y:Except Int Bk) (e:Ending) (w':World):Prop:=
 Bl w w'/\((∃ n,Y= .error n/\n≠0/\e= .returned (.tuple #[.agg #[.slice none 0 0,.slice none 0 0,.slice none 0 0],BS a n]))\/ ∃ x vs F,Y= .ok x/\e= .returned (.tuple #[.agg vs.toArray,.nilIface])/\Dq AY 4 w' vs x F/\Af w.heap.size w' F)
def Zth:Bj 247:=DL func247 zt rfl
def Zpa (CL:Ig)(Z:Aa a w)(hg:23<=w.heap.size)(hl:l.length<1000000000):
  Calls prog 246 #[.string<|ba l,.func (.func 247) #[] #[]] w (Zu0 a w<|JK Vy l):=by
 have Dw:=G6;have Cb: ∀ args w,(callFunc 247 args).run prog w= .ok (.enter 247 args) w:=Zth;have B0:=AA<|(((AQ w.heap.size w).alloc lr<|.cells #[.slice none 0 0,.slice none 0 0,.slice none 0 0] 38).alloc zw<|.cells #[.nilIface] 56).alloc (by simp;omega)<|.cells #[.string<|ba l] 280;have LR:=AA<|((AJ.new w #[.slice none 0 0,.slice none 0 0,.slice none 0 0] 38).alloc<|.cells #[.nilIface] 56).alloc<|.cells #[.string<|ba l] 280;have LE:=AA<|(AJ.new (w.alloc<|.cells #[.slice none 0 0,.slice none 0 0,.slice none 0 0] 38) #[.nilIface] 56).alloc<|.cells #[.string<|ba l] 280;have LD:=AA<|AJ.new ((w.alloc<|.cells #[.slice none 0 0,.slice none 0 0,.slice none 0 0] 38).alloc<|.cells #[.nilIface] 56) #[.string<|ba l] 280;simp only[EH]at LE LD;have C:=AA<|Z11 CL (Z.below B0.out) (b:=w.heap.size+1+1) (l:=l) ⟨LD.out,hl,zx⟩;have ZZ:=AA Z;clear Z CL LD;go_enter_defers func246,ntmps246
 go_wp2_with fail
 refine C.out.mono ?_;rintro e w1 ⟨AZ,⟨n,hy,hn,rfl⟩ | ⟨x,r,v,hy,rfl,⟨vs,F,rfl,hQ,hN⟩,Bg⟩⟩
 ·have Jw:=LR.out.of<|AZ.block w.heap.size (by simp;omega) zx;have Hu:=LE.out.of<|AZ.block (w.heap.size+1) zw zx;have B1:=AA<|B0.out.trans<|AZ.below (B:=w.heap.size) zx (by simp;omega);obtain⟨y0,sy⟩:=Hu.one;have q0:=AA<|(Jw.alloc<|.cells #[BS a n] 278).away (w.heap.size+1) 0 zx<|BS a n;have q1:=AA<|(Hu.alloc<|.cells #[BS a n] 278).set 0<|BS a n;have q2:=AA<|(B1.out.alloc (by have:=Jw.lt;omega)<|.cells #[BS a n] 278).setCell (p:=⟨w.heap.size+1,0,none⟩) (by show w.heap.size<=w.heap.size+1;omega)<|BS a n;refine Ru (f:=271) (args:=#[.pointer<|Qb (w.heap.size+1) 0]) zw (by simp[go_sem]) ?_;refine(Zj7 _ _ a hn w1 y0<|sy 0).mono ?_;rintro e u' w'' ⟨rfl,rfl,hw⟩;rw[<- hw]at q0 q1 q2;obtain⟨z0,z1,z2,sz⟩:=q0.out.three;obtain⟨x0,sx⟩:=AJ.one (a:=BS a n) q1.out;clear hw;simp[Leaves,settle,results,results246,go_sem,z0,z1,z2,x0];exact⟨q2.out,Or.inl ⟨n,Znz hy,hn,rfl⟩⟩
 ·have HQ:=AA hQ;obtain⟨fv,rv,cv,F1,F2,F3,rfl,h1,h2,h3,hF⟩:=hQ;obtain⟨p1,c1,rfl⟩:=AO.form h1;obtain⟨p2,c2,rfl⟩:=AO.form h2;obtain⟨p3,c3,rfl⟩:=AO.form h3;have Jw:=AA<|LR.out.of<|AZ.block w.heap.size (by simp;omega) zx;have Hu:=AA<|LE.out.of<|AZ.block (w.heap.size+1) zw zx;have B1:=AA<|B0.out.trans<|AZ.below (B:=w.heap.size) zx (by simp;omega);have Y:=AA<|Zxf hy;have HD:=AA Bg;have HN:=AA hN;have Z1:=AA<|ZZ.out.below B1.out;have x0:=fun o=>(Bg.1.alloc o).one.1;have hr:(ba r).toList=[]↔r=[]:=by
   rw[Lr];simp[ba]
  clear h1 h2 h3 hF AZ Bg hN hy C LR LE;by_cases IY:r=[]
  ·have Y1:AC (JK Vy l= .ok x):=⟨by rw[Y.out,if_pos IY]⟩;have g:=hr.2 IY;clear hr IY Y;generalize ba r=s at*;have z0:=fun o=>(Jw.out.alloc o).three.1;have z1:=fun o=>(Jw.out.alloc o).three.2.1;have z2:=fun o=>(Jw.out.alloc o).three.2.2.1;have z3:=fun o=>(Jw.out.alloc o).three.2.2.2;have e0:=fun o=>(Hu.out.alloc o).one.1;have e1:=fun o=>(Hu.out.alloc o).one.2;have q0:=AA<|((((Jw.out.alloc<|.cells #[.slice p1 x.facts.length c1,.slice p2 x.rules.length c2,.slice p3 x.checks.length c3] 38).set 0<|.slice p1 x.facts.length c1).set 1<|.slice p2 x.rules.length c2).set 2<|.slice p3 x.checks.length c3).away (w.heap.size+1) 0 zx .nilIface;have q1:=AA<|((((Hu.out.alloc<|.cells #[.slice p1 x.facts.length c1,.slice p2 x.rules.length c2,.slice p3 x.checks.length c3] 38).away w.heap.size 0 zx<|.slice p1 x.facts.length c1).away w.heap.size 1 zx<|.slice p2 x.rules.length c2).away w.heap.size 2 zx<|.slice p3 x.checks.length c3).set 0 .nilIface;have hs1:=B1.out.size;have q2:=AA<|((((B1.out.alloc hs1<|.cells #[.slice p1 x.facts.length c1,.slice p2 x.rules.length c2,.slice p3 x.checks.length c3] 38).setCell (p:=⟨w.heap.size,0,none⟩) lr<|.slice p1 x.facts.length c1).setCell (p:=⟨w.heap.size,1,none⟩) lr<|.slice p2 x.rules.length c2).setCell (p:=⟨w.heap.size,2,none⟩) lr<|.slice p3 x.checks.length c3).setCell (p:=⟨w.heap.size+1,0,none⟩) (by show w.heap.size<=w.heap.size+1;omega) .nilIface;have q3:AC (∀ j,j∈F->(((((w1.alloc<|.cells #[.slice p1 x.facts.length c1,.slice p2 x.rules.length c2,.slice p3 x.checks.length c3] 38).setCell ⟨w.heap.size,0,none⟩<|.slice p1 x.facts.length c1).setCell ⟨w.heap.size,1,none⟩<|.slice p2 x.rules.length c2).setCell ⟨w.heap.size,2,none⟩<|.slice p3 x.checks.length c3).setCell ⟨w.heap.size+1,0,none⟩ .nilIface).heap[j]?=w1.heap[j]?):=⟨fun j hj=>by
    have g1:=HN.out.ge j hj;have g2:=HN.out.lt j hj;simp at g1;rw[Au _ _ _ _ (by show j≠w.heap.size+1;omega),Rk zx];exact Ah _ _ _ g2⟩
   have q4:AC (Af w.heap.size (((((w1.alloc<|.cells #[.slice p1 x.facts.length c1,.slice p2 x.rules.length c2,.slice p3 x.checks.length c3] 38).setCell ⟨w.heap.size,0,none⟩<|.slice p1 x.facts.length c1).setCell ⟨w.heap.size,1,none⟩<|.slice p2 x.rules.length c2).setCell ⟨w.heap.size,2,none⟩<|.slice p3 x.checks.length c3).setCell ⟨w.heap.size+1,0,none⟩ .nilIface) F):=⟨HN.out.later (by simp;omega) zw⟩;go_wp2_with fail
   clear z0 z1 z2 z3 e0 e1 x0;refine Ru (f:=271) (args:=#[.pointer<|Qb (w.heap.size+1) 0]) zw (by simp[go_sem]) ?_;refine(Zxv _ _).mono ?_;rintro e u' w'' ⟨rfl,rfl,hw⟩;rw[<- hw]at q0 q1 q2 q3 q4;obtain⟨z0,z1,z2,sz⟩:=AJ.three (a:= .slice p1 x.facts.length c1) (b:= .slice p2 x.rules.length c2) (c:= .slice p3 x.checks.length c3) q0.out;obtain⟨x0,sx⟩:=AJ.one (a:= .nilIface) q1.out;clear hw;simp[Leaves,settle,results,results246,go_sem,z0,z1,z2,x0];exact⟨q2.out,Or.inr ⟨x,_,F,Y1.out,rfl,Dq.stable (ty:=AY) 4 _ _ _ _ _ HQ.out q3.out,q4.out⟩⟩
  ·have Y1:AC (JK Vy l= .error 7):=⟨by rw[Y.out,if_neg IY]⟩;have g:(ba r).toList.isEmpty=false:=by rw[List.isEmpty_eq_false_iff];exact fun q=>IY (hr.1 q)
   clear hr IY Y;generalize ba r=s at*;have z7:=fun o=>Aq Z1.out.c7 ((AQ _ w1).alloc lr o);have hs1:=B1.out.size;have CR:=AA<|Nu a (w.heap.size+1+1) (w1.alloc<|.cells #[.slice p1 x.facts.length c1,.slice p2 x.rules.length c2,.slice p3 x.checks.length c3] 38) (n:=7) zu;have QO:=AA<|Hu.out.alloc<|.cells #[.slice p1 x.facts.length c1,.slice p2 x.rules.length c2,.slice p3 x.checks.length c3] 38;have q0:=AA<|((Jw.out.alloc<|.cells #[.slice p1 x.facts.length c1,.slice p2 x.rules.length c2,.slice p3 x.checks.length c3] 38).alloc<|.cells #[BS a 7] 278).away (w.heap.size+1) 0 zx<|BS a 7;have q1:=AA<|(QO.out.alloc<|.cells #[BS a 7] 278).set 0<|BS a 7;have q2:=AA<|((B1.out.alloc hs1<|.cells #[.slice p1 x.facts.length c1,.slice p2 x.rules.length c2,.slice p3 x.checks.length c3] 38).alloc (by simp;omega)<|.cells #[BS a 7] 278).setCell (p:=⟨w.heap.size+1,0,none⟩) (by show w.heap.size<=w.heap.size+1;omega)<|BS a 7;obtain⟨y0,sy⟩:=QO.out.one;go_wp2_with fail
   refine mq CR.out ?_;rintro w2 rfl;refine Ru (f:=271) (args:=#[.pointer<|Qb (w.heap.size+1) 0]) zw (by simp[go_sem]) ?_;refine(Zj7 _ _ a (n:=7) zu _ y0<|sy 0).mono ?_;rintro e u' w'' ⟨rfl,rfl,hw⟩;rw[<- hw]at q0 q1 q2;obtain⟨z0,z1,z2,sz⟩:=q0.out.three;obtain⟨u0,sx⟩:=AJ.one (a:=BS a 7) q1.out;clear hw;simp[Leaves,settle,results,results246,go_sem,z0,z1,z2,u0];exact⟨q2.out,Or.inl ⟨7,Y1.out,zu,rfl⟩⟩
def Zx3 (h:4000<l.length):Tf l= .error 4:=if_pos h
def Ztd (h: ¬ 4000<l.length)(hw:JK Vy l= .error n):Tf l= .error n:=by unfold Tf;rw[if_neg h,hw]
def Z15 {x:Bk}(h: ¬ 4000<l.length)(hw:JK Vy l= .ok x):Tf l=if GV x≠0 then .error (GV x)else .ok x:=by unfold Tf;rw[if_neg h,hw]
def Z16 (V:E8)(CL:Ig)(Z:Aa a w)(hg:23<=w.heap.size)(hl:l.length<1000000000):
  Calls prog 220 #[.string<|ba l] w (Zu0 a w<|Tf l):=by
 have Md:(ba l).size<1000000000:=by rw[Bh];exact hl
 have HS:=AA<|Bh l;have B0:=AA<|(AQ w.heap.size w).alloc lr<|.cells #[.slice none 0 0,.slice none 0 0,.slice none 0 0] 38;have CW:=AA<|Zpa CL (Z.below B0.out) (by simp;omega) hl;have z4:=Z.c4;have hz:=AA Z;clear Z CL;by_cases hb:4000<l.length
 ·have Y:=AA<|Zx3 hb;have g:(4000:Int)<((ba l).size:Int):=by have:=HS.out;omega
  generalize ba l=s at*;have z4':=fun o=>Aq z4 ((AQ _ w).alloc lr o);clear CW z4;go_in
  go_wp2
  go_region
  all_goals
   go_wp2
   refine CQ (by simp[results,results220,go_sem];try rfl) rfl ?_;exact⟨((AQ w.heap.size w).alloc lr _).drew,Or.inl ⟨4,Y.out,zu,rfl⟩⟩
 ·have YE:=AA fun n h=>Ztd (n:=n) hb h;have YO:=AA fun x h=>Z15 (x:=x) hb h;have g: ¬ (4000:Int)<((ba l).size:Int):=by have:=HS.out;omega
  have L0:=AA<|AJ.new w #[.slice none 0 0,.slice none 0 0,.slice none 0 0] 38;clear z4;generalize ba l=s at*;go_in
  go_wp2_with fail
  refine CW.out.mono ?_;rintro e w1 ⟨hb1,⟨n,hy,hn,rfl⟩ | ⟨x,vs,F,hy,rfl,hQ,hN⟩⟩
  ·have Y:=AA<|YE.out n hy;have L1:=AA<|PO L0.out hb1;have B1:=AA<|B0.out.trans<|hb1.mono zw;have z0:=fun o=>(L1.out.alloc o).three.1;have z1:=fun o=>(L1.out.alloc o).three.2.1;have z2:=fun o=>(L1.out.alloc o).three.2.2.1;have z3:=fun o=>(L1.out.alloc o).three.2.2.2;rw[DC _ hn];clear hy hb1 CW YE YO;go_wp2
   refine CQ (by simp[results,results220,go_sem,z0,z1,z2];try rfl) rfl ?_;exact⟨(((B1.out.alloc B1.out.size _).setCell (p:=⟨w.heap.size,0,none⟩) lr _).setCell (p:=⟨w.heap.size,1,none⟩) lr _).setCell (p:=⟨w.heap.size,2,none⟩) lr _,Or.inl ⟨n,Y.out,hn,by rw[DC _ hn]⟩⟩
  ·have Y:=AA<|YO.out x hy;have L1:=AA<|PO L0.out hb1;have B1:=AA<|B0.out.trans<|hb1.mono zw;have hs1:=B1.out.size;have HQ:=AA hQ;have HN:=AA hN;have HS5:=AA<|Dq.toS hQ (B:=w1.heap.size) fun k hk=>hN.lt k hk;obtain⟨fv,rv,cv,F1,F2,F3,rfl,h1,h2,h3,hF⟩:=hQ;obtain⟨p1,c1,rfl⟩:=AO.form h1;obtain⟨p2,c2,rfl⟩:=AO.form h2;obtain⟨p3,c3,rfl⟩:=AO.form h3;have CB:=AA fun u (hu:Bl w1 u)=>nV V ((hz.out.below B1.out).below hu) hu.size (DW.carry HS5.out<|BJ hu lr);have LB:=AA<|AJ.new w1 #[.slice p1 x.facts.length c1,.slice p2 x.rules.length c2,.slice p3 x.checks.length c3] 38;have BB:=AA<|(AQ w1.heap.size w1).alloc lr<|.cells #[.slice p1 x.facts.length c1,.slice p2 x.rules.length c2,.slice p3 x.checks.length c3] 38;clear h1 h2 h3 hF hy hb1 hN CW YE YO HS5;generalize GV x=n at*;go_wp2_with fail
   refine(CB.out _ BB.out).mono ?_;rintro e w2 ⟨rfl,hb2⟩;have B2:=AA<|BB.out.trans<|hb2.mono zw;have SG:=AA<|(L1.out.of<|B2.out.block _ L1.out.lt);have LB2:=AA<|PO LB.out hb2;obtain⟨y0,y1,y2,sy⟩:=LB2.out.three;obtain⟨z0,z1,z2,sz⟩:=SG.out.three;have BW:=AA<|B1.out.trans<|B2.out.mono hs1;clear hb2 CB LB L1;by_cases hn:n=0
   ·rw[hn,Ih];go_wp2
    refine CQ (by simp[results,results220,go_sem,z0,z1,z2];try rfl) rfl ?_;refine⟨((BW.out.setCell (p:=⟨w.heap.size,0,none⟩) lr _).setCell (p:=⟨w.heap.size,1,none⟩) lr _).setCell (p:=⟨w.heap.size,2,none⟩) lr _,Or.inr ⟨x,_,F,by rw[Y.out,if_neg zx],rfl,Dq.stable (ty:=AY) 4 _ _ _ _ _ HQ.out fun j hj=>(Rk (by have:=HN.out.ge j hj;simp at this;omega)).trans (B2.out.block j<|HN.out.lt j hj),HN.out.later zw (by simp;exact B2.out.size)⟩⟩
   ·rw[DC _ hn];go_wp2
    refine CQ (by simp[results,results220,go_sem,z0,z1,z2];try rfl) rfl ?_;exact⟨((BW.out.setCell (p:=⟨w.heap.size,0,none⟩) lr _).setCell (p:=⟨w.heap.size,1,none⟩) lr _).setCell (p:=⟨w.heap.size,2,none⟩) lr _,Or.inl ⟨n,by rw[Y.out,if_pos hn],hn,by rw[DC _ hn]⟩⟩
end Go.P
namespace Go.W
variable {x:Bk}{t:By}
variable {ty:Q8} {d:Nat} {w:World} {vs:List Value} {F:List Nat}
def Hf (ty:Q8) (d:Nat):D9 (ByteArray×Bk):=fun w vs x F=> ∃ vb,vs= .string x.1::vb/\x.1.size<1000000000/\Dq ty d w vb x.2 F
def Dq.vals (h:Dq ty d w vs x F): ∃ p c p' c' p2 c2,vs=[.slice p x.facts.length c,.slice p' x.rules.length c',.slice p2 x.checks.length c2]:=by
 obtain⟨fv,rv,cv,F1,F2,F3,rfl,h1,h2,h3,_⟩:=h;obtain⟨p,c,rfl⟩:=AO.form h1;obtain⟨p',c',rfl⟩:=AO.form h2;obtain⟨p2,c2,rfl⟩:=AO.form h3;exact⟨p,c,p',c',p2,c2,rfl⟩
def Hf.vals {x:ByteArray×Bk}(h:Hf ty d w vs x F): ∃ p c p' c' p2 c2,vs=[.string x.1,.slice p x.2.facts.length c,.slice p' x.2.rules.length c',.slice p2 x.2.checks.length c2]:=by
 obtain⟨vb,rfl,_,h⟩:=h;obtain⟨p,c,p',c',p2,c2,rfl⟩:=Dq.vals h;exact⟨p,c,p',c',p2,c2,rfl⟩
def Hf.stable (d:Nat):IB (Hf ty d):=by
 intro w w' vs x F h k;obtain⟨vb,rfl,h1,h2⟩:=h;exact⟨vb,rfl,h1,Dq.stable d _ _ _ _ _ h2 k⟩
def Hf.one {x:ByteArray×Bk}(h:Hf ty d w vs x F): ∀ u,u∈vs->u.oneCell'=true:=by
 obtain⟨p,c,p',c',p2,c2,rfl⟩:=Hf.vals h;intro u hu;simp at hu;rcases hu with rfl | rfl | rfl | rfl <;> rfl
structure Ch where
 sealed:Bool
 links:List (ByteArray×Bk)
 tag:List UInt8
def bg (t:By):De (ByteArray×Bk):=match Tf t with
 | .error e=>fun _=> .error e
 | .ok x=>fun r=> .ok ((ba t,x),r)
def Zyq {e:Int}(h:Tf t= .error e)(r:By):bg t r= .error e:=by unfold bg;rw[h]
def Z0s (h:Tf t= .ok x)(r:By):bg t r= .ok ((ba t,x),r):=by unfold bg;rw[h]
def TY:De (ByteArray×Bk):=QC.then fun n=>if 4000<n then fun _=> .error 4 else(KI n).then bg
def Np:By:=[119,114,116,49]
def iO (s:Nat) (l:List (ByteArray×Bk)):De Ch:=if l.length=0 then fun _=> .error 7 else(KI 32).map fun t=>⟨s==1,l,t⟩
def ay (s:Nat):De Ch:=if 1<s then fun _=> .error 7 else(DI 8 TY).then (iO s)
def KO:De Ch:=(KI 4).then fun m=>if m≠Np then fun _=> .error 7 else KM.then ay
end Go.W
namespace Go.P
def Z5t:(prog.info? 108).map (fun i=>(i.zero,i.size,i.bytes))=some (some<|.agg #[.string ⟨#[]⟩,.slice none 0 0,.slice none 0 0,.slice none 0 0],4,88):=zt
def Zvq:Jk prog 109 108 4 88:=by
 obtain⟨i0,hi,hz0,hz1,hz2⟩:=info_parts Z5t;exact⟨i0,_,underlying109,hi,hz0,hz1,hz2,rfl,zu,zu⟩
def Zo9 {K d:Nat}(hen:Bj K){first cap:Array Value}{f:De (ByteArray×Bk)}{a:Nat->Addr}{w:World}{b m:Nat}{l:By}(Z:Aa a w)(h:Dc w b l)(hm:m<1000)
  (HC: ∀ u r,Gi a b w u r->Calls prog K (first++cap) u (Hg a b (G5 (Hf AY d) u.heap.size) u<|f r)):
  Calls prog 187 #[.pointer<|Qb b 0,.int .u64 (m:Int),.func (.func K) first cap] w (Hg a b (Px 108 4 (Hf AY d) w.heap.size) w<|DI m f l):=by
 have C:=AA<|WF Z h;have HH:=AA HC;have Cb: ∀ args w,(callFunc K args).run prog w= .ok (.enter K args) w:=hen;have hgb:=h.2.2;have ZZ:=AA Z;have Ep:=h.1.lt;clear HC hen Z h;go_in
 go_wp2_with fail
 refine C.out.mono ?_;rintro e w1 ⟨AZ,⟨i,hy,hi,rfl⟩ | ⟨n,r1,v,hy,rfl,⟨rfl,hn⟩,Bg⟩⟩
 ·exact⟨rfl,AZ,Or.inl ⟨i,De.Ad hy,hi,rfl⟩⟩
 have Y:=AA<|De.then_ok (g:=fun n=>if m<n then fun _=>Except.error 4 else GD f n) hy;have D1:AC (Gi a b w w1 r1):=⟨Bg,AZ,ZZ.out.keeps AZ hgb⟩;clear AZ Bg hy C;by_cases hlt:m<n
 ·have Y4:AC (DI m f l= .error 4):=⟨by rw[DI,Y.out,if_pos hlt]⟩;have g:(m:Int)<(n:Int):=zx
  have z4:=D1.out.2.2.c4;have CR:=AA<|Nu a b w1 (n:=4) zu;clear HH Y;go_wp2_with fail
  refine mq CR.out ?_;rintro w2 rfl;exact⟨rfl,D1.out.2.1,Or.inl ⟨4,Y4.out,zu,rfl⟩⟩
 ·have Y4:AC (DI m f l=GD f n r1):=⟨by rw[DI,Y.out,if_neg hlt]⟩;have g: ¬ (m:Int)<(n:Int):=zx
  clear Y;go_wp2
  go_loopw [8,18] (fun tv iv wr=>Ho 108 4 (Hf AY d) f n (DI m f l) (Gi a b w) w tv iv wr) (fun _ iv _=>n-(intOf iv).toNat)
  case atStart=>exact⟨0,[],r1,[],none,0,zx,rfl,rfl,rfl,AO.nil,Af.nil _ _,by rw[Y4.out];simp[De.map];cases GD f n r1 <;> rfl,D1.out⟩
  case round=>
   obtain⟨q,xs,r,F,p,c,hq,rfl,rfl,Gx,hR,hN,hY,hD⟩:=hrel;by_cases M8:q<n
   ·have HR:=AA hR;have HN:=AA hN;have HY:=AA hY;have HD:=AA hD;have HX:=AA Gx;have CC:=AA<|HH.out _ _ hD;have g2:(q:Int)<(n:Int):=zx
    clear hR hN hY hD Gx HH;go_wp2_with fail
    refine CC.out.mono ?_;rintro e w2 ⟨hk2,⟨i,hy,hi,rfl⟩ | ⟨x,r2,v,hy,rfl,⟨vs,F2,rfl,hQ,BI⟩,Cf⟩⟩
    ·exact⟨rfl,HD.out.2.1.trans hk2,Or.inl ⟨i,Ho.stop M8 HY.out hy,hi,rfl⟩⟩
    obtain⟨p1,c1,p2,c2,p3,c3,rfl⟩:=Hf.vals hQ;have NY:=AA<|Ho.step M8 HY.out hy;have D2:AC (Gi a b w w2 r2):=⟨Cf,HD.out.2.1.trans hk2,HD.out.2.2.keeps hk2 hgb⟩;have hs2:=hk2.size;have hsw:=HD.out.2.1.size;have bF:AC (∀ j,j∈F->j≠b):=⟨fun j hj=>by have:=HN.out.ge j hj;omega⟩;have BF:AC (AO 108 4 (Hf AY d) w2 (.slice p q c) xs F):=⟨AO.stable (Hf.stable (ty:=AY) d) _ _ _ _ _ HR.out fun j hj=>hk2.block j (HN.out.lt j hj) (bF.out j hj)⟩;have HQ:=AA hQ;have KY:AC (Af w.heap.size w2 F2):=⟨BI.later zx lr⟩;have Gv:AC (Af w.heap.size w2 F):=⟨HN.out.later lr zx⟩;have UO:AC (∀ j,j∈F->j∉F2):=⟨fun j hj Ao=>by have:=HN.out.lt j hj;have:=BI.ge j Ao;omega⟩;have Fp:xs.length<100000000:=by rw[HX.out];omega
    clear hQ BI hk2 Cf hy CC HR HY HN;go_wp2_with (at_builtin;go_must (refine MW Zvq rfl (.tmp 20) (.tmp 23) rfl (Hf.stable (ty:=AY) d) (fun _ _ _ _ h=>Hf.one h) w.heap.size (.slice p q c) xs F rfl (AO.stable (Hf.stable (ty:=AY) d) _ _ _ _ _ BF.out fun j hj=>Ah _ _ _ (Gv.out.lt j hj)) w2.heap.size #[.string x.1,.slice p1 x.2.facts.length c1,.slice p2 x.2.rules.length c2,.slice p3 x.2.checks.length c3] 108 (0,0) x F2 rfl (IC _ _) rfl (Hf.stable (ty:=AY) d _ _ _ _ _ HQ.out fun j hj=>Ah _ _ _ (KY.out.lt j hj)) Fp (by simp;omega) (Gv.out.later lr zw) (KY.out.later lr zw) UO.out ?_);intro g3 cap3 w4 F3 AM)
    have R4:=AM.row;rw[HX.out]at R4;have hb4:w4.heap[b]?=w2.heap[b]?:=(AM.same b (by have:=D2.out.1.1.lt;simp;omega) (fun hj=>by have:=Gv.out.ge b hj;omega)).trans<|Ah _ _ _ D2.out.1.1.lt;have K4:=Ac.Qf AM (D2.out.2.1.alloc _) fun j hj=>Gv.out.ge j hj;have D4:AC (Gi a b w w4 r2):=⟨D2.out.1.of hb4,K4,ZZ.out.keeps K4 hgb⟩;try rw[HX.out]
    go_roundw
    case rel=>exact⟨q+1,xs++[x],r2,F3,_,_,zx,by go_num,rfl,by simp[HX.out],R4,AM.new,NY.out,D4.out⟩
    case measure=>simp[intOf];omega
   ·obtain rfl:q=n:=zx
    have Y5:=AA<|Ho.done hY;have g2: ¬ (q:Int)<(q:Int):=zx
    have H5:=AA<|AF hR<|AF hN hD;clear hR hN hY hD HH;go_wp2
    go_ret
    exact⟨H5.out.2.2.2.1,Or.inr ⟨xs,r,_,Y5.out,rfl,⟨F,H5.out.1,H5.out.2.1⟩,H5.out.2.2.1⟩⟩
end Go.P
