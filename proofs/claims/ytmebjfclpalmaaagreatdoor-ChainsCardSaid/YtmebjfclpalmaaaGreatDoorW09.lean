import Derived.Test.YtmebjfclpalmaaaGreatDoorW05
import Derived.Test.YtmebjfclpalmaaaGreatDoorW08
import Derived.Defers
import Derived.Recover
set_option maxRecDepth 100000
set_option maxHeartbeats 8000000
set_option linter.unusedSimpArgs false
open Go.Proofs Go.RowKit Go.W Tryz
namespace Go.W
def Zxf (d k:Nat):De T:=if k=2\/k=5 then Zdv.map fun n=> .mk k (Zez n) ByteArray.empty []else if k=6 then Zf9.map fun n=> .mk k n ByteArray.empty []else if k=7 then(match d with
  | 0=>fun _=> .error 3
  | d+1=>(Zbu 6 (Zfq d)).map fun x=> .mk k 0 ByteArray.empty x)else if k=1\/k=3\/k=4 then Zox.map fun t=> .mk k 0 t []else fun _=> .error 7
theorem Z7l (d:Nat)(l:By):Zfq d l=Zf9.then (Zxf d) l:=by cases d <;> rfl
end Go.W
namespace Go.P
theorem Zi7 (CL:Zbh){d:Nat}(hd:d<=3)(ih: ∀ e,d=e+1->Zee e):Zee d:=by
 intro a w b l Z h;have hb:=h.1.lt;have hgb:=h.2.2;have B0:=Zaa ((Ydb w.heap.size w).alloc lr (.cells #[.int .i64 0,.int .i64 0,.string ⟨#[]⟩,.slice none 0 0] 117));have K0:=Zaa ((Zah.refl b w).alloc (.cells #[.int .i64 0,.int .i64 0,.string ⟨#[]⟩,.slice none 0 0] 117));have L0:=Zaa (Blk.new w #[.int .i64 0,.int .i64 0,.string ⟨#[]⟩,.slice none 0 0] 117);have C:=Zaa (Zkh (Z.below B0.out) (h.alloc (.cells #[.int .i64 0,.int .i64 0,.string ⟨#[]⟩,.slice none 0 0] 117)));have TE:=Zaa (Z7l d l);have ZZ:=Zaa Z;clear Z h;go_in
 go_wp2_with fail
 refine C.out.mono ?_;rintro e w1 ⟨hk1,⟨i,hy,hi,rfl⟩ | ⟨k,r1,v,hy,rfl,⟨rfl,hk8⟩,hd1⟩⟩
 ·exact⟨rfl,K0.out.trans hk1,Or.inl ⟨i,TE.out.trans (De.then_error hy),hi,rfl⟩⟩
 have Y:Box (Zfq d l=Zxf d k r1):=⟨TE.out.trans (De.then_ok hy)⟩;have L1:=Zaa (L0.out.of (hk1.block w.heap.size (by simp) (by omega)));have K1:=Zaa (K0.out.trans hk1);have HD1:=Zaa hd1;clear hy hk1 hd1 C TE;have KA:=Zaa (K1.out.alloc (.cells #[.int .i64 (k:Int),.int .i64 0,.string ⟨#[]⟩,.slice none 0 0] 117));have DA:=Zaa (HD1.out.alloc (.cells #[.int .i64 (k:Int),.int .i64 0,.string ⟨#[]⟩,.slice none 0 0] 117));have ZA:=Zaa (ZZ.out.keeps KA.out hgb);have Z1:=Zaa (ZZ.out.keeps K1.out hgb);have LA:=Zaa (Blk.new w1 #[.int .i64 (k:Int),.int .i64 0,.string ⟨#[]⟩,.slice none 0 0] 117);have LR:=Zaa (L1.out.alloc (.cells #[.int .i64 (k:Int),.int .i64 0,.string ⟨#[]⟩,.slice none 0 0] 117));have hs1:w.heap.size < w1.heap.size:=by have:=L1.out.lt;exact this
 have hbn:b≠w1.heap.size:=by omega
 have hk64:Zlg (k:Int):=⟨by omega,by omega⟩;clear L0 L1 K0 K1 HD1 ZZ B0;have W:((k=2\/k=5)/\Zxf d k r1=(Zdv.map fun n=>T.mk k (Zez n) ByteArray.empty []) r1)\/(k=6/\Zxf d k r1=(Zf9.map fun n=>T.mk k n ByteArray.empty []) r1)\/k=7\/((k=1\/k=3\/k=4)/\Zxf d k r1=(Zox.map fun t=>T.mk k 0 t []) r1)\/((k=0\/7 < k)/\Zxf d k r1= .error 7):=by
  unfold Zxf;by_cases h1:k=2\/k=5
  ·exact Or.inl ⟨h1,by rw[if_pos h1]⟩
  by_cases h2:k=6
  ·exact Or.inr (Or.inl ⟨h2,by rw[if_neg h1,if_pos h2]⟩)
  by_cases h3:k=7
  ·exact Or.inr (Or.inr (Or.inl h3))
  by_cases h4:k=1\/k=3\/k=4
  ·exact Or.inr (Or.inr (Or.inr (Or.inl ⟨h4,by rw[if_neg h1,if_neg h2,if_neg h3,if_pos h4]⟩)))
  ·exact Or.inr (Or.inr (Or.inr (Or.inr ⟨by omega,by rw[if_neg h1,if_neg h2,if_neg h3,if_neg h4]⟩)))
 rcases W with⟨hk,hT⟩ | ⟨hk,hT⟩ | hk | ⟨hk,hT⟩ | ⟨hk,hT⟩
 ·have CN:=Zaa (Zc5 ZA.out DA.out);have YT:=Zaa (Y.out.trans hT);clear hT Y ih CL;have G:((k:Int)==2)=true\/(((k:Int)==2)=false/\((k:Int)==5)=true):=by simp only[Yfb,Ye4];omega
  rcases G with g | ⟨g,g'⟩;all_goals
   go_wp2_with fail
   refine CN.out.mono ?_;rintro e w2 ⟨hk2,⟨i,hy,hi,rfl⟩ | ⟨n,r2,v,hy,rfl,⟨rfl,hn⟩,hd2⟩⟩
   ·exact⟨rfl,KA.out.trans hk2,Or.inl ⟨i,YT.out.trans (De.map_error hy),hi,rfl⟩⟩
   have CU:=Zaa (Zu8 n hn);have hun:Zlg (Zez n):=by unfold Zez;split <;> exact⟨by omega,by omega⟩
   obtain⟨y0,y1,y2,y3,sf⟩:=(LA.out.of (hk2.block w1.heap.size (by simp) (by omega))).four;obtain⟨z0,z1,z2,z3,sg⟩:=(LR.out.of (hk2.block w.heap.size (by simp;omega) (by omega))).four;have R:=Zaa (Yda (YT.out.trans (De.map_ok hy)) (Yda (KA.out.trans hk2) hd2));clear hy hk2 hd2 CN;go_wp2_with (go_at_call 279;refine(CU.out _).mono ?_;rintro e w3 ⟨rfl,rfl⟩)
   refine Ye6 (by simp[results,results273,go_sem,z0,z1,z2,z3];try rfl) rfl ?_;exact⟨(R.out.2.1.setNew _ _ _ (by omega)).r4 lr,Or.inr ⟨_,r2,_,R.out.1,rfl,⟨_,[],rfl,⟨_,rfl,hk64,hun,(by decide:(0:Nat) < 1000000000),Zag.nil⟩,Za7.nil _ _⟩,R.out.2.2.of ((Zch (by omega)).trans (Ydg _ _ _ _ (by omega)))⟩⟩
 ·have CN:=Zaa (Zkh ZA.out DA.out);have YT:=Zaa (Y.out.trans hT);obtain rfl:=hk;clear hT Y ih CL;go_wp2_with fail
  refine CN.out.mono ?_;rintro e w2 ⟨hk2,⟨i,hy,hi,rfl⟩ | ⟨n,r2,v,hy,rfl,⟨rfl,hn⟩,hd2⟩⟩
  ·exact⟨rfl,KA.out.trans hk2,Or.inl ⟨i,YT.out.trans (De.map_error hy),hi,rfl⟩⟩
  have hun:Zlg (n:Int):=⟨by omega,by omega⟩;obtain⟨y0,y1,y2,y3,sf⟩:=(LA.out.of (hk2.block w1.heap.size (by simp) (by omega))).four;obtain⟨z0,z1,z2,z3,sg⟩:=(LR.out.of (hk2.block w.heap.size (by simp;omega) (by omega))).four;have R:=Zaa (Yda (YT.out.trans (De.map_ok hy)) (Yda (KA.out.trans hk2) hd2));clear hy hk2 hd2 CN;go_wp2
  refine Ye6 (by simp[results,results273,go_sem,z0,z1,z2,z3];try rfl) rfl ?_;exact⟨(R.out.2.1.setNew _ _ _ (by omega)).r4 lr,Or.inr ⟨_,r2,_,R.out.1,rfl,⟨_,[],rfl,⟨_,rfl,hk64,hun,(by decide:(0:Nat) < 1000000000),Zag.nil⟩,Za7.nil _ _⟩,R.out.2.2.of ((Zch (by omega)).trans (Ydg _ _ _ _ (by omega)))⟩⟩
 ·obtain rfl:=hk;cases d with
  | zero=>
   have z3:=fun o=>Zab Z1.out.c3 ((Ydb _ w1).alloc lr o);have CR:=Zaa (Zbp a b (w1.alloc (.cells #[.int .i64 7,.int .i64 0,.string ⟨#[]⟩,.slice none 0 0] 117)) (n:=3) (by decide));clear CL ih;go_wp2_with fail
   refine mq CR.out ?_;rintro w2 rfl;exact⟨rfl,KA.out,Or.inl ⟨3,Y.out,by decide,rfl⟩⟩
  | succ d=>
   have CN:=Zaa (Zqo (ih d rfl) ZA.out DA.out);have YT:Box (Zfq (d+1) l=((Zbu 6 (Zfq d)).map fun x=>T.mk 7 0 ByteArray.empty x) r1):=⟨Y.out⟩;obtain⟨dz,hdz⟩: ∃ dz,3 - (d+1)=dz:=⟨_,rfl⟩;rw[hdz];have g3:((dz:Int)==3)=false:=by rw[Ye4];omega
   rw[show((3 - d:Nat):Int)=(dz:Int)+1 by omega]at CN;have hdz3:dz < 3:=by omega
   clear Y ih CL hdz;go_wp2_with fail
   refine CN.out.mono ?_;rintro e w2 ⟨hk2,⟨i,hy,hi,rfl⟩ | ⟨xs,r2,v,hy,rfl,⟨F,hR,hN⟩,hd2⟩⟩
   ·exact⟨rfl,KA.out.trans hk2,Or.inl ⟨i,YT.out.trans (De.map_error hy),hi,rfl⟩⟩
   obtain⟨p2,c2,rfl⟩:=Zag.form hR;obtain⟨y0,y1,y2,y3,sf⟩:=(LA.out.of (hk2.block w1.heap.size (by simp) (by omega))).four;obtain⟨z0,z1,z2,z3,sg⟩:=(LR.out.of (hk2.block w.heap.size (by simp;omega) (by omega))).four;have R:=Zaa (Yda (YT.out.trans (De.map_ok hy)) (Yda (KA.out.trans hk2) (Yda hd2 (Yda hR hN))));clear hy hk2 hd2 CN hR hN;go_wp2
   refine Ye6 (by simp[results,results273,go_sem,z0,z1,z2,z3];try rfl) rfl ?_;obtain⟨hY,hK,hD,hR,hN⟩:=R.out;exact⟨(hK.setNew _ _ _ (by omega)).r4 lr,Or.inr ⟨_,r2,_,hY,rfl,⟨_,F,rfl,⟨_,rfl,hk64,⟨by show(_:Int)<=0;omega,by show(0:Int)<=_;omega⟩,(by decide:(0:Nat) < 1000000000),Zag.stable (Za3.stable (ty:=Zad) (d+1)) _ _ _ _ _ hR fun j hj=>(Zch (by have:=hN.ge j hj;simp at this;omega)).trans (Ydg _ _ _ _ (by have:=hN.ge j hj;simp at this;show j≠w1.heap.size;omega))⟩,hN.later (by simp;omega) (by simp)⟩,hD.of ((Zch (by omega)).trans (Ydg _ _ _ _ (by omega)))⟩⟩
 ·have CN:=Zaa (Ztp CL ZA.out DA.out);have YT:=Zaa (Y.out.trans hT);clear hT Y ih CL;rcases hk with rfl | rfl | rfl;all_goals
   go_wp2_with fail
   refine CN.out.mono ?_;rintro e w2 ⟨hk2,⟨i,hy,hi,rfl⟩ | ⟨t,r2,v,hy,rfl,⟨rfl,hn⟩,hd2⟩⟩
   ·exact⟨rfl,KA.out.trans hk2,Or.inl ⟨i,YT.out.trans (De.map_error hy),hi,rfl⟩⟩
   obtain⟨y0,y1,y2,y3,sf⟩:=(LA.out.of (hk2.block w1.heap.size (by simp) (by omega))).four;obtain⟨z0,z1,z2,z3,sg⟩:=(LR.out.of (hk2.block w.heap.size (by simp;omega) (by omega))).four;have R:=Zaa (Yda (YT.out.trans (De.map_ok hy)) (Yda (KA.out.trans hk2) hd2));clear hy hk2 hd2 CN;go_wp2
   refine Ye6 (by simp[results,results273,go_sem,z0,z1,z2,z3];try rfl) rfl ?_;exact⟨(R.out.2.1.setNew _ _ _ (by omega)).r4 lr,Or.inr ⟨_,r2,_,R.out.1,rfl,⟨_,[],rfl,⟨_,rfl,hk64,⟨by show(_:Int)<=0;omega,by show(0:Int)<=_;omega⟩,hn,Zag.nil⟩,Za7.nil _ _⟩,R.out.2.2.of ((Zch (by omega)).trans (Ydg _ _ _ _ (by omega)))⟩⟩
 ·have z7:=ZA.out.c7;have CR:=Zaa (Zbp a b (w1.alloc (.cells #[.int .i64 (k:Int),.int .i64 0,.string ⟨#[]⟩,.slice none 0 0] 117)) (n:=7) (by decide));have YT:=Zaa (Y.out.trans hT);have g1:((k:Int)==1)=false:=by rw[Ye4];omega
  have g2:((k:Int)==2)=false:=by rw[Ye4];omega
  have g3:((k:Int)==3)=false:=by rw[Ye4];omega
  have g4:((k:Int)==4)=false:=by rw[Ye4];omega
  have g5:((k:Int)==5)=false:=by rw[Ye4];omega
  have g6:((k:Int)==6)=false:=by rw[Ye4];omega
  have g7:((k:Int)==7)=false:=by rw[Ye4];omega
  clear hT Y ih CL hk;go_wp2_with fail
  refine mq CR.out ?_;rintro w2 rfl;exact⟨rfl,KA.out,Or.inl ⟨7,YT.out,by decide,rfl⟩⟩
theorem Zto (CL:Zbh): ∀ d,d<=3->Zee d:=by
 have h0:Zee 0:=Zi7 CL (by omega) fun e h=>absurd h (by omega);have h1:Zee 1:=Zi7 CL (by omega) fun e h=>by obtain rfl:e=0:=(by omega);exact @h0
 have h2:Zee 2:=Zi7 CL (by omega) fun e h=>by obtain rfl:e=1:=(by omega);exact @h1
 have h3:Zee 3:=Zi7 CL (by omega) fun e h=>by obtain rfl:e=2:=(by omega);exact @h2
 intro d hd;match d,hd with
 | 0,_=>exact @h0
 | 1,_=>exact @h1
 | 2,_=>exact @h2
 | 3,_=>exact @h3
end Go.P
namespace Go.W
variable {w:World}{L:Nat}{x0 x1 x2 x3 x4 x5 x6 x7 x8:Value}
theorem Zlr {k:Nat}(hk:k≠L):(((((((((w.setCell ⟨L,0,none⟩ x0).setCell ⟨L,1,none⟩ x1).setCell ⟨L,2,none⟩ x2).setCell ⟨L,3,none⟩ x3).setCell ⟨L,4,none⟩ x4).setCell ⟨L,5,none⟩ x5).setCell ⟨L,6,none⟩ x6).setCell ⟨L,7,none⟩ x7).setCell ⟨L,8,none⟩ x8).heap[k]?=w.heap[k]?:=by
 iterate 9 rw[Ydg _ _ _ _ hk]
theorem Zah.r9 {b:Nat}{w0:World}(h:Zah b w0 w)(hL:w0.heap.size<=L):Zah b w0 (((((((((w.setCell ⟨L,0,none⟩ x0).setCell ⟨L,1,none⟩ x1).setCell ⟨L,2,none⟩ x2).setCell ⟨L,3,none⟩ x3).setCell ⟨L,4,none⟩ x4).setCell ⟨L,5,none⟩ x5).setCell ⟨L,6,none⟩ x6).setCell ⟨L,7,none⟩ x7).setCell ⟨L,8,none⟩ x8):=
 (((((h.r4 hL).setNew _ _ _ hL).setNew _ _ _ hL).setNew _ _ _ hL).setNew _ _ _ hL).setNew _ _ _ hL
end Go.W
namespace Go.P
variable {a:Nat->Addr}{w:World}{b:Nat}{l:By}
theorem Znr (CL:Zbh)(Z:Zao a w)(h:Dc w b l):
  Calls prog 225 #[.pointer (some ⟨b,0,none⟩)] w (Zev a b (Zlh (Zbk Zad 4) w.heap.size) w (Zpl l)):=by
 have hb:=h.1.lt;have hgb:=h.2.2;have K0:=Zaa ((Zah.refl b w).alloc (.cells #[.string ⟨#[]⟩,.slice none 0 0] 112));have L0:=Zaa (Blk.new w #[.string ⟨#[]⟩,.slice none 0 0] 112);have C:=Zaa (Ztp CL (Z.keeps K0.out hgb) (h.alloc (.cells #[.string ⟨#[]⟩,.slice none 0 0] 112)));have ZZ:=Zaa Z;have TM:=Zaa (@Zto CL 3 (by omega));clear Z h CL;go_in
 go_wp2_with fail
 refine C.out.mono ?_;rintro e w1 ⟨hk1,⟨i,hy,hi,rfl⟩ | ⟨t,r1,v,hy,rfl,⟨rfl,ht⟩,hd1⟩⟩
 ·exact⟨rfl,K0.out.trans hk1,Or.inl ⟨i,De.then_error hy,hi,rfl⟩⟩
 have K1:=Zaa (K0.out.trans hk1);have Y:=Zaa (De.then_ok (g:=fun n=>(Zbu 6 (Zfq 3)).map fun l=>(⟨n,l⟩:A)) hy);have L1:=Zaa (L0.out.of (hk1.block w.heap.size (by simp) (by omega)));have C2:=Zaa (Zqo TM.out (ZZ.out.keeps K1.out hgb) hd1);have hs1:=L1.out.lt;clear hy hk1 hd1 C L0 K0;go_wp2_with fail
 refine C2.out.mono ?_;rintro e w2 ⟨hk2,⟨i,hy,hi,rfl⟩ | ⟨xs,r2,v,hy,rfl,⟨F,hR,hN⟩,hd2⟩⟩
 ·exact⟨rfl,K1.out.trans hk2,Or.inl ⟨i,Y.out.trans (De.map_error hy),hi,rfl⟩⟩
 obtain⟨p2,c2,rfl⟩:=Zag.form hR;obtain⟨z0,z1,sg⟩:=(L1.out.of (hk2.block w.heap.size hs1 (by omega))).two;have R:=Zaa (Yda (Y.out.trans (De.map_ok hy)) (Yda (K1.out.trans hk2) (Yda hd2 (Yda hR hN))));clear hy hk2 hd2 hR hN C2 Y;go_wp2_with fail
 refine Ye6 (by simp[results,results225,go_sem,z0,z1];try rfl) rfl ?_;obtain⟨hY,hK,hD,hR,hN⟩:=R.out;exact⟨hK.r2 lr,Or.inr ⟨_,r2,_,hY,rfl,⟨_,F,rfl,⟨_,rfl,ht,Zag.stable (Za3.stable (ty:=Zad) 4) _ _ _ _ _ hR fun j hj=>Zr8 (by have:=hN.ge j hj;omega)⟩,hN.later (by omega) (by simp)⟩,hD.of (Zr8 (by omega))⟩⟩
theorem Z0c (CL:Zbh)(Z:Zao a w)(h:Dc w b l):
  Calls prog 275 #[.pointer (some ⟨b,0,none⟩)] w (Zev a b (Zlh (Zbr Zad 4) w.heap.size) w (Zn2 l)):=by
 have hb:=h.1.lt;have hgb:=h.2.2;have K0:=Zaa ((Zah.refl b w).alloc (.cells #[.int .i64 0,.int .i64 0,.int .i64 0,.string ⟨#[]⟩,.slice none 0 0,.int .i64 0,.int .i64 0,.string ⟨#[]⟩,.slice none 0 0] 119));have L0:=Zaa (Blk.new w #[.int .i64 0,.int .i64 0,.int .i64 0,.string ⟨#[]⟩,.slice none 0 0,.int .i64 0,.int .i64 0,.string ⟨#[]⟩,.slice none 0 0] 119);have C:=Zaa (Zkh (Z.keeps K0.out hgb) (h.alloc (.cells #[.int .i64 0,.int .i64 0,.int .i64 0,.string ⟨#[]⟩,.slice none 0 0,.int .i64 0,.int .i64 0,.string ⟨#[]⟩,.slice none 0 0] 119)));have ZZ:=Zaa Z;have TM:=Zaa (@Zto CL 3 (by omega));clear Z h CL;go_in
 go_wp2_with fail
 refine C.out.mono ?_;rintro e w1 ⟨hk1,⟨i,hy,hi,rfl⟩ | ⟨op,r1,v,hy,rfl,⟨rfl,hop⟩,hd1⟩⟩
 ·exact⟨rfl,K0.out.trans hk1,Or.inl ⟨i,De.then_error hy,hi,rfl⟩⟩
 have K1:=Zaa (K0.out.trans hk1);have Y:=Zaa (De.then_ok (g:=fun(o:Nat)=>(Zfq 3).then fun a=>(Zfq 3).map fun b=>(⟨(o:Int),a,b⟩:G)) hy);have L1:=Zaa (L0.out.of (hk1.block w.heap.size (by simp) (by omega)));have C2:=Zaa (TM.out (ZZ.out.keeps K1.out hgb) hd1);have hs1:=L1.out.lt;clear hy hk1 hd1 C L0 K0;go_wp2_with fail
 refine C2.out.mono ?_;rintro e w2 ⟨hk2,⟨i,hy,hi,rfl⟩ | ⟨x,r2,v,hy,rfl,⟨vs,F,rfl,hQ,hN⟩,hd2⟩⟩
 ·exact⟨rfl,K1.out.trans hk2,Or.inl ⟨i,Y.out.trans (De.then_error hy),hi,rfl⟩⟩
 obtain⟨p2,c2,rfl⟩:=Za3.vals hQ;have K2:=Zaa (K1.out.trans hk2);have Y2:=Zaa (Y.out.trans (De.then_ok (g:=fun a=>(Zfq 3).map fun b=>(⟨(op:Int),a,b⟩:G)) hy));have L2:=Zaa (L1.out.of (hk2.block w.heap.size hs1 (by omega)));have C3:=Zaa (TM.out (ZZ.out.keeps K2.out hgb) hd2);have HQ:=Zaa (Yda hQ hN);have hs2:=hk2.size;clear hy hk2 hd2 C2 L1 K1 Y hQ hN;go_wp2_with fail
 refine C3.out.mono ?_;rintro e w3 ⟨hk3,⟨i,hy,hi,rfl⟩ | ⟨y,r3,v,hy,rfl,⟨us,G,rfl,hQ2,hN2⟩,hd3⟩⟩
 ·exact⟨rfl,K2.out.trans hk3,Or.inl ⟨i,Y2.out.trans (De.map_error hy),hi,rfl⟩⟩
 obtain⟨p3,c3,rfl⟩:=Za3.vals hQ2;obtain⟨z0,z1,z2,z3,z4,z5,z6,z7,z8,sg⟩:=(L2.out.of (hk3.block w.heap.size (by omega) (by omega))).nine;have R:=Zaa (Yda (Y2.out.trans (De.map_ok hy)) (Yda (K2.out.trans hk3) (Yda hd3 (Yda (Za3.stable (ty:=Zad) 4 _ _ _ _ _ HQ.out.1 fun j hj=>hk3.block j (HQ.out.2.lt j hj) (by have:=HQ.out.2.ge j hj;omega)) (Yda hQ2 hN2)))));have hs3:=hk3.size;clear hy hk3 hd3 hQ2 hN2 C3 Y2;go_wp2_with fail
 refine Ye6 (by simp[results,results275,go_sem,z0,z1,z2,z3,z4,z5,z6,z7,z8];try rfl) rfl ?_;obtain⟨hY,hK,hD,hA,hB,hN2⟩:=R.out;refine⟨hK.r9 lr,Or.inr ⟨_,r3,_,hY,rfl,⟨_,F++G,rfl,⟨_,_,F,G,rfl,⟨by show(_:Int)<=(op:Int);omega,by show(op:Int)<=_;omega⟩,Za3.stable (ty:=Zad) 4 _ _ _ _ _ hA fun j hj=>Zlr (by have:=HQ.out.2.ge j hj;omega),Za3.stable (ty:=Zad) 4 _ _ _ _ _ hB fun j hj=>Zlr (by have:=hN2.ge j hj;omega),rfl⟩,?_⟩,hD.of (Zlr (by omega))⟩⟩;exact(HQ.out.2.later (B':=w.heap.size) (by omega) lr).append (hN2.later (B':=w2.heap.size) lr (by simp)) (by omega) lr (by simp;omega)
theorem Ztn (CL:Zbh)(Z:Zao a w)(h:Dc w b l):
  Calls prog 255 #[.pointer (some ⟨b,0,none⟩)] w (Zev a b (Zlh (Zbs Zad 4) w.heap.size) w (Zpp l)):=by
 have hb:=h.1.lt;have hgb:=h.2.2;have hmf:=Zgm;have K0:=Zaa ((Zah.refl b w).alloc (.cells #[.string ⟨#[]⟩,.slice none 0 0,.slice none 0 0,.slice none 0 0] 115));have L0:=Zaa (Blk.new w #[.string ⟨#[]⟩,.slice none 0 0,.slice none 0 0,.slice none 0 0] 115);have ea:Zaq 225:=Zam func225 (by kernel_rfl) rfl;have eg:Zaq 275:=Zam func275 (by kernel_rfl) rfl;have C:=Zaa (Zik (d:=4) (f:=Zpl) ea (first:=#[.pointer (some ⟨b,0,none⟩)]) (cap:=#[]) (m:=4) (Z.keeps K0.out hgb) (h.alloc (.cells #[.string ⟨#[]⟩,.slice none 0 0,.slice none 0 0,.slice none 0 0] 115)) (by omega) fun u r hu=>Znr CL hu.2.2 hu.1);have CG:=Zaa (fun u r (hz:Zao a u) (hd:Dc u b r)=>Zmt (d:=3) (f:=Zn2) eg (first:=#[.pointer (some ⟨b,0,none⟩)]) (cap:=#[]) (m:=4) hz hd (by omega) fun u r hu=>Z0c CL hu.2.2 hu.1);have ZZ:=Zaa Z;clear Z h CL ea eg;go_in
 go_wp2_with fail
 refine C.out.mono ?_;rintro e w1 ⟨hk1,⟨i,hy,hi,rfl⟩ | ⟨xs,r1,v,hy,rfl,⟨F,hR,hN⟩,hd1⟩⟩
 ·exact⟨rfl,K0.out.trans hk1,Or.inl ⟨i,De.then_error hy,hi,rfl⟩⟩
 obtain⟨p1,c1,rfl⟩:=Zag.form hR;have K1:=Zaa (K0.out.trans hk1);have Y:=Zaa (De.then_ok (g:=fun l=>(Zbu 4 Zn2).map fun g=>(⟨⟨ByteArray.empty,[]⟩,l,g⟩:R)) hy);have L1:=Zaa (L0.out.of (hk1.block w.heap.size (by simp) (by omega)));have C2:=Zaa (CG.out _ _ (ZZ.out.keeps K1.out hgb) hd1);have HR:=Zaa (Yda hR hN);have hs1:=L1.out.lt;clear hy hk1 hd1 C L0 K0 hR hN CG;go_wp2_with fail
 refine C2.out.mono ?_;rintro e w2 ⟨hk2,⟨i,hy,hi,rfl⟩ | ⟨gs,r2,v,hy,rfl,⟨G,hR,hN⟩,hd2⟩⟩
 ·exact⟨rfl,K1.out.trans hk2,Or.inl ⟨i,Y.out.trans (De.map_error hy),hi,rfl⟩⟩
 obtain⟨p2,c2,rfl⟩:=Zag.form hR;obtain⟨z0,z1,z2,z3,sg⟩:=(L1.out.of (hk2.block w.heap.size hs1 (by omega))).four;have R:=Zaa (Yda (Y.out.trans (De.map_ok hy)) (Yda (K1.out.trans hk2) (Yda hd2 (Yda (Zeu.stable (ty:=Zad) HR.out.1 fun j hj=>hk2.block j (HR.out.2.lt j hj) (by have:=HR.out.2.ge j hj;simp at this;omega)) (Yda hR hN)))));have hs2:=hk2.size;clear hy hk2 hd2 hR hN C2 Y;go_wp2_with fail
 refine Ye6 (by simp[results,results255,go_sem,z0,z1,z2,z3];try rfl) rfl ?_;obtain⟨hY,hK,hD,hA,hB,hN2⟩:=R.out;have n1:=HR.out.2;simp only[Ydm]at n1;refine⟨hK.r4 lr,Or.inr ⟨_,r2,_,hY,rfl,⟨_,[]++(F++G),rfl,⟨_,_,_,[],F,G,rfl,⟨_,rfl,(by decide:(0:Nat) < 1000000000),Zag.nil⟩,Zeu.stable (ty:=Zad) hA fun j hj=>Zch (by have:=n1.ge j hj;omega),Zfw.stable (ty:=Zad) hB fun j hj=>Zch (by have:=hN2.ge j hj;omega),rfl⟩,?_⟩,hD.of (Zch (by omega))⟩⟩;exact(n1.later (B':=w.heap.size) (by omega) lr).append (hN2.later (B':=w1.heap.size) lr (by simp)) (by omega) lr (by simp;omega)
end Go.P
namespace Go.W
variable {B:Nat}{w:World}{F:List Nat}
theorem Za7.right {G:List Nat}(h:Za7 B w (F++G)):Za7 B w G:=⟨(Yem.1 h.once).2.1,fun k hk=>h.ge k (Yed _ hk),fun k hk=>h.lt k (Yed _ hk)⟩
theorem Za7.left {G:List Nat}(h:Za7 B w (F++G)):Za7 B w F:=⟨(Yem.1 h.once).1,fun k hk=>h.ge k (Yei _ hk),fun k hk=>h.lt k (Yei _ hk)⟩
theorem Zbs.rows {ty:Tys}{d:Nat}{x:R}{v0 v1 v2 v3:Value}(h:Zbs ty d w [v0,v1,v2,v3] x F): ∃ Fh Fb Fg,Zbk ty d w [v0,v1] x.head Fh/\Zeu ty d w v2 x.body Fb/\Zfw ty d w v3 x.guards Fg/\F=Fh++(Fb++Fg):=by
 obtain⟨hv,bv,gv,Fh,Fb,Fg,e,hh,hb,hg,hF⟩:=h;obtain⟨p,c,rfl⟩:=Zbk.vals hh;injection e with e0 e;injection e with e1 e;injection e with e2 e;injection e with e3 e;subst e0 e1 e2 e3;exact⟨Fh,Fb,Fg,hh,hb,hg,hF⟩
end Go.W
namespace Go.P
variable {a:Nat->Addr}{w:World}{b:Nat}{l:By}
theorem Z2x (CL:Zbh)(Z:Zao a w)(h:Dc w b l):
  Calls prog 227 #[.pointer (some ⟨b,0,none⟩)] w (Zev a b (Zlh (Zbs Zad 4) w.heap.size) w (Zw8 l)):=by
 have hb:=h.1.lt;have hgb:=h.2.2;have K0:=Zaa ((Zah.refl b w).alloc (.cells #[.string ⟨#[]⟩,.slice none 0 0,.slice none 0 0,.slice none 0 0] 115));have L0:=Zaa (Blk.new w #[.string ⟨#[]⟩,.slice none 0 0,.slice none 0 0,.slice none 0 0] 115);have C:=Zaa (Znr CL (Z.keeps K0.out hgb) (h.alloc (.cells #[.string ⟨#[]⟩,.slice none 0 0,.slice none 0 0,.slice none 0 0] 115)));have CB:=Zaa (fun u r (hz:Zao a u) (hd:Dc u b r)=>Ztn CL hz hd);have ZZ:=Zaa Z;clear Z h CL;go_in
 go_wp2_with fail
 refine C.out.mono ?_;rintro e w1 ⟨hk1,⟨i,hy,hi,rfl⟩ | ⟨x,r1,v,hy,rfl,⟨vs,F,rfl,hQ,hN⟩,hd1⟩⟩
 ·exact⟨rfl,K0.out.trans hk1,Or.inl ⟨i,De.then_error hy,hi,rfl⟩⟩
 obtain⟨p1,c1,rfl⟩:=Zbk.vals hQ;have K1:=Zaa (K0.out.trans hk1);have Y:=Zaa (De.then_ok (g:=fun h=>Zpp.map fun b=>(⟨h,b.body,b.guards⟩:R)) hy);have L1:=Zaa (L0.out.of (hk1.block w.heap.size (by simp) (by omega)));have HR:=Zaa (Yda hQ (Yda hN (Yda hd1 (ZZ.out.keeps K1.out hgb))));have hs1:=L1.out.lt;clear hy hk1 hd1 C L0 K0 hQ hN;go_wp2_with fail
 have KA:=Zaa (K1.out.alloc (.cells #[.string x.name,.slice p1 x.terms.length c1] 112));have LA:=Zaa (Blk.new w1 #[.string x.name,.slice p1 x.terms.length c1] 112);have LR:=Zaa (L1.out.alloc (.cells #[.string x.name,.slice p1 x.terms.length c1] 112));refine(CB.out _ _ (ZZ.out.keeps KA.out hgb) (HR.out.2.2.1.alloc _)).mono ?_;rintro e w2 ⟨hk2,⟨i,hy,hi,rfl⟩ | ⟨z,r2,v,hy,rfl,⟨us,G,rfl,hQ2,hN2⟩,hd2⟩⟩
 ·exact⟨rfl,KA.out.trans hk2,Or.inl ⟨i,Y.out.trans (De.map_error hy),hi,rfl⟩⟩
 have Z5:=Zaa hQ2;obtain⟨q0,k0,q1,k1,q2,k2,rfl⟩:=Zbs.vals hQ2;have hs2:=hk2.size;simp only[Ydm]at hs2;have LA2:=Zaa (LA.out.of (hk2.block w1.heap.size (by simp) (by omega)));have LR2:=Zaa (LR.out.of (hk2.block w.heap.size (by simp;omega) (by omega)));have y0:=fun o=>(LA2.out.alloc o).two.1;have y1:=fun o=>(LA2.out.alloc o).two.2.1;have z0:=fun o=>(LR2.out.alloc o).four.1;have z1:=fun o=>(LR2.out.alloc o).four.2.1;have z2:=fun o=>(LR2.out.alloc o).four.2.2.1;have z3:=fun o=>(LR2.out.alloc o).four.2.2.2.1;have z4:=fun o=>(LR2.out.alloc o).four.2.2.2.2;have R:=Zaa (Yda (Y.out.trans (De.map_ok hy)) (Yda (KA.out.trans hk2) (Yda hd2 (Yda (Zbk.stable (ty:=Zad) 4 _ _ _ _ _ HR.out.1 fun j hj=>(hk2.block j (by have:=HR.out.2.1.lt j hj;simp;omega) (by have:=HR.out.2.1.ge j hj;simp at this;omega)).trans (Ydf _ _ _ (HR.out.2.1.lt j hj))) hN2))));clear hy hk2 hd2 hN2 hQ2 Y KA LA LR K1 L1 CB;go_wp2
 refine Ye6 (by simp[results,results227,go_sem,z0,z1,z2,z3];try rfl) rfl ?_;obtain⟨hY,hK,hD,hA,hN2⟩:=R.out;obtain⟨Fh,Fb,Fg,_,hb5,hg5,rfl⟩:=Zbs.rows Z5.out;have n1:=HR.out.2.1;have n2:=hN2.right;simp only[Ydm]at n1 n2;have st: ∀ j,j≠w.heap.size->j < w2.heap.size-> ∀ o x0 x1 x2 x3,(((((w2.alloc o).setCell ⟨w.heap.size,0,none⟩ x0).setCell ⟨w.heap.size,1,none⟩ x1).setCell ⟨w.heap.size,2,none⟩ x2).setCell ⟨w.heap.size,3,none⟩ x3).heap[j]?=w2.heap[j]?:=fun j hj hl o x0 x1 x2 x3=>(Zch hj).trans (Ydf _ _ _ hl);refine⟨(hK.alloc _).r4 lr,Or.inr ⟨_,r2,_,hY,rfl,⟨_,F++(Fb++Fg),rfl,⟨_,_,_,F,Fb,Fg,rfl,Zbk.stable (ty:=Zad) 4 _ _ _ _ _ hA fun j hj=>st j (by have:=n1.ge j hj;omega) (by have:=n1.lt j hj;omega) _ _ _ _ _,Zeu.stable (ty:=Zad) hb5 fun j hj=>st j (by have:=n2.left.ge j hj;omega) (n2.left.lt j hj) _ _ _ _ _,Zfw.stable (ty:=Zad) hg5 fun j hj=>st j (by have:=n2.right.ge j hj;omega) (n2.right.lt j hj) _ _ _ _ _,rfl⟩,?_⟩,hD.of (st b (by omega) hD.1.lt _ _ _ _ _)⟩⟩;exact(n1.later (B':=w.heap.size) (by omega) lr).append (n2.later (B':=w1.heap.size) (by omega) (by simp)) (by omega) lr (by simp;omega)
theorem Zz5 (CL:Zbh)(Z:Zao a w)(h:Dc w b l):
  Calls prog 229 #[.pointer (some ⟨b,0,none⟩)] w (Zev a b (Zlh (Zbw Zad 4) w.heap.size) w (Zqm l)):=by
 have hb:=h.1.lt;have hgb:=h.2.2;have hmf:=Zgm;have K0:=Zaa ((Zah.refl b w).alloc (.cells #[.slice none 0 0] 72));have L0:=Zaa (Blk.new w #[.slice none 0 0] 72);have eb:Zaq 255:=Zam func255 (by kernel_rfl) rfl;have C:=Zaa (Zil (d:=4) (f:=Zpp) eb (first:=#[.pointer (some ⟨b,0,none⟩)]) (cap:=#[]) (m:=4) (Z.keeps K0.out hgb) (h.alloc (.cells #[.slice none 0 0] 72)) (by omega) fun u r hu=>Ztn CL hu.2.2 hu.1);clear Z h CL eb;go_in
 go_wp2_with fail
 refine C.out.mono ?_;rintro e w1 ⟨hk1,⟨i,hy,hi,rfl⟩ | ⟨xs,r1,v,hy,rfl,⟨F,hR,hN⟩,hd1⟩⟩
 ·exact⟨rfl,K0.out.trans hk1,Or.inl ⟨i,hy,hi,rfl⟩⟩
 obtain⟨p1,c1,rfl⟩:=Zag.form hR;obtain⟨z0,sg⟩:=(L0.out.of (hk1.block w.heap.size (by simp) (by omega))).one;have R:=Zaa (Yda hy (Yda (K0.out.trans hk1) (Yda hd1 (Yda hR hN))));clear hy hk1 hd1 hR hN C;go_wp2
 refine Ye6 (by simp[results,results229,go_sem,z0];try rfl) rfl ?_;obtain⟨hY,hK,hD,hR,hN⟩:=R.out;simp only[Ydm]at hN;exact⟨hK.r1 lr,Or.inr ⟨_,r1,_,hY,rfl,⟨_,F,rfl,⟨_,rfl,Zhy.stable (ty:=Zad) hR fun j hj=>Z3a (by have:=hN.ge j hj;omega)⟩,hN.later (by omega) (by simp)⟩,hD.of (Z3a (by omega))⟩⟩
theorem Zz3 (CL:Zbh)(Z:Zao a w)(h:Dc w b l):
  Calls prog 193 #[.pointer (some ⟨b,0,none⟩)] w (Zev a b (Zlh (Zbj Zad 4) w.heap.size) w (Zig l)):=by
 have hb:=h.1.lt;have hgb:=h.2.2;have hmf:=Zgm;have K0:=Zaa ((Zah.refl b w).alloc (.cells #[.slice none 0 0,.slice none 0 0,.slice none 0 0] 45));have L0:=Zaa (Blk.new w #[.slice none 0 0,.slice none 0 0,.slice none 0 0] 45);have ea:Zaq 225:=Zam func225 (by kernel_rfl) rfl;have er:Zaq 227:=Zam func227 (by kernel_rfl) rfl;have ec:Zaq 229:=Zam func229 (by kernel_rfl) rfl;have C:=Zaa (Zik (d:=4) (f:=Zpl) ea (first:=#[.pointer (some ⟨b,0,none⟩)]) (cap:=#[]) (m:=24) (Z.keeps K0.out hgb) (h.alloc (.cells #[.slice none 0 0,.slice none 0 0,.slice none 0 0] 45)) (by omega) fun u r hu=>Znr CL hu.2.2 hu.1);have CG:=Zaa (fun u r (hz:Zao a u) (hd:Dc u b r)=>Zil (d:=4) (f:=Zw8) er (first:=#[.pointer (some ⟨b,0,none⟩)]) (cap:=#[]) (m:=24) hz hd (by omega) fun u r hu=>Z2x CL hu.2.2 hu.1);have CK:=Zaa (fun u r (hz:Zao a u) (hd:Dc u b r)=>Zms (d:=4) (f:=Zqm) ec (first:=#[.pointer (some ⟨b,0,none⟩)]) (cap:=#[]) (m:=24) hz hd (by omega) fun u r hu=>Zz5 CL hu.2.2 hu.1);have ZZ:=Zaa Z;clear Z h CL ea er ec;go_in
 go_wp2_with fail
 refine C.out.mono ?_;rintro e w1 ⟨hk1,⟨i,hy,hi,rfl⟩ | ⟨xs,r1,v,hy,rfl,⟨F,hR,hN⟩,hd1⟩⟩
 ·exact⟨rfl,K0.out.trans hk1,Or.inl ⟨i,De.then_error hy,hi,rfl⟩⟩
 obtain⟨p1,c1,rfl⟩:=Zag.form hR;have K1:=Zaa (K0.out.trans hk1);have Y:=Zaa (De.then_ok (g:=fun f=>(Zbu 24 Zw8).then fun r=>(Zbu 24 Zqm).map fun c=>(⟨f,r,c⟩:Bk)) hy);have L1:=Zaa (L0.out.of (hk1.block w.heap.size (by simp) (by omega)));have C2:=Zaa (CG.out _ _ (ZZ.out.keeps K1.out hgb) hd1);have HR:=Zaa (Yda hR hN);have hs1:=L1.out.lt;clear hy hk1 hd1 C L0 K0 hR hN CG;go_wp2_with fail
 refine C2.out.mono ?_;rintro e w2 ⟨hk2,⟨i,hy,hi,rfl⟩ | ⟨gs,r2,v,hy,rfl,⟨G,hR,hN⟩,hd2⟩⟩
 ·exact⟨rfl,K1.out.trans hk2,Or.inl ⟨i,Y.out.trans (De.then_error hy),hi,rfl⟩⟩
 obtain⟨p2,c2,rfl⟩:=Zag.form hR;have K2:=Zaa (K1.out.trans hk2);have Y2:=Zaa (Y.out.trans (De.then_ok (g:=fun r=>(Zbu 24 Zqm).map fun c=>(⟨xs,r,c⟩:Bk)) hy));have L2:=Zaa (L1.out.of (hk2.block w.heap.size hs1 (by omega)));have C3:=Zaa (CK.out _ _ (ZZ.out.keeps K2.out hgb) hd2);have n1:=HR.out.2;simp only[Ydm]at n1;have HR2:=Zaa (Yda (Zeu.stable (ty:=Zad) HR.out.1 fun j hj=>hk2.block j (n1.lt j hj) (by have:=n1.ge j hj;omega)) (Yda hR hN));have HN1:=Zaa n1;have hs2:=hk2.size;clear hy hk2 hd2 C2 L1 K1 Y hR hN HR n1 CK;go_wp2_with fail
 refine C3.out.mono ?_;rintro e w3 ⟨hk3,⟨i,hy,hi,rfl⟩ | ⟨cs,r3,v,hy,rfl,⟨H,hR,hN⟩,hd3⟩⟩
 ·exact⟨rfl,K2.out.trans hk3,Or.inl ⟨i,Y2.out.trans (De.map_error hy),hi,rfl⟩⟩
 obtain⟨p3,c3,rfl⟩:=Zag.form hR;obtain⟨z0,z1,z2,sg⟩:=(L2.out.of (hk3.block w.heap.size (by omega) (by omega))).three;have R:=Zaa (Yda (Y2.out.trans (De.map_ok hy)) (Yda (K2.out.trans hk3) (Yda hd3 (Yda (Zeu.stable (ty:=Zad) HR2.out.1 fun j hj=>hk3.block j (by have:=HN1.out.lt j hj;omega) (by have:=HN1.out.ge j hj;omega)) (Yda (Zhy.stable (ty:=Zad) HR2.out.2.1 fun j hj=>hk3.block j (HR2.out.2.2.lt j hj) (by have:=HR2.out.2.2.ge j hj;omega)) (Yda hR hN))))));have hs3:=hk3.size;clear hy hk3 hd3 hR hN C3 Y2;go_wp2
 refine Ye6 (by simp[results,results193,go_sem,z0,z1,z2];try rfl) rfl ?_;obtain⟨hY,hK,hD,hA,hB,hC,hN3⟩:=R.out;have n1:=HN1.out;have n2:=HR2.out.2.2;refine⟨hK.r3 lr,Or.inr ⟨_,r3,_,hY,rfl,⟨_,F++(G++H),rfl,⟨_,_,_,F,G,H,rfl,Zeu.stable (ty:=Zad) hA fun j hj=>Zfe (by have:=n1.ge j hj;omega),Zhy.stable (ty:=Zad) hB fun j hj=>Zfe (by have:=n2.ge j hj;omega),Zia.stable (ty:=Zad) hC fun j hj=>Zfe (by have:=hN3.ge j hj;omega),rfl⟩,?_⟩,hD.of (Zfe (by omega))⟩⟩;exact(n1.later (B':=w.heap.size) (by omega) lr).append ((n2.later (B':=w1.heap.size) lr lr).append (hN3.later (B':=w2.heap.size) lr (by simp)) (by omega) lr (by simp;omega)) (by omega) lr (by simp;omega)
end Go.P
namespace Go.W
theorem Zbj.toS {ty:Tys}{d B:Nat}{w:World}{vs:List Value}{x:Bk}{F:List Nat}(h:Zbj ty (d+1) w vs x F)(hF: ∀ k,k∈F->k < B):Zbd B w d vs x:=by
 obtain⟨fv,rv,cv,F1,F2,F3,rfl,h1,h2,h3,rfl⟩:=h;obtain⟨p1,c1,rfl,l1,r1⟩:=Zeu.rep h1 fun k hk=>hF k (by simp[hk]);obtain⟨p2,c2,rfl,l2,r2⟩:=Zhy.rep h2 fun k hk=>hF k (by simp[hk]);obtain⟨p3,c3,rfl,l3,r3⟩:=Zia.rep h3 fun k hk=>hF k (by simp[hk]);exact⟨p1,c1,p2,c2,p3,c3,rfl,l1,r1,l2,r2,l3,r3⟩
end Go.W
namespace Go.P
variable {n:Int}{l:By}{a:Nat->Addr}{w:World}
theorem Zjl (v:Value)(w:World):(Instr.typeAssert (.iface 224 v) 20 224 true).run prog w= .ok (.tuple #[v,.bool true]) w:=by kernel_rfl
theorem Zjn (b:Nat)(x:Value)(a:Nat->Addr)(hn:n≠0)(w:World)(hc:w.cell? ⟨b,0,none⟩=some x)(hf:w.frozen? ⟨b,0,none⟩=false):CallsD prog 223 #[.pointer (some ⟨b,0,none⟩)] (.panicking [{v:= .iface 224 (.agg #[Zcm a n]),recovered:=false}]) w fun e u' w'=>
  e= .returned (.tuple #[])/\u'= .panicking [{v:= .iface 224 (.agg #[Zcm a n]),recovered:=true}]/\w'=(w.alloc (.cells #[Zcm a n] 224)).setCell ⟨b,0,none⟩ (Zcm a n):=by
 rw[Zaf _ hn];have hbl:=Zbi hc;refine callsD_of_wpS func223 rfl fun c₀ cs hu=>?_;apply wpS_seq
 apply wpS_region
 simp[wpOpsS,go_sem,recoverD,hu,ntmps223,Exit.thenS,Array.replicate,List.replicate];refine wpS_of_wp ?_;have ta:=Zjl;go_wp2_with fail
 simp[bodyPostS,results,results223]
theorem Zvv (b:Nat)(w:World):CallsD prog 223 #[.pointer (some ⟨b,0,none⟩)] .returning w fun e u' w'=>e= .returned (.tuple #[])/\u'= .returning/\w'=w:=by
 refine callsD_of_wpS func223 rfl fun c₀ cs hu=>?_;apply wpS_seq
 apply wpS_region
 simp[wpOpsS,go_sem,recoverD,hu,ntmps223,Exit.thenS,Array.replicate,List.replicate];refine wpS_of_wp ?_;go_wp2_with fail
 cases c₀;simp_all [bodyPostS,results,results223]
theorem Zmm {α:Type}{f:De α}{e:Int}(h:f l= .error e):Zb1 f l= .error e:=by unfold Zb1;rw[h]
theorem Zvc {α:Type}{f:De α}{r:By}{x:α}(h:f l= .ok (x,r)):Zb1 f l=if r=[]then .ok x else .error 7:=by unfold Zb1;rw[h]
def Zs7 (a:Nat->Addr) (w:World) (Y:Except Int Bk) (e:Ending) (w':World):Prop:=
 Below w.heap.size w w'/\((∃ n,Y= .error n/\n≠0/\e= .returned (.tuple #[.agg #[.slice none 0 0,.slice none 0 0,.slice none 0 0],Zcm a n]))\/ ∃ x vs F,Y= .ok x/\e= .returned (.tuple #[.agg vs.toArray,.nilIface])/\Zbj Zad 4 w' vs x F/\Za7 w.heap.size w' F)
theorem Zr0:Zaq 193:=Zam func193 (by kernel_rfl) rfl
theorem Znu (CL:Zbh)(Z:Zao a w)(hg:23<=w.heap.size)(hl:l.length < 1000000000):
  Calls prog 192 #[.string (ba l),.func (.func 193) #[] #[]] w (Zs7 a w (Zb1 Zig l)):=by
 have hmf:=Zgm;have hen': ∀ args w,(callFunc 193 args).run prog w= .ok (.enter 193 args) w:=Zr0;have B0:=Zaa ((((Ydb w.heap.size w).alloc lr (.cells #[.slice none 0 0,.slice none 0 0,.slice none 0 0] 45)).alloc (by simp) (.cells #[.nilIface] 62)).alloc (by simp;omega) (.cells #[.string (ba l)] 226));have LR:=Zaa (((Blk.new w #[.slice none 0 0,.slice none 0 0,.slice none 0 0] 45).alloc (.cells #[.nilIface] 62)).alloc (.cells #[.string (ba l)] 226));have LE:=Zaa ((Blk.new (w.alloc (.cells #[.slice none 0 0,.slice none 0 0,.slice none 0 0] 45)) #[.nilIface] 62).alloc (.cells #[.string (ba l)] 226));have LD:=Zaa (Blk.new ((w.alloc (.cells #[.slice none 0 0,.slice none 0 0,.slice none 0 0] 45)).alloc (.cells #[.nilIface] 62)) #[.string (ba l)] 226);simp only[Ydm]at LE LD;have C:=Zaa (Zz3 CL (Z.below B0.out) (b:=w.heap.size+1+1) (l:=l) ⟨LD.out,hl,by omega⟩);have ZZ:=Zaa Z;clear Z CL LD;go_enter_defers func192,ntmps192
 go_wp2_with fail
 refine C.out.mono ?_;rintro e w1 ⟨hk1,⟨n,hy,hn,rfl⟩ | ⟨x,r,v,hy,rfl,⟨vs,F,rfl,hQ,hN⟩,hd1⟩⟩
 ·have LR1:=LR.out.of (hk1.block w.heap.size (by simp;omega) (by omega));have LE1:=LE.out.of (hk1.block (w.heap.size+1) (by simp) (by omega));have B1:=Zaa (B0.out.trans (hk1.below (B:=w.heap.size) (by omega) (by simp;omega)));obtain⟨y0,sy⟩:=LE1.one;have q0:=Zaa ((LR1.alloc (.cells #[Zcm a n] 224)).away (w.heap.size+1) 0 (by omega) (Zcm a n));have q1:=Zaa ((LE1.alloc (.cells #[Zcm a n] 224)).set 0 (Zcm a n));have q2:=Zaa ((B1.out.alloc (by have:=LR1.lt;omega) (.cells #[Zcm a n] 224)).setCell (p:=⟨w.heap.size+1,0,none⟩) (by show w.heap.size<=w.heap.size+1;omega) (Zcm a n));refine Yfo (f:=223) (args:=#[.pointer (some ⟨w.heap.size+1,0,none⟩)]) (by simp) (by simp[go_sem]) ?_;refine(Zjn _ _ a hn w1 y0 (sy 0)).mono ?_;rintro e u' w'' ⟨rfl,rfl,hw⟩;rw[<- hw]at q0 q1 q2;obtain⟨z0,z1,z2,sz⟩:=q0.out.three;obtain⟨x0,sx⟩:=Blk.one (a:=Zcm a n) q1.out;clear hw;simp[Leaves,settle,results,results192,go_sem,z0,z1,z2,x0];exact⟨q2.out,Or.inl ⟨n,Zmm hy,hn,rfl⟩⟩
 ·have HQ:=Zaa hQ;obtain⟨fv,rv,cv,F1,F2,F3,rfl,h1,h2,h3,hF⟩:=hQ;obtain⟨p1,c1,rfl⟩:=Zag.form h1;obtain⟨p2,c2,rfl⟩:=Zag.form h2;obtain⟨p3,c3,rfl⟩:=Zag.form h3;have LR1:=Zaa (LR.out.of (hk1.block w.heap.size (by simp;omega) (by omega)));have LE1:=Zaa (LE.out.of (hk1.block (w.heap.size+1) (by simp) (by omega)));have B1:=Zaa (B0.out.trans (hk1.below (B:=w.heap.size) (by omega) (by simp;omega)));have Y:=Zaa (Zvc hy);have HD:=Zaa hd1;have HN:=Zaa hN;have Z1:=Zaa (ZZ.out.below B1.out);have x0:=fun o=>(hd1.1.alloc o).one.1;have hr:(ba r).toList=[]↔r=[]:=by
   rw[Yd3];simp[ba]
  clear h1 h2 h3 hF hk1 hd1 hN hy C LR LE;by_cases hr0:r=[]
  ·have Y1:Box (Zb1 Zig l= .ok x):=⟨by rw[Y.out,if_pos hr0]⟩;have g:=hr.2 hr0;clear hr hr0 Y;generalize ba r=s at*;have z0:=fun o=>(LR1.out.alloc o).three.1;have z1:=fun o=>(LR1.out.alloc o).three.2.1;have z2:=fun o=>(LR1.out.alloc o).three.2.2.1;have z3:=fun o=>(LR1.out.alloc o).three.2.2.2;have e0:=fun o=>(LE1.out.alloc o).one.1;have e1:=fun o=>(LE1.out.alloc o).one.2;have q0:=Zaa (((((LR1.out.alloc (.cells #[.slice p1 x.facts.length c1,.slice p2 x.rules.length c2,.slice p3 x.checks.length c3] 45)).set 0 (.slice p1 x.facts.length c1)).set 1 (.slice p2 x.rules.length c2)).set 2 (.slice p3 x.checks.length c3)).away (w.heap.size+1) 0 (by omega) .nilIface);have q1:=Zaa (((((LE1.out.alloc (.cells #[.slice p1 x.facts.length c1,.slice p2 x.rules.length c2,.slice p3 x.checks.length c3] 45)).away w.heap.size 0 (by omega) (.slice p1 x.facts.length c1)).away w.heap.size 1 (by omega) (.slice p2 x.rules.length c2)).away w.heap.size 2 (by omega) (.slice p3 x.checks.length c3)).set 0 .nilIface);have hs1:=B1.out.size;have q2:=Zaa (((((B1.out.alloc hs1 (.cells #[.slice p1 x.facts.length c1,.slice p2 x.rules.length c2,.slice p3 x.checks.length c3] 45)).setCell (p:=⟨w.heap.size,0,none⟩) lr (.slice p1 x.facts.length c1)).setCell (p:=⟨w.heap.size,1,none⟩) lr (.slice p2 x.rules.length c2)).setCell (p:=⟨w.heap.size,2,none⟩) lr (.slice p3 x.checks.length c3)).setCell (p:=⟨w.heap.size+1,0,none⟩) (by show w.heap.size<=w.heap.size+1;omega) .nilIface);have q3:Box (∀ j,j∈F->(((((w1.alloc (.cells #[.slice p1 x.facts.length c1,.slice p2 x.rules.length c2,.slice p3 x.checks.length c3] 45)).setCell ⟨w.heap.size,0,none⟩ (.slice p1 x.facts.length c1)).setCell ⟨w.heap.size,1,none⟩ (.slice p2 x.rules.length c2)).setCell ⟨w.heap.size,2,none⟩ (.slice p3 x.checks.length c3)).setCell ⟨w.heap.size+1,0,none⟩ .nilIface).heap[j]?=w1.heap[j]?):=⟨fun j hj=>by
    have g1:=HN.out.ge j hj;have g2:=HN.out.lt j hj;simp at g1;rw[Ydg _ _ _ _ (by show j≠w.heap.size+1;omega),Zfe (by omega)];exact Ydf _ _ _ g2⟩
   have q4:Box (Za7 w.heap.size (((((w1.alloc (.cells #[.slice p1 x.facts.length c1,.slice p2 x.rules.length c2,.slice p3 x.checks.length c3] 45)).setCell ⟨w.heap.size,0,none⟩ (.slice p1 x.facts.length c1)).setCell ⟨w.heap.size,1,none⟩ (.slice p2 x.rules.length c2)).setCell ⟨w.heap.size,2,none⟩ (.slice p3 x.checks.length c3)).setCell ⟨w.heap.size+1,0,none⟩ .nilIface) F):=⟨HN.out.later (by simp;omega) (by simp)⟩;go_wp2_with fail
   clear z0 z1 z2 z3 e0 e1 x0;refine Yfo (f:=223) (args:=#[.pointer (some ⟨w.heap.size+1,0,none⟩)]) (by simp) (by simp[go_sem]) ?_;refine(Zvv _ _).mono ?_;rintro e u' w'' ⟨rfl,rfl,hw⟩;rw[<- hw]at q0 q1 q2 q3 q4;obtain⟨z0,z1,z2,sz⟩:=Blk.three (a:= .slice p1 x.facts.length c1) (b:= .slice p2 x.rules.length c2) (c:= .slice p3 x.checks.length c3) q0.out;obtain⟨x0,sx⟩:=Blk.one (a:= .nilIface) q1.out;clear hw;simp[Leaves,settle,results,results192,go_sem,z0,z1,z2,x0];exact⟨q2.out,Or.inr ⟨x,_,F,Y1.out,rfl,Zbj.stable (ty:=Zad) 4 _ _ _ _ _ HQ.out q3.out,q4.out⟩⟩
  ·have Y1:Box (Zb1 Zig l= .error 7):=⟨by rw[Y.out,if_neg hr0]⟩;have g:(ba r).toList.isEmpty=false:=by rw[List.isEmpty_eq_false_iff];exact fun q=>hr0 (hr.1 q)
   clear hr hr0 Y;generalize ba r=s at*;have z7:=fun o=>Zab Z1.out.c7 ((Ydb _ w1).alloc lr o);have hs1:=B1.out.size;have CR:=Zaa (Zbp a (w.heap.size+1+1) (w1.alloc (.cells #[.slice p1 x.facts.length c1,.slice p2 x.rules.length c2,.slice p3 x.checks.length c3] 45)) (n:=7) (by decide));have LE2:=Zaa (LE1.out.alloc (.cells #[.slice p1 x.facts.length c1,.slice p2 x.rules.length c2,.slice p3 x.checks.length c3] 45));have q0:=Zaa (((LR1.out.alloc (.cells #[.slice p1 x.facts.length c1,.slice p2 x.rules.length c2,.slice p3 x.checks.length c3] 45)).alloc (.cells #[Zcm a 7] 224)).away (w.heap.size+1) 0 (by omega) (Zcm a 7));have q1:=Zaa ((LE2.out.alloc (.cells #[Zcm a 7] 224)).set 0 (Zcm a 7));have q2:=Zaa (((B1.out.alloc hs1 (.cells #[.slice p1 x.facts.length c1,.slice p2 x.rules.length c2,.slice p3 x.checks.length c3] 45)).alloc (by simp;omega) (.cells #[Zcm a 7] 224)).setCell (p:=⟨w.heap.size+1,0,none⟩) (by show w.heap.size<=w.heap.size+1;omega) (Zcm a 7));obtain⟨y0,sy⟩:=LE2.out.one;go_wp2_with fail
   refine mq CR.out ?_;rintro w2 rfl;refine Yfo (f:=223) (args:=#[.pointer (some ⟨w.heap.size+1,0,none⟩)]) (by simp) (by simp[go_sem]) ?_;refine(Zjn _ _ a (n:=7) (by decide) _ y0 (sy 0)).mono ?_;rintro e u' w'' ⟨rfl,rfl,hw⟩;rw[<- hw]at q0 q1 q2;obtain⟨z0,z1,z2,sz⟩:=q0.out.three;obtain⟨u0,sx⟩:=Blk.one (a:=Zcm a 7) q1.out;clear hw;simp[Leaves,settle,results,results192,go_sem,z0,z1,z2,u0];exact⟨q2.out,Or.inl ⟨7,Y1.out,by decide,rfl⟩⟩
theorem Zv3 (h:4000 < l.length):Zdb l= .error 4:=if_pos h
theorem Zrx (h: ¬ 4000 < l.length)(hw:Zb1 Zig l= .error n):Zdb l= .error n:=by unfold Zdb;rw[if_neg h,hw]
theorem Zz7 {x:Bk}(h: ¬ 4000 < l.length)(hw:Zb1 Zig l= .ok x):Zdb l=if Zck x≠0 then .error (Zck x)else .ok x:=by unfold Zdb;rw[if_neg h,hw]
theorem Zz8 (V:Zav)(CL:Zbh)(Z:Zao a w)(hg:23<=w.heap.size)(hl:l.length < 1000000000):
  Calls prog 153 #[.string (ba l)] w (Zs7 a w (Zdb l)):=by
 have hsl:(ba l).size < 1000000000:=by rw[Zcx];exact hl
 have HS:=Zaa (Zcx l);have B0:=Zaa ((Ydb w.heap.size w).alloc lr (.cells #[.slice none 0 0,.slice none 0 0,.slice none 0 0] 45));have CW:=Zaa (Znu CL (Z.below B0.out) (by simp;omega) hl);have z4:=Z.c4;have hz:=Zaa Z;clear Z CL;by_cases hb:4000 < l.length
 ·have Y:=Zaa (Zv3 hb);have g:(4000:Int) < ((ba l).size:Int):=by have:=HS.out;omega
  generalize ba l=s at*;have z4':=fun o=>Zab z4 ((Ydb _ w).alloc lr o);clear CW z4;go_in
  go_wp2
  go_region
  all_goals
   go_wp2
   refine Ye6 (by simp[results,results153,go_sem];try rfl) rfl ?_;exact⟨((Ydb w.heap.size w).alloc lr _).drew,Or.inl ⟨4,Y.out,by decide,rfl⟩⟩
 ·have YE:=Zaa (fun n h=>Zrx (n:=n) hb h);have YO:=Zaa (fun x h=>Zz7 (x:=x) hb h);have g: ¬ (4000:Int) < ((ba l).size:Int):=by have:=HS.out;omega
  have L0:=Zaa (Blk.new w #[.slice none 0 0,.slice none 0 0,.slice none 0 0] 45);clear z4;generalize ba l=s at*;go_in
  go_wp2_with fail
  refine CW.out.mono ?_;rintro e w1 ⟨hb1,⟨n,hy,hn,rfl⟩ | ⟨x,vs,F,hy,rfl,hQ,hN⟩⟩
  ·have Y:=Zaa (YE.out n hy);have L1:=Zaa (Zcq L0.out hb1);have B1:=Zaa (B0.out.trans (hb1.mono (by simp)));have z0:=fun o=>(L1.out.alloc o).three.1;have z1:=fun o=>(L1.out.alloc o).three.2.1;have z2:=fun o=>(L1.out.alloc o).three.2.2.1;have z3:=fun o=>(L1.out.alloc o).three.2.2.2;rw[Zaf _ hn];clear hy hb1 CW YE YO;go_wp2
   refine Ye6 (by simp[results,results153,go_sem,z0,z1,z2];try rfl) rfl ?_;exact⟨(((B1.out.alloc B1.out.size _).setCell (p:=⟨w.heap.size,0,none⟩) lr _).setCell (p:=⟨w.heap.size,1,none⟩) lr _).setCell (p:=⟨w.heap.size,2,none⟩) lr _,Or.inl ⟨n,Y.out,hn,by rw[Zaf _ hn]⟩⟩
  ·have Y:=Zaa (YO.out x hy);have L1:=Zaa (Zcq L0.out hb1);have B1:=Zaa (B0.out.trans (hb1.mono (by simp)));have hs1:=B1.out.size;have HQ:=Zaa hQ;have HN:=Zaa hN;have HS5:=Zaa (Zbj.toS hQ (B:=w1.heap.size) (fun k hk=>hN.lt k hk));obtain⟨fv,rv,cv,F1,F2,F3,rfl,h1,h2,h3,hF⟩:=hQ;obtain⟨p1,c1,rfl⟩:=Zag.form h1;obtain⟨p2,c2,rfl⟩:=Zag.form h2;obtain⟨p3,c3,rfl⟩:=Zag.form h3;have CB:=Zaa (fun u (hu:Below w1.heap.size w1 u)=>Zgt V ((hz.out.below B1.out).below hu) hu.size (Zbd.carry HS5.out (Za4 hu lr)));have LB:=Zaa (Blk.new w1 #[.slice p1 x.facts.length c1,.slice p2 x.rules.length c2,.slice p3 x.checks.length c3] 45);have BB:=Zaa ((Ydb w1.heap.size w1).alloc lr (.cells #[.slice p1 x.facts.length c1,.slice p2 x.rules.length c2,.slice p3 x.checks.length c3] 45));clear h1 h2 h3 hF hy hb1 hN CW YE YO HS5;generalize Zck x=n at*;go_wp2_with fail
   refine(CB.out _ BB.out).mono ?_;rintro e w2 ⟨rfl,hb2⟩;have B2:=Zaa (BB.out.trans (hb2.mono (by simp)));have LR2:=Zaa ((L1.out.of (B2.out.block _ L1.out.lt)));have LB2:=Zaa (Zcq LB.out hb2);obtain⟨y0,y1,y2,sy⟩:=LB2.out.three;obtain⟨z0,z1,z2,sz⟩:=LR2.out.three;have BW:=Zaa (B1.out.trans (B2.out.mono hs1));clear hb2 CB LB L1;by_cases hn:n=0
   ·rw[hn,Za0];go_wp2
    refine Ye6 (by simp[results,results153,go_sem,z0,z1,z2];try rfl) rfl ?_;refine⟨((BW.out.setCell (p:=⟨w.heap.size,0,none⟩) lr _).setCell (p:=⟨w.heap.size,1,none⟩) lr _).setCell (p:=⟨w.heap.size,2,none⟩) lr _,Or.inr ⟨x,_,F,by rw[Y.out,if_neg (by omega)],rfl,Zbj.stable (ty:=Zad) 4 _ _ _ _ _ HQ.out fun j hj=>(Zfe (by have:=HN.out.ge j hj;simp at this;omega)).trans (B2.out.block j (HN.out.lt j hj)),HN.out.later (by simp) (by simp;exact B2.out.size)⟩⟩
   ·rw[Zaf _ hn];go_wp2
    refine Ye6 (by simp[results,results153,go_sem,z0,z1,z2];try rfl) rfl ?_;exact⟨((BW.out.setCell (p:=⟨w.heap.size,0,none⟩) lr _).setCell (p:=⟨w.heap.size,1,none⟩) lr _).setCell (p:=⟨w.heap.size,2,none⟩) lr _,Or.inl ⟨n,by rw[Y.out,if_pos hn],hn,by rw[Zaf _ hn]⟩⟩
end Go.P
namespace Go.W
variable {x:Bk}{t:By}
variable {ty:Tys} {d:Nat} {w:World} {vs:List Value} {F:List Nat}
def Zex (ty:Tys) (d:Nat):Zgj (ByteArray×Bk):=fun w vs x F=> ∃ vb,vs= .string x.1::vb/\x.1.size < 1000000000/\Zbj ty d w vb x.2 F
theorem Zbj.vals (h:Zbj ty d w vs x F): ∃ p c p' c' p2 c2,vs=[.slice p x.facts.length c,.slice p' x.rules.length c',.slice p2 x.checks.length c2]:=by
 obtain⟨fv,rv,cv,F1,F2,F3,rfl,h1,h2,h3,_⟩:=h;obtain⟨p,c,rfl⟩:=Zag.form h1;obtain⟨p',c',rfl⟩:=Zag.form h2;obtain⟨p2,c2,rfl⟩:=Zag.form h3;exact⟨p,c,p',c',p2,c2,rfl⟩
theorem Zex.vals {x:ByteArray×Bk}(h:Zex ty d w vs x F): ∃ p c p' c' p2 c2,vs=[.string x.1,.slice p x.2.facts.length c,.slice p' x.2.rules.length c',.slice p2 x.2.checks.length c2]:=by
 obtain⟨vb,rfl,_,h⟩:=h;obtain⟨p,c,p',c',p2,c2,rfl⟩:=Zbj.vals h;exact⟨p,c,p',c',p2,c2,rfl⟩
theorem Zex.stable (d:Nat):Zc3 (Zex ty d):=by
 intro w w' vs x F h k;obtain⟨vb,rfl,h1,h2⟩:=h;exact⟨vb,rfl,h1,Zbj.stable d _ _ _ _ _ h2 k⟩
theorem Zex.one {x:ByteArray×Bk}(h:Zex ty d w vs x F): ∀ u,u∈vs->u.oneCell'=true:=by
 obtain⟨p,c,p',c',p2,c2,rfl⟩:=Zex.vals h;intro u hu;simp at hu;rcases hu with rfl | rfl | rfl | rfl <;> rfl
structure Ch where
 sealed:Bool
 links:List (ByteArray×Bk)
 tag:List UInt8
def Zp1 (t:By):De (ByteArray×Bk):=match Zdb t with
 | .error e=>fun _=> .error e
 | .ok x=>fun r=> .ok ((ba t,x),r)
theorem Zwm {e:Int}(h:Zdb t= .error e)(r:By):Zp1 t r= .error e:=by unfold Zp1;rw[h]
theorem Zyk (h:Zdb t= .ok x)(r:By):Zp1 t r= .ok ((ba t,x),r):=by unfold Zp1;rw[h]
def Zks:De (ByteArray×Bk):=Zdv.then fun n=>if 4000 < n then fun _=> .error 4 else(Zfp n).then Zp1
def Zcj:By:=[119,114,116,49]
def Zql (s:Nat) (l:List (ByteArray×Bk)):De Ch:=if l.length=0 then fun _=> .error 7 else(Zfp 32).map fun t=>⟨s==1,l,t⟩
def Znp (s:Nat):De Ch:=if 1 < s then fun _=> .error 7 else(Zbu 8 Zks).then (Zql s)
def Zcf:De Ch:=(Zfp 4).then fun m=>if m≠Zcj then fun _=> .error 7 else Zf9.then Znp
end Go.W
namespace Go.P
theorem Z3h:(prog.info? 108).map (fun i=>(i.zero,i.size,i.bytes))=some (some (.agg #[.string ⟨#[]⟩,.slice none 0 0,.slice none 0 0,.slice none 0 0]),4,88):=by kernel_rfl
theorem Ztt:Zdw prog 87 108 4 88:=by
 obtain⟨i0,hi,hz0,hz1,hz2⟩:=info_parts Z3h;exact⟨i0,_,underlying87,hi,hz0,hz1,hz2,rfl,by decide,by decide⟩
theorem Znt {K d:Nat}(hen:Zaq K){first cap:Array Value}{f:De (ByteArray×Bk)}{a:Nat->Addr}{w:World}{b m:Nat}{l:By}(Z:Zao a w)(h:Dc w b l)(hm:m < 1000)
  (HC: ∀ u r,Zj9 a b w u r->Calls prog K (first++cap) u (Zev a b (Zlh (Zex Zad d) u.heap.size) u (f r))):
  Calls prog 113 #[.pointer (some ⟨b,0,none⟩),.int .u64 (m:Int),.func (.func K) first cap] w (Zev a b (Zkd 108 4 (Zex Zad d) w.heap.size) w (Zbu m f l)):=by
 have C:=Zaa (Zc5 Z h);have HH:=Zaa HC;have hen': ∀ args w,(callFunc K args).run prog w= .ok (.enter K args) w:=hen;have hgb:=h.2.2;have ZZ:=Zaa Z;have hblt:=h.1.lt;clear HC hen Z h;go_in
 go_wp2_with fail
 refine C.out.mono ?_;rintro e w1 ⟨hk1,⟨i,hy,hi,rfl⟩ | ⟨n,r1,v,hy,rfl,⟨rfl,hn⟩,hd1⟩⟩
 ·exact⟨rfl,hk1,Or.inl ⟨i,De.then_error hy,hi,rfl⟩⟩
 have Y:=Zaa (De.then_ok (g:=fun n=>if m < n then fun _=>Except.error 4 else Zh7 f n) hy);have D1:Box (Zj9 a b w w1 r1):=⟨hd1,hk1,ZZ.out.keeps hk1 hgb⟩;clear hk1 hd1 hy C;by_cases hlt:m < n
 ·have Y4:Box (Zbu m f l= .error 4):=⟨by rw[Zbu,Y.out,if_pos hlt]⟩;have g:(m:Int) < (n:Int):=by omega
  have z4:=D1.out.2.2.c4;have CR:=Zaa (Zbp a b w1 (n:=4) (by decide));clear HH Y;go_wp2_with fail
  refine mq CR.out ?_;rintro w2 rfl;exact⟨rfl,D1.out.2.1,Or.inl ⟨4,Y4.out,by decide,rfl⟩⟩
 ·have Y4:Box (Zbu m f l=Zh7 f n r1):=⟨by rw[Zbu,Y.out,if_neg hlt]⟩;have g: ¬ (m:Int) < (n:Int):=by omega
  clear Y;go_wp2
  go_loopw [8,18] (fun tv iv wr=>Zcw 108 4 (Zex Zad d) f n (Zbu m f l) (Zj9 a b w) w tv iv wr) (fun _ iv _=>n - (intOf iv).toNat)
  case atStart=>exact⟨0,[],r1,[],none,0,by omega,rfl,rfl,rfl,Zag.nil,Za7.nil _ _,by rw[Y4.out];simp[De.map];cases Zh7 f n r1 <;> rfl,D1.out⟩
  case round=>
   obtain⟨q,xs,r,F,p,c,hq,rfl,rfl,hxl,hR,hN,hY,hD⟩:=hrel;by_cases hqn:q < n
   ·have HR:=Zaa hR;have HN:=Zaa hN;have HY:=Zaa hY;have HD:=Zaa hD;have HX:=Zaa hxl;have CC:=Zaa (HH.out _ _ hD);have g2:(q:Int) < (n:Int):=by omega
    clear hR hN hY hD hxl HH;go_wp2_with fail
    refine CC.out.mono ?_;rintro e w2 ⟨hk2,⟨i,hy,hi,rfl⟩ | ⟨x,r2,v,hy,rfl,⟨vs,F2,rfl,hQ,hN2⟩,hd2⟩⟩
    ·exact⟨rfl,HD.out.2.1.trans hk2,Or.inl ⟨i,Zcw.stop hqn HY.out hy,hi,rfl⟩⟩
    obtain⟨p1,c1,p2,c2,p3,c3,rfl⟩:=Zex.vals hQ;have NY:=Zaa (Zcw.step hqn HY.out hy);have D2:Box (Zj9 a b w w2 r2):=⟨hd2,HD.out.2.1.trans hk2,HD.out.2.2.keeps hk2 hgb⟩;have hs2:=hk2.size;have hsw:=HD.out.2.1.size;have bF:Box (∀ j,j∈F->j≠b):=⟨fun j hj=>by have:=HN.out.ge j hj;omega⟩;have HR2:Box (Zag 108 4 (Zex Zad d) w2 (.slice p q c) xs F):=⟨Zag.stable (Zex.stable (ty:=Zad) d) _ _ _ _ _ HR.out fun j hj=>hk2.block j (HN.out.lt j hj) (bF.out j hj)⟩;have HQ:=Zaa hQ;have HN2:Box (Za7 w.heap.size w2 F2):=⟨hN2.later (by omega) lr⟩;have HNF:Box (Za7 w.heap.size w2 F):=⟨HN.out.later lr (by omega)⟩;have HD':Box (∀ j,j∈F->j∉F2):=⟨fun j hj hj2=>by have:=HN.out.lt j hj;have:=hN2.ge j hj2;omega⟩;have hl1:xs.length < 100000000:=by rw[HX.out];omega
    clear hQ hN2 hk2 hd2 hy CC HR HY HN;go_wp2_with (at_builtin;go_must (refine Za9 Ztt rfl (.tmp 20) (.tmp 23) rfl (Zex.stable (ty:=Zad) d) (fun _ _ _ _ h=>Zex.one h) w.heap.size (.slice p q c) xs F rfl (Zag.stable (Zex.stable (ty:=Zad) d) _ _ _ _ _ HR2.out fun j hj=>Ydf _ _ _ (HNF.out.lt j hj)) w2.heap.size #[.string x.1,.slice p1 x.2.facts.length c1,.slice p2 x.2.rules.length c2,.slice p3 x.2.checks.length c3] 108 (0,0) x F2 rfl (Zaw _ _) rfl (Zex.stable (ty:=Zad) d _ _ _ _ _ HQ.out fun j hj=>Ydf _ _ _ (HN2.out.lt j hj)) hl1 (by simp;omega) (HNF.out.later lr (by simp)) (HN2.out.later lr (by simp)) HD'.out ?_);intro g3 cap3 w4 F3 happ)
    have R4:=happ.row;rw[HX.out]at R4;have hb4:w4.heap[b]?=w2.heap[b]?:=(happ.same b (by have:=D2.out.1.1.lt;simp;omega) (fun hj=>by have:=HNF.out.ge b hj;omega)).trans (Ydf _ _ _ D2.out.1.1.lt);have K4:=Zah.appO happ (D2.out.2.1.alloc _) (fun j hj=>HNF.out.ge j hj);have D4:Box (Zj9 a b w w4 r2):=⟨D2.out.1.of hb4,K4,ZZ.out.keeps K4 hgb⟩;try rw[HX.out]
    go_roundw
    case rel=>exact⟨q+1,xs++[x],r2,F3,_,_,by omega,by go_num,rfl,by simp[HX.out],R4,happ.new,NY.out,D4.out⟩
    case measure=>simp[intOf];omega
   ·obtain rfl:q=n:=by omega
    have Y5:=Zaa (Zcw.done hY);have g2: ¬ (q:Int) < (q:Int):=by omega
    have H5:=Zaa (Yda hR (Yda hN hD));clear hR hN hY hD HH;go_wp2
    go_ret
    exact⟨H5.out.2.2.2.1,Or.inr ⟨xs,r,_,Y5.out,rfl,⟨F,H5.out.1,H5.out.2.1⟩,H5.out.2.2.1⟩⟩
end Go.P
