import Derived.Test.YtgnakaplmhmdcaaGreatDoorW07
import Derived.Test.YtgnakaplmhmdcaaGreatDoorW11
import Derived.Defers
import Derived.Recover
set_option maxRecDepth 100000
set_option maxHeartbeats 8000000
open Go.Proofs Go.RowKit Go.W
namespace Go.W
def Zww (d k:Nat):De T:=if k=2\/k=5 then Zdm.map fun n=> .mk k (Zen n) ByteArray.empty []else if k=6 then Zfx.map fun n=> .mk k n ByteArray.empty []else if k=7 then(match d with
  | 0=>fun _=> .error 3
  | d+1=>(Zbt 6 (Zfg d)).map fun x=> .mk k 0 ByteArray.empty x)else if k=1\/k=3\/k=4 then Zoi.map fun t=> .mk k 0 t []else fun _=> .error 7
theorem Z5r (d:Nat)(l:By):Zfg d l=Zfx.then (Zww d) l:=by cases d <;> rfl
end Go.W
namespace Go.P
theorem Ziy (CL:Zb5){d:Nat}(hd:d<=3)(ih: ∀ e,d=e+1->Zd6 e):Zd6 d:=by
 intro a w b l Z h;have hb:=h.1.lt;have hgb:=h.2.2;have B0:=Zaa ((Yct w.heap.size w).alloc lr (.cells #[.int .i64 0,.int .i64 0,.string ⟨#[]⟩,.slice none 0 0] 103));have K0:=Zaa ((Zaf.refl b w).alloc (.cells #[.int .i64 0,.int .i64 0,.string ⟨#[]⟩,.slice none 0 0] 103));have L0:=Zaa (Blk.new w #[.int .i64 0,.int .i64 0,.string ⟨#[]⟩,.slice none 0 0] 103);have C:=Zaa (Zke (Z.below B0.out) (h.alloc (.cells #[.int .i64 0,.int .i64 0,.string ⟨#[]⟩,.slice none 0 0] 103)));have TE:=Zaa (Z5r d l);have ZZ:=Zaa Z;clear Z h;go_enter Tryz.func167,Tryz.ntmps167
 go_wp2_with fail
 refine C.out.mono ?_;rintro e w1 ⟨hk1,⟨i,hy,hi,rfl⟩ | ⟨k,r1,v,hy,rfl,⟨rfl,hk8⟩,hd1⟩⟩
 ·exact⟨rfl,K0.out.trans hk1,Or.inl ⟨i,TE.out.trans (De.then_error hy),hi,rfl⟩⟩
 have Y:Box (Zfg d l=Zww d k r1):=⟨TE.out.trans (De.then_ok hy)⟩;have L1:=Zaa (L0.out.of (hk1.block w.heap.size (by simp) (by omega)));have K1:=Zaa (K0.out.trans hk1);have HD1:=Zaa hd1;clear hy hk1 hd1 C TE;have KA:=Zaa (K1.out.alloc (.cells #[.int .i64 (k:Int),.int .i64 0,.string ⟨#[]⟩,.slice none 0 0] 103));have DA:=Zaa (HD1.out.alloc (.cells #[.int .i64 (k:Int),.int .i64 0,.string ⟨#[]⟩,.slice none 0 0] 103));have ZA:=Zaa (ZZ.out.keeps KA.out hgb);have Z1:=Zaa (ZZ.out.keeps K1.out hgb);have LA:=Zaa (Blk.new w1 #[.int .i64 (k:Int),.int .i64 0,.string ⟨#[]⟩,.slice none 0 0] 103);have LR:=Zaa (L1.out.alloc (.cells #[.int .i64 (k:Int),.int .i64 0,.string ⟨#[]⟩,.slice none 0 0] 103));have hs1:w.heap.size < w1.heap.size:=by have:=L1.out.lt;exact this
 have hbn:b≠w1.heap.size:=by omega
 have hk64:Zk2 (k:Int):=⟨by omega,by omega⟩;clear L0 L1 K0 K1 HD1 ZZ B0;have W:((k=2\/k=5)/\Zww d k r1=(Zdm.map fun n=>T.mk k (Zen n) ByteArray.empty []) r1)\/(k=6/\Zww d k r1=(Zfx.map fun n=>T.mk k n ByteArray.empty []) r1)\/k=7\/((k=1\/k=3\/k=4)/\Zww d k r1=(Zoi.map fun t=>T.mk k 0 t []) r1)\/((k=0\/7 < k)/\Zww d k r1= .error 7):=by
  unfold Zww;by_cases h1:k=2\/k=5
  ·exact Or.inl ⟨h1,by rw[if_pos h1]⟩
  by_cases h2:k=6
  ·exact Or.inr (Or.inl ⟨h2,by rw[if_neg h1,if_pos h2]⟩)
  by_cases h3:k=7
  ·exact Or.inr (Or.inr (Or.inl h3))
  by_cases h4:k=1\/k=3\/k=4
  ·exact Or.inr (Or.inr (Or.inr (Or.inl ⟨h4,by rw[if_neg h1,if_neg h2,if_neg h3,if_pos h4]⟩)))
  ·exact Or.inr (Or.inr (Or.inr (Or.inr ⟨by omega,by rw[if_neg h1,if_neg h2,if_neg h3,if_neg h4]⟩)))
 rcases W with⟨hk,hT⟩ | ⟨hk,hT⟩ | hk | ⟨hk,hT⟩ | ⟨hk,hT⟩
 ·have CN:=Zaa (Zc1 ZA.out DA.out);have YT:=Zaa (Y.out.trans hT);clear hT Y ih CL;have G:((k:Int)==2)=true\/(((k:Int)==2)=false/\((k:Int)==5)=true):=by simp only[beq_iff_eq,beq_eq_false_iff_ne];omega
  rcases G with g | ⟨g,g'⟩;all_goals
   go_wp2_with fail
   refine CN.out.mono ?_;rintro e w2 ⟨hk2,⟨i,hy,hi,rfl⟩ | ⟨n,r2,v,hy,rfl,⟨rfl,hn⟩,hd2⟩⟩
   ·exact⟨rfl,KA.out.trans hk2,Or.inl ⟨i,YT.out.trans (De.map_error hy),hi,rfl⟩⟩
   have CU:=Zaa (Ztq n hn);have hun:Zk2 (Zen n):=by unfold Zen;split <;> exact⟨by omega,by omega⟩
   obtain⟨y0,y1,y2,y3,sf⟩:=(LA.out.of (hk2.block w1.heap.size (by simp) (by omega))).four;obtain⟨z0,z1,z2,z3,sg⟩:=(LR.out.of (hk2.block w.heap.size (by simp;omega) (by omega))).four;have R:=Zaa (Ycs (YT.out.trans (De.map_ok hy)) (Ycs (KA.out.trans hk2) hd2));clear hy hk2 hd2 CN;go_wp2_with (go_at_call 202;refine(CU.out _).mono ?_;rintro e w3 ⟨rfl,rfl⟩)
   refine bodyPost_ret (by simp[results,Tryz.results167,go_sem,z0,z1,z2,z3];try rfl) rfl ?_;exact⟨(R.out.2.1.setNew _ _ _ (by omega)).r4 lr,Or.inr ⟨_,r2,_,R.out.1,rfl,⟨_,[],rfl,⟨_,rfl,hk64,hun,(by decide:(0:Nat) < 1000000000),Zag.nil⟩,Za9.nil _ _⟩,R.out.2.2.of ((Zcc (by omega)).trans (Ycy _ _ _ _ (by omega)))⟩⟩
 ·have CN:=Zaa (Zke ZA.out DA.out);have YT:=Zaa (Y.out.trans hT);obtain rfl:=hk;clear hT Y ih CL;go_wp2_with fail
  refine CN.out.mono ?_;rintro e w2 ⟨hk2,⟨i,hy,hi,rfl⟩ | ⟨n,r2,v,hy,rfl,⟨rfl,hn⟩,hd2⟩⟩
  ·exact⟨rfl,KA.out.trans hk2,Or.inl ⟨i,YT.out.trans (De.map_error hy),hi,rfl⟩⟩
  have hun:Zk2 (n:Int):=⟨by omega,by omega⟩;obtain⟨y0,y1,y2,y3,sf⟩:=(LA.out.of (hk2.block w1.heap.size (by simp) (by omega))).four;obtain⟨z0,z1,z2,z3,sg⟩:=(LR.out.of (hk2.block w.heap.size (by simp;omega) (by omega))).four;have R:=Zaa (Ycs (YT.out.trans (De.map_ok hy)) (Ycs (KA.out.trans hk2) hd2));clear hy hk2 hd2 CN;go_wp2_with fail
  refine bodyPost_ret (by simp[results,Tryz.results167,go_sem,z0,z1,z2,z3];try rfl) rfl ?_;exact⟨(R.out.2.1.setNew _ _ _ (by omega)).r4 lr,Or.inr ⟨_,r2,_,R.out.1,rfl,⟨_,[],rfl,⟨_,rfl,hk64,hun,(by decide:(0:Nat) < 1000000000),Zag.nil⟩,Za9.nil _ _⟩,R.out.2.2.of ((Zcc (by omega)).trans (Ycy _ _ _ _ (by omega)))⟩⟩
 ·obtain rfl:=hk;cases d with
  | zero=>
   have z3:=fun o=>Zac Z1.out.c3 ((Yct _ w1).alloc lr o);have CR:=Zaa (Zbp a b (w1.alloc (.cells #[.int .i64 7,.int .i64 0,.string ⟨#[]⟩,.slice none 0 0] 103)) (n:=3) (by decide));clear CL ih;go_wp2_with fail
   refine CR.out.mono ?_;rintro e w2 ⟨rfl,rfl⟩;exact⟨rfl,KA.out,Or.inl ⟨3,Y.out,by decide,rfl⟩⟩
  | succ d=>
   have CN:=Zaa (Zp9 (ih d rfl) ZA.out DA.out);have YT:Box (Zfg (d+1) l=((Zbt 6 (Zfg d)).map fun x=>T.mk 7 0 ByteArray.empty x) r1):=⟨Y.out⟩;obtain⟨dz,hdz⟩: ∃ dz,3 - (d+1)=dz:=⟨_,rfl⟩;rw[hdz];have g3:((dz:Int)==3)=false:=by rw[beq_eq_false_iff_ne];omega
   rw[show((3 - d:Nat):Int)=(dz:Int)+1 by omega]at CN;have hdz3:dz < 3:=by omega
   clear Y ih CL hdz;go_wp2_with fail
   refine CN.out.mono ?_;rintro e w2 ⟨hk2,⟨i,hy,hi,rfl⟩ | ⟨xs,r2,v,hy,rfl,⟨F,hR,hN⟩,hd2⟩⟩
   ·exact⟨rfl,KA.out.trans hk2,Or.inl ⟨i,YT.out.trans (De.map_error hy),hi,rfl⟩⟩
   obtain⟨p2,c2,rfl⟩:=Zag.form hR;obtain⟨y0,y1,y2,y3,sf⟩:=(LA.out.of (hk2.block w1.heap.size (by simp) (by omega))).four;obtain⟨z0,z1,z2,z3,sg⟩:=(LR.out.of (hk2.block w.heap.size (by simp;omega) (by omega))).four;have R:=Zaa (Ycs (YT.out.trans (De.map_ok hy)) (Ycs (KA.out.trans hk2) (Ycs hd2 (Ycs hR hN))));clear hy hk2 hd2 CN hR hN;go_wp2_with fail
   refine bodyPost_ret (by simp[results,Tryz.results167,go_sem,z0,z1,z2,z3];try rfl) rfl ?_;obtain⟨hY,hK,hD,hR,hN⟩:=R.out;exact⟨(hK.setNew _ _ _ (by omega)).r4 lr,Or.inr ⟨_,r2,_,hY,rfl,⟨_,F,rfl,⟨_,rfl,hk64,⟨by show(_:Int)<=0;omega,by show(0:Int)<=_;omega⟩,(by decide:(0:Nat) < 1000000000),Zag.stable (Za3.stable (ty:=Zad) (d+1)) _ _ _ _ _ hR fun j hj=>(Zcc (by have:=hN.ge j hj;simp at this;omega)).trans (Ycy _ _ _ _ (by have:=hN.ge j hj;simp at this;show j≠w1.heap.size;omega))⟩,hN.later (by simp;omega) (by simp)⟩,hD.of ((Zcc (by omega)).trans (Ycy _ _ _ _ (by omega)))⟩⟩
 ·have CN:=Zaa (Zs1 CL ZA.out DA.out);have YT:=Zaa (Y.out.trans hT);clear hT Y ih CL;rcases hk with rfl | rfl | rfl;all_goals
   go_wp2_with fail
   refine CN.out.mono ?_;rintro e w2 ⟨hk2,⟨i,hy,hi,rfl⟩ | ⟨t,r2,v,hy,rfl,⟨rfl,hn⟩,hd2⟩⟩
   ·exact⟨rfl,KA.out.trans hk2,Or.inl ⟨i,YT.out.trans (De.map_error hy),hi,rfl⟩⟩
   obtain⟨y0,y1,y2,y3,sf⟩:=(LA.out.of (hk2.block w1.heap.size (by simp) (by omega))).four;obtain⟨z0,z1,z2,z3,sg⟩:=(LR.out.of (hk2.block w.heap.size (by simp;omega) (by omega))).four;have R:=Zaa (Ycs (YT.out.trans (De.map_ok hy)) (Ycs (KA.out.trans hk2) hd2));clear hy hk2 hd2 CN;go_wp2_with fail
   refine bodyPost_ret (by simp[results,Tryz.results167,go_sem,z0,z1,z2,z3];try rfl) rfl ?_;exact⟨(R.out.2.1.setNew _ _ _ (by omega)).r4 lr,Or.inr ⟨_,r2,_,R.out.1,rfl,⟨_,[],rfl,⟨_,rfl,hk64,⟨by show(_:Int)<=0;omega,by show(0:Int)<=_;omega⟩,hn,Zag.nil⟩,Za9.nil _ _⟩,R.out.2.2.of ((Zcc (by omega)).trans (Ycy _ _ _ _ (by omega)))⟩⟩
 ·have z7:=ZA.out.c7;have CR:=Zaa (Zbp a b (w1.alloc (.cells #[.int .i64 (k:Int),.int .i64 0,.string ⟨#[]⟩,.slice none 0 0] 103)) (n:=7) (by decide));have YT:=Zaa (Y.out.trans hT);have g1:((k:Int)==1)=false:=by rw[beq_eq_false_iff_ne];omega
  have g2:((k:Int)==2)=false:=by rw[beq_eq_false_iff_ne];omega
  have g3:((k:Int)==3)=false:=by rw[beq_eq_false_iff_ne];omega
  have g4:((k:Int)==4)=false:=by rw[beq_eq_false_iff_ne];omega
  have g5:((k:Int)==5)=false:=by rw[beq_eq_false_iff_ne];omega
  have g6:((k:Int)==6)=false:=by rw[beq_eq_false_iff_ne];omega
  have g7:((k:Int)==7)=false:=by rw[beq_eq_false_iff_ne];omega
  clear hT Y ih CL hk;go_wp2_with fail
  refine CR.out.mono ?_;rintro e w2 ⟨rfl,rfl⟩;exact⟨rfl,KA.out,Or.inl ⟨7,YT.out,by decide,rfl⟩⟩
theorem Zvb (CL:Zb5): ∀ d,d<=3->Zd6 d:=by
 have h0:Zd6 0:=Ziy CL (by omega) fun e h=>absurd h (by omega);have h1:Zd6 1:=Ziy CL (by omega) fun e h=>by obtain rfl:e=0:=(by omega);exact @h0
 have h2:Zd6 2:=Ziy CL (by omega) fun e h=>by obtain rfl:e=1:=(by omega);exact @h1
 have h3:Zd6 3:=Ziy CL (by omega) fun e h=>by obtain rfl:e=2:=(by omega);exact @h2
 intro d hd;match d,hd with
 | 0,_=>exact @h0
 | 1,_=>exact @h1
 | 2,_=>exact @h2
 | 3,_=>exact @h3
end Go.P
namespace Go.W
variable {w:World}{L:Nat}{x0 x1 x2 x3 x4 x5 x6 x7 x8:Value}
theorem Zk8 {k:Nat}(hk:k≠L):(((((((((w.setCell ⟨L,0,none⟩ x0).setCell ⟨L,1,none⟩ x1).setCell ⟨L,2,none⟩ x2).setCell ⟨L,3,none⟩ x3).setCell ⟨L,4,none⟩ x4).setCell ⟨L,5,none⟩ x5).setCell ⟨L,6,none⟩ x6).setCell ⟨L,7,none⟩ x7).setCell ⟨L,8,none⟩ x8).heap[k]?=w.heap[k]?:=by
 iterate 9 rw[Ycy _ _ _ _ hk]
theorem Zaf.r9 {b:Nat}{w0:World}(h:Zaf b w0 w)(hL:w0.heap.size<=L):Zaf b w0 (((((((((w.setCell ⟨L,0,none⟩ x0).setCell ⟨L,1,none⟩ x1).setCell ⟨L,2,none⟩ x2).setCell ⟨L,3,none⟩ x3).setCell ⟨L,4,none⟩ x4).setCell ⟨L,5,none⟩ x5).setCell ⟨L,6,none⟩ x6).setCell ⟨L,7,none⟩ x7).setCell ⟨L,8,none⟩ x8):=
 (((((h.r4 hL).setNew _ _ _ hL).setNew _ _ _ hL).setNew _ _ _ hL).setNew _ _ _ hL).setNew _ _ _ hL
end Go.W
namespace Go.P
variable {a:Nat->Addr}{w:World}{b:Nat}{l:By}
theorem Znv (CL:Zb5)(Z:Zap a w)(h:Dc w b l):
  Calls Tryz.prog 69 #[.pointer (some ⟨b,0,none⟩)] w (Zeq a b (Zk3 (Zbj Zad 4) w.heap.size) w (Zpn l)):=by
 have hb:=h.1.lt;have hgb:=h.2.2;have K0:=Zaa ((Zaf.refl b w).alloc (.cells #[.string ⟨#[]⟩,.slice none 0 0] 98));have L0:=Zaa (Blk.new w #[.string ⟨#[]⟩,.slice none 0 0] 98);have C:=Zaa (Zs1 CL (Z.keeps K0.out hgb) (h.alloc (.cells #[.string ⟨#[]⟩,.slice none 0 0] 98)));have ZZ:=Zaa Z;have TM:=Zaa (@Zvb CL 3 (by omega));clear Z h CL;go_enter Tryz.func69,Tryz.ntmps69
 go_wp2_with fail
 refine C.out.mono ?_;rintro e w1 ⟨hk1,⟨i,hy,hi,rfl⟩ | ⟨t,r1,v,hy,rfl,⟨rfl,ht⟩,hd1⟩⟩
 ·exact⟨rfl,K0.out.trans hk1,Or.inl ⟨i,De.then_error hy,hi,rfl⟩⟩
 have K1:=Zaa (K0.out.trans hk1);have Y:=Zaa (De.then_ok (g:=fun n=>(Zbt 6 (Zfg 3)).map fun l=>(⟨n,l⟩:A)) hy);have L1:=Zaa (L0.out.of (hk1.block w.heap.size (by simp) (by omega)));have C2:=Zaa (Zp9 TM.out (ZZ.out.keeps K1.out hgb) hd1);have hs1:=L1.out.lt;clear hy hk1 hd1 C L0 K0;go_wp2_with fail
 refine C2.out.mono ?_;rintro e w2 ⟨hk2,⟨i,hy,hi,rfl⟩ | ⟨xs,r2,v,hy,rfl,⟨F,hR,hN⟩,hd2⟩⟩
 ·exact⟨rfl,K1.out.trans hk2,Or.inl ⟨i,Y.out.trans (De.map_error hy),hi,rfl⟩⟩
 obtain⟨p2,c2,rfl⟩:=Zag.form hR;obtain⟨z0,z1,sg⟩:=(L1.out.of (hk2.block w.heap.size hs1 (by omega))).two;have R:=Zaa (Ycs (Y.out.trans (De.map_ok hy)) (Ycs (K1.out.trans hk2) (Ycs hd2 (Ycs hR hN))));clear hy hk2 hd2 hR hN C2 Y;go_wp2_with fail
 refine bodyPost_ret (by simp[results,Tryz.results69,go_sem,z0,z1];try rfl) rfl ?_;obtain⟨hY,hK,hD,hR,hN⟩:=R.out;exact⟨hK.r2 lr,Or.inr ⟨_,r2,_,hY,rfl,⟨_,F,rfl,⟨_,rfl,ht,Zag.stable (Za3.stable (ty:=Zad) 4) _ _ _ _ _ hR fun j hj=>Zrr (by have:=hN.ge j hj;omega)⟩,hN.later (by omega) (by simp)⟩,hD.of (Zrr (by omega))⟩⟩
theorem Z0v (CL:Zb5)(Z:Zap a w)(h:Dc w b l):
  Calls Tryz.prog 169 #[.pointer (some ⟨b,0,none⟩)] w (Zeq a b (Zk3 (Zbr Zad 4) w.heap.size) w (Zm7 l)):=by
 have hb:=h.1.lt;have hgb:=h.2.2;have K0:=Zaa ((Zaf.refl b w).alloc (.cells #[.int .i64 0,.int .i64 0,.int .i64 0,.string ⟨#[]⟩,.slice none 0 0,.int .i64 0,.int .i64 0,.string ⟨#[]⟩,.slice none 0 0] 105));have L0:=Zaa (Blk.new w #[.int .i64 0,.int .i64 0,.int .i64 0,.string ⟨#[]⟩,.slice none 0 0,.int .i64 0,.int .i64 0,.string ⟨#[]⟩,.slice none 0 0] 105);have C:=Zaa (Zke (Z.keeps K0.out hgb) (h.alloc (.cells #[.int .i64 0,.int .i64 0,.int .i64 0,.string ⟨#[]⟩,.slice none 0 0,.int .i64 0,.int .i64 0,.string ⟨#[]⟩,.slice none 0 0] 105)));have ZZ:=Zaa Z;have TM:=Zaa (@Zvb CL 3 (by omega));clear Z h CL;go_enter Tryz.func169,Tryz.ntmps169
 go_wp2_with fail
 refine C.out.mono ?_;rintro e w1 ⟨hk1,⟨i,hy,hi,rfl⟩ | ⟨op,r1,v,hy,rfl,⟨rfl,hop⟩,hd1⟩⟩
 ·exact⟨rfl,K0.out.trans hk1,Or.inl ⟨i,De.then_error hy,hi,rfl⟩⟩
 have K1:=Zaa (K0.out.trans hk1);have Y:=Zaa (De.then_ok (g:=fun(o:Nat)=>(Zfg 3).then fun a=>(Zfg 3).map fun b=>(⟨(o:Int),a,b⟩:G)) hy);have L1:=Zaa (L0.out.of (hk1.block w.heap.size (by simp) (by omega)));have C2:=Zaa (TM.out (ZZ.out.keeps K1.out hgb) hd1);have hs1:=L1.out.lt;clear hy hk1 hd1 C L0 K0;go_wp2_with fail
 refine C2.out.mono ?_;rintro e w2 ⟨hk2,⟨i,hy,hi,rfl⟩ | ⟨x,r2,v,hy,rfl,⟨vs,F,rfl,hQ,hN⟩,hd2⟩⟩
 ·exact⟨rfl,K1.out.trans hk2,Or.inl ⟨i,Y.out.trans (De.then_error hy),hi,rfl⟩⟩
 obtain⟨p2,c2,rfl⟩:=Za3.vals hQ;have K2:=Zaa (K1.out.trans hk2);have Y2:=Zaa (Y.out.trans (De.then_ok (g:=fun a=>(Zfg 3).map fun b=>(⟨(op:Int),a,b⟩:G)) hy));have L2:=Zaa (L1.out.of (hk2.block w.heap.size hs1 (by omega)));have C3:=Zaa (TM.out (ZZ.out.keeps K2.out hgb) hd2);have HQ:=Zaa (Ycs hQ hN);have hs2:=hk2.size;clear hy hk2 hd2 C2 L1 K1 Y hQ hN;go_wp2_with fail
 refine C3.out.mono ?_;rintro e w3 ⟨hk3,⟨i,hy,hi,rfl⟩ | ⟨y,r3,v,hy,rfl,⟨us,G,rfl,hQ2,hN2⟩,hd3⟩⟩
 ·exact⟨rfl,K2.out.trans hk3,Or.inl ⟨i,Y2.out.trans (De.map_error hy),hi,rfl⟩⟩
 obtain⟨p3,c3,rfl⟩:=Za3.vals hQ2;obtain⟨z0,z1,z2,z3,z4,z5,z6,z7,z8,sg⟩:=(L2.out.of (hk3.block w.heap.size (by omega) (by omega))).nine;have R:=Zaa (Ycs (Y2.out.trans (De.map_ok hy)) (Ycs (K2.out.trans hk3) (Ycs hd3 (Ycs (Za3.stable (ty:=Zad) 4 _ _ _ _ _ HQ.out.1 fun j hj=>hk3.block j (HQ.out.2.lt j hj) (by have:=HQ.out.2.ge j hj;omega)) (Ycs hQ2 hN2)))));have hs3:=hk3.size;clear hy hk3 hd3 hQ2 hN2 C3 Y2;go_wp2_with fail
 refine bodyPost_ret (by simp[results,Tryz.results169,go_sem,z0,z1,z2,z3,z4,z5,z6,z7,z8];try rfl) rfl ?_;obtain⟨hY,hK,hD,hA,hB,hN2⟩:=R.out;refine⟨hK.r9 lr,Or.inr ⟨_,r3,_,hY,rfl,⟨_,F++G,rfl,⟨_,_,F,G,rfl,⟨by show(_:Int)<=(op:Int);omega,by show(op:Int)<=_;omega⟩,Za3.stable (ty:=Zad) 4 _ _ _ _ _ hA fun j hj=>Zk8 (by have:=HQ.out.2.ge j hj;omega),Za3.stable (ty:=Zad) 4 _ _ _ _ _ hB fun j hj=>Zk8 (by have:=hN2.ge j hj;omega),rfl⟩,?_⟩,hD.of (Zk8 (by omega))⟩⟩;exact(HQ.out.2.later (B':=w.heap.size) (by omega) lr).append (hN2.later (B':=w2.heap.size) lr (by simp)) (by omega) lr (by simp;omega)
theorem Ztk (CL:Zb5)(Z:Zap a w)(h:Dc w b l):
  Calls Tryz.prog 123 #[.pointer (some ⟨b,0,none⟩)] w (Zeq a b (Zk3 (Zbq Zad 4) w.heap.size) w (Zpg l)):=by
 have hb:=h.1.lt;have hgb:=h.2.2;have hmf:=Zg8;have K0:=Zaa ((Zaf.refl b w).alloc (.cells #[.string ⟨#[]⟩,.slice none 0 0,.slice none 0 0,.slice none 0 0] 101));have L0:=Zaa (Blk.new w #[.string ⟨#[]⟩,.slice none 0 0,.slice none 0 0,.slice none 0 0] 101);have ea:Zam 69:=Zak Tryz.func69 (by kernel_rfl) rfl;have eg:Zam 169:=Zak Tryz.func169 (by kernel_rfl) rfl;have C:=Zaa (Zij (d:=4) (f:=Zpn) ea (first:=#[.pointer (some ⟨b,0,none⟩)]) (cap:=#[]) (m:=4) (Z.keeps K0.out hgb) (h.alloc (.cells #[.string ⟨#[]⟩,.slice none 0 0,.slice none 0 0,.slice none 0 0] 101)) (by omega) fun u r hu=>Znv CL hu.2.2 hu.1);have CG:=Zaa (fun u r (hz:Zap a u) (hd:Dc u b r)=>Zmo (d:=3) (f:=Zm7) eg (first:=#[.pointer (some ⟨b,0,none⟩)]) (cap:=#[]) (m:=4) hz hd (by omega) fun u r hu=>Z0v CL hu.2.2 hu.1);have ZZ:=Zaa Z;clear Z h CL ea eg;go_enter Tryz.func123,Tryz.ntmps123
 go_wp2_with fail
 refine C.out.mono ?_;rintro e w1 ⟨hk1,⟨i,hy,hi,rfl⟩ | ⟨xs,r1,v,hy,rfl,⟨F,hR,hN⟩,hd1⟩⟩
 ·exact⟨rfl,K0.out.trans hk1,Or.inl ⟨i,De.then_error hy,hi,rfl⟩⟩
 obtain⟨p1,c1,rfl⟩:=Zag.form hR;have K1:=Zaa (K0.out.trans hk1);have Y:=Zaa (De.then_ok (g:=fun l=>(Zbt 4 Zm7).map fun g=>(⟨⟨ByteArray.empty,[]⟩,l,g⟩:R)) hy);have L1:=Zaa (L0.out.of (hk1.block w.heap.size (by simp) (by omega)));have C2:=Zaa (CG.out _ _ (ZZ.out.keeps K1.out hgb) hd1);have HR:=Zaa (Ycs hR hN);have hs1:=L1.out.lt;clear hy hk1 hd1 C L0 K0 hR hN CG;go_wp2_with fail
 refine C2.out.mono ?_;rintro e w2 ⟨hk2,⟨i,hy,hi,rfl⟩ | ⟨gs,r2,v,hy,rfl,⟨G,hR,hN⟩,hd2⟩⟩
 ·exact⟨rfl,K1.out.trans hk2,Or.inl ⟨i,Y.out.trans (De.map_error hy),hi,rfl⟩⟩
 obtain⟨p2,c2,rfl⟩:=Zag.form hR;obtain⟨z0,z1,z2,z3,sg⟩:=(L1.out.of (hk2.block w.heap.size hs1 (by omega))).four;have R:=Zaa (Ycs (Y.out.trans (De.map_ok hy)) (Ycs (K1.out.trans hk2) (Ycs hd2 (Ycs (Zej.stable (ty:=Zad) HR.out.1 fun j hj=>hk2.block j (HR.out.2.lt j hj) (by have:=HR.out.2.ge j hj;simp at this;omega)) (Ycs hR hN)))));have hs2:=hk2.size;clear hy hk2 hd2 hR hN C2 Y;go_wp2_with fail
 refine bodyPost_ret (by simp[results,Tryz.results123,go_sem,z0,z1,z2,z3];try rfl) rfl ?_;obtain⟨hY,hK,hD,hA,hB,hN2⟩:=R.out;have n1:=HR.out.2;simp only[Yc4]at n1;refine⟨hK.r4 lr,Or.inr ⟨_,r2,_,hY,rfl,⟨_,[]++(F++G),rfl,⟨_,_,_,[],F,G,rfl,⟨_,rfl,(by decide:(0:Nat) < 1000000000),Zag.nil⟩,Zej.stable (ty:=Zad) hA fun j hj=>Zcc (by have:=n1.ge j hj;omega),Zfq.stable (ty:=Zad) hB fun j hj=>Zcc (by have:=hN2.ge j hj;omega),rfl⟩,?_⟩,hD.of (Zcc (by omega))⟩⟩;exact(n1.later (B':=w.heap.size) (by omega) lr).append (hN2.later (B':=w1.heap.size) lr (by simp)) (by omega) lr (by simp;omega)
end Go.P
namespace Go.W
variable {B:Nat}{w:World}{F:List Nat}
theorem Za9.right {G:List Nat}(h:Za9 B w (F++G)):Za9 B w G:=⟨(Yd4.1 h.once).2.1,fun k hk=>h.ge k (Ydv _ hk),fun k hk=>h.lt k (Ydv _ hk)⟩
theorem Za9.left {G:List Nat}(h:Za9 B w (F++G)):Za9 B w F:=⟨(Yd4.1 h.once).1,fun k hk=>h.ge k (Yd0 _ hk),fun k hk=>h.lt k (Yd0 _ hk)⟩
theorem Zbq.rows {ty:Tys}{d:Nat}{x:R}{v0 v1 v2 v3:Value}(h:Zbq ty d w [v0,v1,v2,v3] x F): ∃ Fh Fb Fg,Zbj ty d w [v0,v1] x.head Fh/\Zej ty d w v2 x.body Fb/\Zfq ty d w v3 x.guards Fg/\F=Fh++(Fb++Fg):=by
 obtain⟨hv,bv,gv,Fh,Fb,Fg,e,hh,hb,hg,hF⟩:=h;obtain⟨p,c,rfl⟩:=Zbj.vals hh;injection e with e0 e;injection e with e1 e;injection e with e2 e;injection e with e3 e;subst e0 e1 e2 e3;exact⟨Fh,Fb,Fg,hh,hb,hg,hF⟩
end Go.W
namespace Go.P
variable {a:Nat->Addr}{w:World}{b:Nat}{l:By}
theorem Z3v (CL:Zb5)(Z:Zap a w)(h:Dc w b l):
  Calls Tryz.prog 71 #[.pointer (some ⟨b,0,none⟩)] w (Zeq a b (Zk3 (Zbq Zad 4) w.heap.size) w (Zw3 l)):=by
 have hb:=h.1.lt;have hgb:=h.2.2;have K0:=Zaa ((Zaf.refl b w).alloc (.cells #[.string ⟨#[]⟩,.slice none 0 0,.slice none 0 0,.slice none 0 0] 101));have L0:=Zaa (Blk.new w #[.string ⟨#[]⟩,.slice none 0 0,.slice none 0 0,.slice none 0 0] 101);have C:=Zaa (Znv CL (Z.keeps K0.out hgb) (h.alloc (.cells #[.string ⟨#[]⟩,.slice none 0 0,.slice none 0 0,.slice none 0 0] 101)));have CB:=Zaa (fun u r (hz:Zap a u) (hd:Dc u b r)=>Ztk CL hz hd);have ZZ:=Zaa Z;clear Z h CL;go_enter Tryz.func71,Tryz.ntmps71
 go_wp2_with fail
 refine C.out.mono ?_;rintro e w1 ⟨hk1,⟨i,hy,hi,rfl⟩ | ⟨x,r1,v,hy,rfl,⟨vs,F,rfl,hQ,hN⟩,hd1⟩⟩
 ·exact⟨rfl,K0.out.trans hk1,Or.inl ⟨i,De.then_error hy,hi,rfl⟩⟩
 obtain⟨p1,c1,rfl⟩:=Zbj.vals hQ;have K1:=Zaa (K0.out.trans hk1);have Y:=Zaa (De.then_ok (g:=fun h=>Zpg.map fun b=>(⟨h,b.body,b.guards⟩:R)) hy);have L1:=Zaa (L0.out.of (hk1.block w.heap.size (by simp) (by omega)));have HR:=Zaa (Ycs hQ (Ycs hN (Ycs hd1 (ZZ.out.keeps K1.out hgb))));have hs1:=L1.out.lt;clear hy hk1 hd1 C L0 K0 hQ hN;go_wp2_with fail
 have KA:=Zaa (K1.out.alloc (.cells #[.string x.name,.slice p1 x.terms.length c1] 98));have LA:=Zaa (Blk.new w1 #[.string x.name,.slice p1 x.terms.length c1] 98);have LR:=Zaa (L1.out.alloc (.cells #[.string x.name,.slice p1 x.terms.length c1] 98));refine(CB.out _ _ (ZZ.out.keeps KA.out hgb) (HR.out.2.2.1.alloc _)).mono ?_;rintro e w2 ⟨hk2,⟨i,hy,hi,rfl⟩ | ⟨z,r2,v,hy,rfl,⟨us,G,rfl,hQ2,hN2⟩,hd2⟩⟩
 ·exact⟨rfl,KA.out.trans hk2,Or.inl ⟨i,Y.out.trans (De.map_error hy),hi,rfl⟩⟩
 have Z5:=Zaa hQ2;obtain⟨q0,k0,q1,k1,q2,k2,rfl⟩:=Zbq.vals hQ2;have hs2:=hk2.size;simp only[Yc4]at hs2;have LA2:=Zaa (LA.out.of (hk2.block w1.heap.size (by simp) (by omega)));have LR2:=Zaa (LR.out.of (hk2.block w.heap.size (by simp;omega) (by omega)));have y0:=fun o=>(LA2.out.alloc o).two.1;have y1:=fun o=>(LA2.out.alloc o).two.2.1;have z0:=fun o=>(LR2.out.alloc o).four.1;have z1:=fun o=>(LR2.out.alloc o).four.2.1;have z2:=fun o=>(LR2.out.alloc o).four.2.2.1;have z3:=fun o=>(LR2.out.alloc o).four.2.2.2.1;have z4:=fun o=>(LR2.out.alloc o).four.2.2.2.2;have R:=Zaa (Ycs (Y.out.trans (De.map_ok hy)) (Ycs (KA.out.trans hk2) (Ycs hd2 (Ycs (Zbj.stable (ty:=Zad) 4 _ _ _ _ _ HR.out.1 fun j hj=>(hk2.block j (by have:=HR.out.2.1.lt j hj;simp;omega) (by have:=HR.out.2.1.ge j hj;simp at this;omega)).trans (Ycx _ _ _ (HR.out.2.1.lt j hj))) hN2))));clear hy hk2 hd2 hN2 hQ2 Y KA LA LR K1 L1 CB;go_wp2_with fail
 refine bodyPost_ret (by simp[results,Tryz.results71,go_sem,z0,z1,z2,z3];try rfl) rfl ?_;obtain⟨hY,hK,hD,hA,hN2⟩:=R.out;obtain⟨Fh,Fb,Fg,_,hb5,hg5,rfl⟩:=Zbq.rows Z5.out;have n1:=HR.out.2.1;have n2:=hN2.right;simp only[Yc4]at n1 n2;have st: ∀ j,j≠w.heap.size->j < w2.heap.size-> ∀ o x0 x1 x2 x3,(((((w2.alloc o).setCell ⟨w.heap.size,0,none⟩ x0).setCell ⟨w.heap.size,1,none⟩ x1).setCell ⟨w.heap.size,2,none⟩ x2).setCell ⟨w.heap.size,3,none⟩ x3).heap[j]?=w2.heap[j]?:=fun j hj hl o x0 x1 x2 x3=>(Zcc hj).trans (Ycx _ _ _ hl);refine⟨(hK.alloc _).r4 lr,Or.inr ⟨_,r2,_,hY,rfl,⟨_,F++(Fb++Fg),rfl,⟨_,_,_,F,Fb,Fg,rfl,Zbj.stable (ty:=Zad) 4 _ _ _ _ _ hA fun j hj=>st j (by have:=n1.ge j hj;omega) (by have:=n1.lt j hj;omega) _ _ _ _ _,Zej.stable (ty:=Zad) hb5 fun j hj=>st j (by have:=n2.left.ge j hj;omega) (n2.left.lt j hj) _ _ _ _ _,Zfq.stable (ty:=Zad) hg5 fun j hj=>st j (by have:=n2.right.ge j hj;omega) (n2.right.lt j hj) _ _ _ _ _,rfl⟩,?_⟩,hD.of (st b (by omega) hD.1.lt _ _ _ _ _)⟩⟩;exact(n1.later (B':=w.heap.size) (by omega) lr).append (n2.later (B':=w1.heap.size) (by omega) (by simp)) (by omega) lr (by simp;omega)
theorem Zz3 (CL:Zb5)(Z:Zap a w)(h:Dc w b l):
  Calls Tryz.prog 73 #[.pointer (some ⟨b,0,none⟩)] w (Zeq a b (Zk3 (Zbu Zad 4) w.heap.size) w (Zq8 l)):=by
 have hb:=h.1.lt;have hgb:=h.2.2;have hmf:=Zg8;have K0:=Zaa ((Zaf.refl b w).alloc (.cells #[.slice none 0 0] 67));have L0:=Zaa (Blk.new w #[.slice none 0 0] 67);have eb:Zam 123:=Zak Tryz.func123 (by kernel_rfl) rfl;have C:=Zaa (Zic (d:=4) (f:=Zpg) eb (first:=#[.pointer (some ⟨b,0,none⟩)]) (cap:=#[]) (m:=4) (Z.keeps K0.out hgb) (h.alloc (.cells #[.slice none 0 0] 67)) (by omega) fun u r hu=>Ztk CL hu.2.2 hu.1);clear Z h CL eb;go_enter Tryz.func73,Tryz.ntmps73
 go_wp2_with fail
 refine C.out.mono ?_;rintro e w1 ⟨hk1,⟨i,hy,hi,rfl⟩ | ⟨xs,r1,v,hy,rfl,⟨F,hR,hN⟩,hd1⟩⟩
 ·exact⟨rfl,K0.out.trans hk1,Or.inl ⟨i,hy,hi,rfl⟩⟩
 obtain⟨p1,c1,rfl⟩:=Zag.form hR;obtain⟨z0,sg⟩:=(L0.out.of (hk1.block w.heap.size (by simp) (by omega))).one;have R:=Zaa (Ycs hy (Ycs (K0.out.trans hk1) (Ycs hd1 (Ycs hR hN))));clear hy hk1 hd1 hR hN C;go_wp2_with fail
 refine bodyPost_ret (by simp[results,Tryz.results73,go_sem,z0];try rfl) rfl ?_;obtain⟨hY,hK,hD,hR,hN⟩:=R.out;simp only[Yc4]at hN;exact⟨hK.r1 lr,Or.inr ⟨_,r1,_,hY,rfl,⟨_,F,rfl,⟨_,rfl,Zhw.stable (ty:=Zad) hR fun j hj=>Z13 (by have:=hN.ge j hj;omega)⟩,hN.later (by omega) (by simp)⟩,hD.of (Z13 (by omega))⟩⟩
theorem Z1m (CL:Zb5)(Z:Zap a w)(h:Dc w b l):
  Calls Tryz.prog 33 #[.pointer (some ⟨b,0,none⟩)] w (Zeq a b (Zk3 (Zba Zad 4) w.heap.size) w (Zil l)):=by
 have hb:=h.1.lt;have hgb:=h.2.2;have hmf:=Zg8;have K0:=Zaa ((Zaf.refl b w).alloc (.cells #[.slice none 0 0,.slice none 0 0,.slice none 0 0] 38));have L0:=Zaa (Blk.new w #[.slice none 0 0,.slice none 0 0,.slice none 0 0] 38);have ea:Zam 69:=Zak Tryz.func69 (by kernel_rfl) rfl;have er:Zam 71:=Zak Tryz.func71 (by kernel_rfl) rfl;have ec:Zam 73:=Zak Tryz.func73 (by kernel_rfl) rfl;have C:=Zaa (Zij (d:=4) (f:=Zpn) ea (first:=#[.pointer (some ⟨b,0,none⟩)]) (cap:=#[]) (m:=24) (Z.keeps K0.out hgb) (h.alloc (.cells #[.slice none 0 0,.slice none 0 0,.slice none 0 0] 38)) (by omega) fun u r hu=>Znv CL hu.2.2 hu.1);have CG:=Zaa (fun u r (hz:Zap a u) (hd:Dc u b r)=>Zic (d:=4) (f:=Zw3) er (first:=#[.pointer (some ⟨b,0,none⟩)]) (cap:=#[]) (m:=24) hz hd (by omega) fun u r hu=>Z3v CL hu.2.2 hu.1);have CK:=Zaa (fun u r (hz:Zap a u) (hd:Dc u b r)=>Zmj (d:=4) (f:=Zq8) ec (first:=#[.pointer (some ⟨b,0,none⟩)]) (cap:=#[]) (m:=24) hz hd (by omega) fun u r hu=>Zz3 CL hu.2.2 hu.1);have ZZ:=Zaa Z;clear Z h CL ea er ec;go_enter Tryz.func33,Tryz.ntmps33
 go_wp2_with fail
 refine C.out.mono ?_;rintro e w1 ⟨hk1,⟨i,hy,hi,rfl⟩ | ⟨xs,r1,v,hy,rfl,⟨F,hR,hN⟩,hd1⟩⟩
 ·exact⟨rfl,K0.out.trans hk1,Or.inl ⟨i,De.then_error hy,hi,rfl⟩⟩
 obtain⟨p1,c1,rfl⟩:=Zag.form hR;have K1:=Zaa (K0.out.trans hk1);have Y:=Zaa (De.then_ok (g:=fun f=>(Zbt 24 Zw3).then fun r=>(Zbt 24 Zq8).map fun c=>(⟨f,r,c⟩:Bk)) hy);have L1:=Zaa (L0.out.of (hk1.block w.heap.size (by simp) (by omega)));have C2:=Zaa (CG.out _ _ (ZZ.out.keeps K1.out hgb) hd1);have HR:=Zaa (Ycs hR hN);have hs1:=L1.out.lt;clear hy hk1 hd1 C L0 K0 hR hN CG;go_wp2_with fail
 refine C2.out.mono ?_;rintro e w2 ⟨hk2,⟨i,hy,hi,rfl⟩ | ⟨gs,r2,v,hy,rfl,⟨G,hR,hN⟩,hd2⟩⟩
 ·exact⟨rfl,K1.out.trans hk2,Or.inl ⟨i,Y.out.trans (De.then_error hy),hi,rfl⟩⟩
 obtain⟨p2,c2,rfl⟩:=Zag.form hR;have K2:=Zaa (K1.out.trans hk2);have Y2:=Zaa (Y.out.trans (De.then_ok (g:=fun r=>(Zbt 24 Zq8).map fun c=>(⟨xs,r,c⟩:Bk)) hy));have L2:=Zaa (L1.out.of (hk2.block w.heap.size hs1 (by omega)));have C3:=Zaa (CK.out _ _ (ZZ.out.keeps K2.out hgb) hd2);have n1:=HR.out.2;simp only[Yc4]at n1;have HR2:=Zaa (Ycs (Zej.stable (ty:=Zad) HR.out.1 fun j hj=>hk2.block j (n1.lt j hj) (by have:=n1.ge j hj;omega)) (Ycs hR hN));have HN1:=Zaa n1;have hs2:=hk2.size;clear hy hk2 hd2 C2 L1 K1 Y hR hN HR n1 CK;go_wp2_with fail
 refine C3.out.mono ?_;rintro e w3 ⟨hk3,⟨i,hy,hi,rfl⟩ | ⟨cs,r3,v,hy,rfl,⟨H,hR,hN⟩,hd3⟩⟩
 ·exact⟨rfl,K2.out.trans hk3,Or.inl ⟨i,Y2.out.trans (De.map_error hy),hi,rfl⟩⟩
 obtain⟨p3,c3,rfl⟩:=Zag.form hR;obtain⟨z0,z1,z2,sg⟩:=(L2.out.of (hk3.block w.heap.size (by omega) (by omega))).three;have R:=Zaa (Ycs (Y2.out.trans (De.map_ok hy)) (Ycs (K2.out.trans hk3) (Ycs hd3 (Ycs (Zej.stable (ty:=Zad) HR2.out.1 fun j hj=>hk3.block j (by have:=HN1.out.lt j hj;omega) (by have:=HN1.out.ge j hj;omega)) (Ycs (Zhw.stable (ty:=Zad) HR2.out.2.1 fun j hj=>hk3.block j (HR2.out.2.2.lt j hj) (by have:=HR2.out.2.2.ge j hj;omega)) (Ycs hR hN))))));have hs3:=hk3.size;clear hy hk3 hd3 hR hN C3 Y2;go_wp2_with fail
 refine bodyPost_ret (by simp[results,Tryz.results33,go_sem,z0,z1,z2];try rfl) rfl ?_;obtain⟨hY,hK,hD,hA,hB,hC,hN3⟩:=R.out;have n1:=HN1.out;have n2:=HR2.out.2.2;refine⟨hK.r3 lr,Or.inr ⟨_,r3,_,hY,rfl,⟨_,F++(G++H),rfl,⟨_,_,_,F,G,H,rfl,Zej.stable (ty:=Zad) hA fun j hj=>Zfa (by have:=n1.ge j hj;omega),Zhw.stable (ty:=Zad) hB fun j hj=>Zfa (by have:=n2.ge j hj;omega),Zip.stable (ty:=Zad) hC fun j hj=>Zfa (by have:=hN3.ge j hj;omega),rfl⟩,?_⟩,hD.of (Zfa (by omega))⟩⟩;exact(n1.later (B':=w.heap.size) (by omega) lr).append ((n2.later (B':=w1.heap.size) lr lr).append (hN3.later (B':=w2.heap.size) lr (by simp)) (by omega) lr (by simp;omega)) (by omega) lr (by simp;omega)
end Go.P
namespace Go.W
theorem Zba.toS {ty:Tys}{d B:Nat}{w:World}{vs:List Value}{x:Bk}{F:List Nat}(h:Zba ty (d+1) w vs x F)(hF: ∀ k,k∈F->k < B):Zbk B w d vs x:=by
 obtain⟨fv,rv,cv,F1,F2,F3,rfl,h1,h2,h3,rfl⟩:=h;obtain⟨p1,c1,rfl,l1,r1⟩:=Zej.rep h1 fun k hk=>hF k (by simp[hk]);obtain⟨p2,c2,rfl,l2,r2⟩:=Zhw.rep h2 fun k hk=>hF k (by simp[hk]);obtain⟨p3,c3,rfl,l3,r3⟩:=Zip.rep h3 fun k hk=>hF k (by simp[hk]);exact⟨p1,c1,p2,c2,p3,c3,rfl,l1,r1,l2,r2,l3,r3⟩
end Go.W
namespace Go.P
variable {n:Int}{l:By}{a:Nat->Addr}{w:World}
theorem Zji (v:Value)(w:World):(Instr.typeAssert (.iface 158 v) 20 158 true).run Tryz.prog w= .ok (.tuple #[v,.bool true]) w:=by kernel_rfl
theorem Zjh (b:Nat)(x:Value)(a:Nat->Addr)(hn:n≠0)(w:World)(hc:w.cell? ⟨b,0,none⟩=some x)(hf:w.frozen? ⟨b,0,none⟩=false):CallsD Tryz.prog 66 #[.pointer (some ⟨b,0,none⟩)] (.panicking [{v:= .iface 158 (.agg #[Zc3 a n]),recovered:=false}]) w fun e u' w'=>
  e= .returned (.tuple #[])/\u'= .panicking [{v:= .iface 158 (.agg #[Zc3 a n]),recovered:=true}]/\w'=(w.alloc (.cells #[Zc3 a n] 158)).setCell ⟨b,0,none⟩ (Zc3 a n):=by
 rw[Zah _ hn];have hbl:=Zbi hc;refine callsD_of_wpS Tryz.func66 rfl fun c₀ cs hu=>?_;apply wpS_seq
 apply wpS_region
 simp[wpOpsS,go_sem,recoverD,hu,Tryz.ntmps66,Exit.thenS,Array.replicate,List.replicate];refine wpS_of_wp ?_;have ta:=Zji;go_wp2_with fail
 simp[bodyPostS,results,Tryz.results66]
theorem Zw0 (b:Nat)(w:World):CallsD Tryz.prog 66 #[.pointer (some ⟨b,0,none⟩)] .returning w fun e u' w'=>e= .returned (.tuple #[])/\u'= .returning/\w'=w:=by
 refine callsD_of_wpS Tryz.func66 rfl fun c₀ cs hu=>?_;apply wpS_seq
 apply wpS_region
 simp[wpOpsS,go_sem,recoverD,hu,Tryz.ntmps66,Exit.thenS,Array.replicate,List.replicate];refine wpS_of_wp ?_;go_wp2_with fail
 cases c₀;simp_all [bodyPostS,results,Tryz.results66]
theorem Zme {α:Type}{f:De α}{e:Int}(h:f l= .error e):Zc7 f l= .error e:=by unfold Zc7;rw[h]
theorem Zs6 {α:Type}{f:De α}{r:By}{x:α}(h:f l= .ok (x,r)):Zc7 f l=if r=[]then .ok x else .error 7:=by unfold Zc7;rw[h]
def Zt6 (a:Nat->Addr) (w:World) (Y:Except Int Bk) (e:Ending) (w':World):Prop:=
 Below w.heap.size w w'/\((∃ n,Y= .error n/\n≠0/\e= .returned (.tuple #[.agg #[.slice none 0 0,.slice none 0 0,.slice none 0 0],Zc3 a n]))\/ ∃ x vs F,Y= .ok x/\e= .returned (.tuple #[.agg vs.toArray,.nilIface])/\Zba Zad 4 w' vs x F/\Za9 w.heap.size w' F)
theorem Zrh:Zam 33:=Zak Tryz.func33 (by kernel_rfl) rfl
theorem Zno (CL:Zb5)(Z:Zap a w)(hg:23<=w.heap.size)(hl:l.length < 1000000000):
  Calls Tryz.prog 32 #[.string (ba l),.func (.func 33) #[] #[]] w (Zt6 a w (Zc7 Zil l)):=by
 have hmf:=Zg8;have hen': ∀ args w,(callFunc 33 args).run Tryz.prog w= .ok (.enter 33 args) w:=Zrh;have B0:=Zaa ((((Yct w.heap.size w).alloc lr (.cells #[.slice none 0 0,.slice none 0 0,.slice none 0 0] 38)).alloc (by simp) (.cells #[.nilIface] 58)).alloc (by simp;omega) (.cells #[.string (ba l)] 160));have LR:=Zaa (((Blk.new w #[.slice none 0 0,.slice none 0 0,.slice none 0 0] 38).alloc (.cells #[.nilIface] 58)).alloc (.cells #[.string (ba l)] 160));have LE:=Zaa ((Blk.new (w.alloc (.cells #[.slice none 0 0,.slice none 0 0,.slice none 0 0] 38)) #[.nilIface] 58).alloc (.cells #[.string (ba l)] 160));have LD:=Zaa (Blk.new ((w.alloc (.cells #[.slice none 0 0,.slice none 0 0,.slice none 0 0] 38)).alloc (.cells #[.nilIface] 58)) #[.string (ba l)] 160);simp only[Yc4]at LE LD;have C:=Zaa (Z1m CL (Z.below B0.out) (b:=w.heap.size+1+1) (l:=l) ⟨LD.out,hl,by omega⟩);have ZZ:=Zaa Z;clear Z CL LD;go_enter_defers Tryz.func32,Tryz.ntmps32
 go_wp2_with fail
 refine C.out.mono ?_;rintro e w1 ⟨hk1,⟨n,hy,hn,rfl⟩ | ⟨x,r,v,hy,rfl,⟨vs,F,rfl,hQ,hN⟩,hd1⟩⟩
 ·have LR1:=LR.out.of (hk1.block w.heap.size (by simp;omega) (by omega));have LE1:=LE.out.of (hk1.block (w.heap.size+1) (by simp) (by omega));have B1:=Zaa (B0.out.trans (hk1.below (B:=w.heap.size) (by omega) (by simp;omega)));obtain⟨y0,sy⟩:=LE1.one;have q0:=Zaa ((LR1.alloc (.cells #[Zc3 a n] 158)).away (w.heap.size+1) 0 (by omega) (Zc3 a n));have q1:=Zaa ((LE1.alloc (.cells #[Zc3 a n] 158)).set 0 (Zc3 a n));have q2:=Zaa ((B1.out.alloc (by have:=LR1.lt;omega) (.cells #[Zc3 a n] 158)).setCell (p:=⟨w.heap.size+1,0,none⟩) (by show w.heap.size<=w.heap.size+1;omega) (Zc3 a n));refine leaves_cons (f:=66) (args:=#[.pointer (some ⟨w.heap.size+1,0,none⟩)]) (by simp) (by simp[go_sem]) ?_;refine(Zjh _ _ a hn w1 y0 (sy 0)).mono ?_;rintro e u' w'' ⟨rfl,rfl,hw⟩;rw[<- hw]at q0 q1 q2;obtain⟨z0,z1,z2,sz⟩:=q0.out.three;obtain⟨x0,sx⟩:=Blk.one (a:=Zc3 a n) q1.out;clear hw;simp[Leaves,settle,results,Tryz.results32,go_sem,z0,z1,z2,x0];exact⟨q2.out,Or.inl ⟨n,Zme hy,hn,rfl⟩⟩
 ·have HQ:=Zaa hQ;obtain⟨fv,rv,cv,F1,F2,F3,rfl,h1,h2,h3,hF⟩:=hQ;obtain⟨p1,c1,rfl⟩:=Zag.form h1;obtain⟨p2,c2,rfl⟩:=Zag.form h2;obtain⟨p3,c3,rfl⟩:=Zag.form h3;have LR1:=Zaa (LR.out.of (hk1.block w.heap.size (by simp;omega) (by omega)));have LE1:=Zaa (LE.out.of (hk1.block (w.heap.size+1) (by simp) (by omega)));have B1:=Zaa (B0.out.trans (hk1.below (B:=w.heap.size) (by omega) (by simp;omega)));have Y:=Zaa (Zs6 hy);have HD:=Zaa hd1;have HN:=Zaa hN;have Z1:=Zaa (ZZ.out.below B1.out);have x0:=fun o=>(hd1.1.alloc o).one.1;have hr:(ba r).toList=[]↔r=[]:=by
   rw[Ydl];simp[ba]
  clear h1 h2 h3 hF hk1 hd1 hN hy C LR LE;by_cases hr0:r=[]
  ·have Y1:Box (Zc7 Zil l= .ok x):=⟨by rw[Y.out,if_pos hr0]⟩;have g:=hr.2 hr0;clear hr hr0 Y;generalize ba r=s at*;have z0:=fun o=>(LR1.out.alloc o).three.1;have z1:=fun o=>(LR1.out.alloc o).three.2.1;have z2:=fun o=>(LR1.out.alloc o).three.2.2.1;have z3:=fun o=>(LR1.out.alloc o).three.2.2.2;have e0:=fun o=>(LE1.out.alloc o).one.1;have e1:=fun o=>(LE1.out.alloc o).one.2;have q0:=Zaa (((((LR1.out.alloc (.cells #[.slice p1 x.facts.length c1,.slice p2 x.rules.length c2,.slice p3 x.checks.length c3] 38)).set 0 (.slice p1 x.facts.length c1)).set 1 (.slice p2 x.rules.length c2)).set 2 (.slice p3 x.checks.length c3)).away (w.heap.size+1) 0 (by omega) .nilIface);have q1:=Zaa (((((LE1.out.alloc (.cells #[.slice p1 x.facts.length c1,.slice p2 x.rules.length c2,.slice p3 x.checks.length c3] 38)).away w.heap.size 0 (by omega) (.slice p1 x.facts.length c1)).away w.heap.size 1 (by omega) (.slice p2 x.rules.length c2)).away w.heap.size 2 (by omega) (.slice p3 x.checks.length c3)).set 0 .nilIface);have hs1:=B1.out.size;have q2:=Zaa (((((B1.out.alloc hs1 (.cells #[.slice p1 x.facts.length c1,.slice p2 x.rules.length c2,.slice p3 x.checks.length c3] 38)).setCell (p:=⟨w.heap.size,0,none⟩) lr (.slice p1 x.facts.length c1)).setCell (p:=⟨w.heap.size,1,none⟩) lr (.slice p2 x.rules.length c2)).setCell (p:=⟨w.heap.size,2,none⟩) lr (.slice p3 x.checks.length c3)).setCell (p:=⟨w.heap.size+1,0,none⟩) (by show w.heap.size<=w.heap.size+1;omega) .nilIface);have q3:Box (∀ j,j∈F->(((((w1.alloc (.cells #[.slice p1 x.facts.length c1,.slice p2 x.rules.length c2,.slice p3 x.checks.length c3] 38)).setCell ⟨w.heap.size,0,none⟩ (.slice p1 x.facts.length c1)).setCell ⟨w.heap.size,1,none⟩ (.slice p2 x.rules.length c2)).setCell ⟨w.heap.size,2,none⟩ (.slice p3 x.checks.length c3)).setCell ⟨w.heap.size+1,0,none⟩ .nilIface).heap[j]?=w1.heap[j]?):=⟨fun j hj=>by
    have g1:=HN.out.ge j hj;have g2:=HN.out.lt j hj;simp at g1;rw[Ycy _ _ _ _ (by show j≠w.heap.size+1;omega),Zfa (by omega)];exact Ycx _ _ _ g2⟩
   have q4:Box (Za9 w.heap.size (((((w1.alloc (.cells #[.slice p1 x.facts.length c1,.slice p2 x.rules.length c2,.slice p3 x.checks.length c3] 38)).setCell ⟨w.heap.size,0,none⟩ (.slice p1 x.facts.length c1)).setCell ⟨w.heap.size,1,none⟩ (.slice p2 x.rules.length c2)).setCell ⟨w.heap.size,2,none⟩ (.slice p3 x.checks.length c3)).setCell ⟨w.heap.size+1,0,none⟩ .nilIface) F):=⟨HN.out.later (by simp;omega) (by simp)⟩;go_wp2_with fail
   clear z0 z1 z2 z3 e0 e1 x0;refine leaves_cons (f:=66) (args:=#[.pointer (some ⟨w.heap.size+1,0,none⟩)]) (by simp) (by simp[go_sem]) ?_;refine(Zw0 _ _).mono ?_;rintro e u' w'' ⟨rfl,rfl,hw⟩;rw[<- hw]at q0 q1 q2 q3 q4;obtain⟨z0,z1,z2,sz⟩:=Blk.three (a:= .slice p1 x.facts.length c1) (b:= .slice p2 x.rules.length c2) (c:= .slice p3 x.checks.length c3) q0.out;obtain⟨x0,sx⟩:=Blk.one (a:= .nilIface) q1.out;clear hw;simp[Leaves,settle,results,Tryz.results32,go_sem,z0,z1,z2,x0];exact⟨q2.out,Or.inr ⟨x,_,F,Y1.out,rfl,Zba.stable (ty:=Zad) 4 _ _ _ _ _ HQ.out q3.out,q4.out⟩⟩
  ·have Y1:Box (Zc7 Zil l= .error 7):=⟨by rw[Y.out,if_neg hr0]⟩;have g:(ba r).toList.isEmpty=false:=by rw[List.isEmpty_eq_false_iff];exact fun q=>hr0 (hr.1 q)
   clear hr hr0 Y;generalize ba r=s at*;have z7:=fun o=>Zac Z1.out.c7 ((Yct _ w1).alloc lr o);have hs1:=B1.out.size;have CR:=Zaa (Zbp a (w.heap.size+1+1) (w1.alloc (.cells #[.slice p1 x.facts.length c1,.slice p2 x.rules.length c2,.slice p3 x.checks.length c3] 38)) (n:=7) (by decide));have LE2:=Zaa (LE1.out.alloc (.cells #[.slice p1 x.facts.length c1,.slice p2 x.rules.length c2,.slice p3 x.checks.length c3] 38));have q0:=Zaa (((LR1.out.alloc (.cells #[.slice p1 x.facts.length c1,.slice p2 x.rules.length c2,.slice p3 x.checks.length c3] 38)).alloc (.cells #[Zc3 a 7] 158)).away (w.heap.size+1) 0 (by omega) (Zc3 a 7));have q1:=Zaa ((LE2.out.alloc (.cells #[Zc3 a 7] 158)).set 0 (Zc3 a 7));have q2:=Zaa (((B1.out.alloc hs1 (.cells #[.slice p1 x.facts.length c1,.slice p2 x.rules.length c2,.slice p3 x.checks.length c3] 38)).alloc (by simp;omega) (.cells #[Zc3 a 7] 158)).setCell (p:=⟨w.heap.size+1,0,none⟩) (by show w.heap.size<=w.heap.size+1;omega) (Zc3 a 7));obtain⟨y0,sy⟩:=LE2.out.one;go_wp2_with fail
   refine CR.out.mono ?_;rintro e w2 ⟨rfl,rfl⟩;refine leaves_cons (f:=66) (args:=#[.pointer (some ⟨w.heap.size+1,0,none⟩)]) (by simp) (by simp[go_sem]) ?_;refine(Zjh _ _ a (n:=7) (by decide) _ y0 (sy 0)).mono ?_;rintro e u' w'' ⟨rfl,rfl,hw⟩;rw[<- hw]at q0 q1 q2;obtain⟨z0,z1,z2,sz⟩:=q0.out.three;obtain⟨u0,sx⟩:=Blk.one (a:=Zc3 a 7) q1.out;clear hw;simp[Leaves,settle,results,Tryz.results32,go_sem,z0,z1,z2,u0];exact⟨q2.out,Or.inl ⟨7,Y1.out,by decide,rfl⟩⟩
theorem Zwk (h:4000 < l.length):Zc2 l= .error 4:=if_pos h
theorem Zr7 (h: ¬ 4000 < l.length)(hw:Zc7 Zil l= .error n):Zc2 l= .error n:=by unfold Zc2;rw[if_neg h,hw]
theorem Z06 {x:Bk}(h: ¬ 4000 < l.length)(hw:Zc7 Zil l= .ok x):Zc2 l=if Zby x≠0 then .error (Zby x)else .ok x:=by unfold Zc2;rw[if_neg h,hw]
theorem Zq1 (V:Zbe)(CL:Zb5)(Z:Zap a w)(hg:23<=w.heap.size)(hl:l.length < 1000000000):
  Calls Tryz.prog 18 #[.string (ba l)] w (Zt6 a w (Zc2 l)):=by
 have hsl:(ba l).size < 1000000000:=by rw[Ze7];exact hl
 have HS:=Zaa (Ze7 l);have B0:=Zaa ((Yct w.heap.size w).alloc lr (.cells #[.slice none 0 0,.slice none 0 0,.slice none 0 0] 38));have CW:=Zaa (Zno CL (Z.below B0.out) (by simp;omega) hl);have z4:=Z.c4;have hz:=Zaa Z;clear Z CL;by_cases hb:4000 < l.length
 ·have Y:=Zaa (Zwk hb);have g:(4000:Int) < ((ba l).size:Int):=by have:=HS.out;omega
  generalize ba l=s at*;have z4':=fun o=>Zac z4 ((Yct _ w).alloc lr o);clear CW z4;go_enter Tryz.func18,Tryz.ntmps18
  go_wp2_with fail
  go_region
  all_goals
   go_wp2_with fail
   refine bodyPost_ret (by simp[results,Tryz.results18,go_sem];try rfl) rfl ?_;exact⟨((Yct w.heap.size w).alloc lr _).drew,Or.inl ⟨4,Y.out,by decide,rfl⟩⟩
 ·have YE:=Zaa (fun n h=>Zr7 (n:=n) hb h);have YO:=Zaa (fun x h=>Z06 (x:=x) hb h);have g: ¬ (4000:Int) < ((ba l).size:Int):=by have:=HS.out;omega
  have L0:=Zaa (Blk.new w #[.slice none 0 0,.slice none 0 0,.slice none 0 0] 38);clear z4;generalize ba l=s at*;go_enter Tryz.func18,Tryz.ntmps18
  go_wp2_with fail
  refine CW.out.mono ?_;rintro e w1 ⟨hb1,⟨n,hy,hn,rfl⟩ | ⟨x,vs,F,hy,rfl,hQ,hN⟩⟩
  ·have Y:=Zaa (YE.out n hy);have L1:=Zaa (Zci L0.out hb1);have B1:=Zaa (B0.out.trans (hb1.mono (by simp)));have z0:=fun o=>(L1.out.alloc o).three.1;have z1:=fun o=>(L1.out.alloc o).three.2.1;have z2:=fun o=>(L1.out.alloc o).three.2.2.1;have z3:=fun o=>(L1.out.alloc o).three.2.2.2;rw[Zah _ hn];clear hy hb1 CW YE YO;go_wp2_with fail
   refine bodyPost_ret (by simp[results,Tryz.results18,go_sem,z0,z1,z2];try rfl) rfl ?_;exact⟨(((B1.out.alloc B1.out.size _).setCell (p:=⟨w.heap.size,0,none⟩) lr _).setCell (p:=⟨w.heap.size,1,none⟩) lr _).setCell (p:=⟨w.heap.size,2,none⟩) lr _,Or.inl ⟨n,Y.out,hn,by rw[Zah _ hn]⟩⟩
  ·have Y:=Zaa (YO.out x hy);have L1:=Zaa (Zci L0.out hb1);have B1:=Zaa (B0.out.trans (hb1.mono (by simp)));have hs1:=B1.out.size;have HQ:=Zaa hQ;have HN:=Zaa hN;have HS5:=Zaa (Zba.toS hQ (B:=w1.heap.size) (fun k hk=>hN.lt k hk));obtain⟨fv,rv,cv,F1,F2,F3,rfl,h1,h2,h3,hF⟩:=hQ;obtain⟨p1,c1,rfl⟩:=Zag.form h1;obtain⟨p2,c2,rfl⟩:=Zag.form h2;obtain⟨p3,c3,rfl⟩:=Zag.form h3;have CB:=Zaa (fun u (hu:Below w1.heap.size w1 u)=>Zgg V ((hz.out.below B1.out).below hu) hu.size (Zbk.carry HS5.out (Za6 hu lr)));have LB:=Zaa (Blk.new w1 #[.slice p1 x.facts.length c1,.slice p2 x.rules.length c2,.slice p3 x.checks.length c3] 38);have BB:=Zaa ((Yct w1.heap.size w1).alloc lr (.cells #[.slice p1 x.facts.length c1,.slice p2 x.rules.length c2,.slice p3 x.checks.length c3] 38));clear h1 h2 h3 hF hy hb1 hN CW YE YO HS5;generalize Zby x=n at*;go_wp2_with fail
   refine(CB.out _ BB.out).mono ?_;rintro e w2 ⟨rfl,hb2⟩;have B2:=Zaa (BB.out.trans (hb2.mono (by simp)));have LR2:=Zaa ((L1.out.of (B2.out.block _ L1.out.lt)));have LB2:=Zaa (Zci LB.out hb2);obtain⟨y0,y1,y2,sy⟩:=LB2.out.three;obtain⟨z0,z1,z2,sz⟩:=LR2.out.three;have BW:=Zaa (B1.out.trans (B2.out.mono hs1));clear hb2 CB LB L1;by_cases hn:n=0
   ·rw[hn,Zbb];go_wp2_with fail
    refine bodyPost_ret (by simp[results,Tryz.results18,go_sem,z0,z1,z2];try rfl) rfl ?_;refine⟨((BW.out.setCell (p:=⟨w.heap.size,0,none⟩) lr _).setCell (p:=⟨w.heap.size,1,none⟩) lr _).setCell (p:=⟨w.heap.size,2,none⟩) lr _,Or.inr ⟨x,_,F,by rw[Y.out,if_neg (by omega)],rfl,Zba.stable (ty:=Zad) 4 _ _ _ _ _ HQ.out fun j hj=>(Zfa (by have:=HN.out.ge j hj;simp at this;omega)).trans (B2.out.block j (HN.out.lt j hj)),HN.out.later (by simp) (by simp;exact B2.out.size)⟩⟩
   ·rw[Zah _ hn];go_wp2_with fail
    refine bodyPost_ret (by simp[results,Tryz.results18,go_sem,z0,z1,z2];try rfl) rfl ?_;exact⟨((BW.out.setCell (p:=⟨w.heap.size,0,none⟩) lr _).setCell (p:=⟨w.heap.size,1,none⟩) lr _).setCell (p:=⟨w.heap.size,2,none⟩) lr _,Or.inl ⟨n,by rw[Y.out,if_pos hn],hn,by rw[Zah _ hn]⟩⟩
end Go.P
