import Derived.Test.YtaoiihbjdonaoaaGreatDoorW07
import Derived.Test.YtaoiihbjdonaoaaGreatDoorW09
import Derived.Laws.MakeOwn
import Derived.Laws.BytesArg
set_option linter.defProp false
set_option maxRecDepth 100000
set_option maxHeartbeats 8000000
set_option linter.unusedSimpArgs false
open Go.Proofs Go.RowKit Go.W Tryz
namespace Go.W
def q9 (bs:List Nat): ∀ n p,(WX bs n p).length=n
 | 0,_=>rfl
 | n+1,p=>by rw[WX,DU,q9 bs n]
def Zxw (bs:List Nat): ∀ (n p j:Nat),j<n->(WX bs n p)[j]?=some (UInt8.ofNat<|16*QI (bs.getD (p+2*j) 0)+QI (bs.getD (p+2*j+1) 0))
 | 0,_,_,h=>absurd h zx
 | n+1,p,0,_=>rfl
 | n+1,p,j+1,h=>by
  rw[WX,List.getElem?_cons_succ,Zxw bs n (p+2) j zx,show p+2+2*j=p+2*(j+1)by omega]
def Yg2 (v h:Nat)(hv:v<16)(hh:h<16):bits .or .u8 ((v:Int)*16) (h:Int)=((16*v+h:Nat):Int):=by
 have e:((v:Int)*16)=((16*v:Nat):Int):=zx
 rw[e,u8_or_nat _ _ zx zx,nat_join 4 (16*v) h zx zx]
def Yg1 {A B:Nat}(ha:A<16)(hb:B<16):some (Value.int .u8 ((16*A+B:Nat):Int))=some (.int .u8 (((some<|UInt8.ofNat<|16*A+B).getD 0).toNat:Int)):=by
 have e:(UInt8.ofNat<|16*A+B).toNat=16*A+B:=by
  rw[UInt8.toNat_ofNat'];exact Nat.mod_eq_of_lt zx
 rw[Option.getD_some,e]
def Ydm {bs:List Nat}{ok:Nat->Bool}: ∀ {f p j:Nat},p<=j->j<Sr bs ok f p->ok (bs.getD j 0)=true:=by
 intro f;induction f with
 | zero=>intro p j h1 h2;exact absurd h2 (by simp[Sr];omega)
 | succ f ih=>
  intro p j h1 h2;rw[Sr]at h2;split at h2
  ·rename_i hc;by_cases hj:j=p
   ·subst hj;exact hc.2
   ·exact ih zx h2
  ·omega
def Zp6 {t:ByteArray}{p q j:Nat}(hq:q<=t.size)(hj:j<q-p):(Ac<|t.extract p q).getD j 0=(Ac t).getD (p+j) 0:=by
 have h2:q<=t.data.size:=hq;simp only[Ac,List.getD,FK,ByteArray.data_extract,Qq,Array.getElem?_extract];rw[if_pos zx]
end Go.W
namespace Go.P
def Z88:(prog.info? 5).map (fun i=>(i.zero,i.size,i.bytes))=some (some<|.int .u8 0,1,1):=zt
def Z5w (w:World)(n:Nat)(h:n<=1000):(Instr.makeSlice 115 (zo (n:Int))<|zo (n:Int)).run prog w= .ok (.slice (Qb w.heap.size 0) n n) (w.alloc<|.cells (madeCells #[.int .u8 0] n) 5):=by
 obtain⟨i0,hi,hz0,hz1,hz2⟩:=info_parts Z88;have aI:=run_makeSlice (P:=prog) w 115 5 i0 (.int .u8 0) underlying115 hi hz0 .i64 .i64 (n:Int) (n:Int) zx zx (by rw[hz1];simp;omega) (by rw[hz2];simp;omega) zx;rw[hz1]at aI;have e:(Value.int .u8 0).cells=#[Value.int .u8 0]:=rfl;rw[e]at aI;simpa using aI
def Ygv {w:World}{L:Nat}{vs:Array Value}{xs:List UInt8}(h:AO w L vs 5)(hs: ∀ j,j<xs.length->vs[j]?=some (.int .u8 ((xs.getD j 0).toNat:Int)))(n cap:Nat)(hn:n=xs.length):
  (convert 115 9<|.slice (Qb L 0) n cap).run prog w= .ok (.string ⟨xs.toArray⟩) w:=by
 subst hn;refine xD (P:=prog) w 115 9 5 (zm L 0) cap xs underlying115 underlying5 underlying9 fun j hj=>?_;have e:((zm L 0):Addr).add j=(zm L j):=by unfold Addr.add;split <;> simp_all
 rw[e,h.cell,hs j hj];simp[List.getD,A8 hj]
def Yho (b:Nat) (w:World) (t:ByteArray) (q:Nat) (x:Tk) (L n p:Nat) (iv:Value) (wr:World):Prop:= ∃ (k:Nat) (vs:Array Value),k<=n/\iv= zo ((k:Nat):Int)/\Rd wr b t q x/\Ad b w wr/\AO wr L vs 5/\vs.size=n/\ ∀ j,j<k->vs[j]?=some (.int .u8 ((16*QI ((Ac t).getD (p+2*j) 0)+QI ((Ac t).getD (p+2*j+1) 0):Nat):Int))
def Zv3:Zpu:=by
 intro a w b t p x Z h;have ht:=h.2.1;have hg:=h.2.2.2;have hp:=h.2.2.1;have CR:=AC<|p8 Z5r h;have hl:=Wy t;have hs:=fZ (bs:=Ac t) (ok:=KX) (p:=p) zx;have AL:AF (∀ j,p<=j->j<DT (Ac t) KX p->KX ((Ac t).getD j 0)=true):=⟨fun j h1 h2=>Ydm h1 h2⟩;have F:AF (Ue t x p=if(DT (Ac t) KX p-p) % 2≠0 then .error (1,x.at_)else if 64<(DT (Ac t) KX p-p) / 2 then .error (4,x.at_)else .ok ((),{x with k:=4,i:=0,s:=⟨(WX (Ac t) ((DT (Ac t) KX p-p) / 2) p).toArray⟩},DT (Ac t) KX p)):=⟨rfl⟩;generalize DT (Ac t) KX p=q at*;have hz:(t.extract p q).size=q-p:=by rw[YB];omega
 have BA:AF (∀ j,j<q-p->(Ac<|t.extract p q).getD j 0=(Ac t).getD (p+j) 0):=⟨fun j hj=>Zp6 zx hj⟩;have ZZ:=AC Z;clear h Z;go_in
 go_wp2_with fail
 refine CR.out.mono ?_;rintro e w1 ⟨rfl,hk,hr⟩;have ZA:=AC<|ZZ.out.keeps hk hg;have HK:=AC hk;have HR:=AC hr;have C1:=AC fun n (hn:n≠0)=>QM a hn hr;have z4:=ZA.out.c4;have z1:=ZA.out.c1;clear hk hr CR ZZ;generalize t.extract p q=s at*;by_cases h2:(q-p) % 2≠0
 ·have Y:AF (Ue t x p= .error (1,x.at_)):=⟨by rw[F.out,if_pos h2]⟩;have g:(((q-p:Nat):Int) % 2 != 0)=true:=by rw[bne_iff_ne];omega
  go_wp2_with fail
  refine(C1.out 1 zu).mono ?_;rintro e w2 ⟨⟨L,hL,rfl,hB⟩,hb⟩;exact⟨rfl,HK.out.AU hb,Or.inl ⟨1,_,Y.out,zu,L,Ab HK.out.size hL,rfl,hB⟩⟩
 obtain⟨n,hn⟩: ∃ n,q-p=2*n:=⟨(q-p) / 2,zx⟩;rw[hn]at F hz BA;rw[show 2*n / 2=n by omega]at F;have g:(((2*n:Nat):Int) % 2 != 0)=false:=by rw[bne_eq_false_iff_eq];omega
 by_cases DK:64<n
 ·have Y:AF (Ue t x p= .error (4,x.at_)):=⟨by rw[F.out,if_neg zx,if_pos DK]⟩;have g2:64<((2*n:Nat):Int) / 2:=zx
  go_wp2_with fail
  refine(C1.out 4 zu).mono ?_;rintro e w2 ⟨⟨L,hL,rfl,hB⟩,hb⟩;exact⟨rfl,HK.out.AU hb,Or.inl ⟨4,_,Y.out,zu,L,Ab HK.out.size hL,rfl,hB⟩⟩
 have Y:AF (Ue t x p= .ok ((),{x with k:=4,i:=0,s:=⟨(WX (Ac t) n p).toArray⟩},q)):=⟨by rw[F.out,if_neg zx,if_neg DK]⟩;have g2:decide (64<(n:Int))=false:=by simp;omega
 have g3:((2*n:Nat):Int) / 2=(n:Int):=zx
 have MK:=Z5w w1 n zx;have BL:=AC<|AO.new w1 (madeCells #[.int .u8 0] n) 5;have E9:=HR.out.1.lt;have hsz:=HK.out.size;clear C1 z1 z4 F h2;go_wp2
 go_loopw [27] (fun iv wr=>Yho b w t q x w1.heap.size n p iv wr) (fun iv _=>n-Td iv)
 case atStart=>exact⟨0,_,zx,rfl,HR.out.alloc _,HK.out.alloc _,BL.out,by simp[size_madeCells],fun j hj=>absurd hj zx⟩
 case round=>
  obtain⟨k,vs,hk,rfl,hR,hK,hB,UI,hall⟩:=hrel;have H:=AC<|AJ hR<|AJ hK<|AJ hB hall;clear MK BL HR HK ZA;by_cases hlt:k<n
  ·have g5:(k:Int)<(n:Int):=zx
   have sfL:=hB.soft;have ck:=hB.cell k;have c0:vs[k]?=some vs[k]:=Array.getElem?_eq_getElem zx;rw[c0]at ck;obtain⟨k2,hk2⟩: ∃ k2,2*k=k2:=⟨_,rfl⟩;obtain⟨k3,hk3⟩: ∃ k3,2*k+1=k3:=⟨_,rfl⟩;have l2':k2<s.size:=zx
   have l3':k3<s.size:=zx
   have i1:=(ZQ s k2 l2').trans<|BA.out _ zx;have i2:=(ZQ s k3 l3').trans<|BA.out _ zx;have a1:=AL.out (p+k2) zx zx;have a2:=AL.out (p+k3) zx zx;have V:=AC fun d (h:KX d=true) u=>Zob d h u;have j1:=qY a1;have j2:=qY a2;have JJ:=AC<|Yg2 _ _ j1 j2;generalize Bc:(Ac t).getD (p+k2) 0=d1 at*;generalize Cj:(Ac t).getD (p+k3) 0=d2 at*;have HD:=AC<|AJ Bc Cj;clear Bc Cj;clear hR hK hB hall;have e2:2*(k:Int)=(k2:Int):=zx
   have e3:(k2:Int)+1=(k3:Int):=zx
   have K23:=AC<|AJ hk2 hk3;have gi2:(k2:Int)<(s.size:Int):=zx
   have gi3:(k3:Int)<(s.size:Int):=zx
   have wk2:IntKind.i64.wrap (k2:Int)=(k2:Int):=by rw[IntKind.wrap_i64];omega
   have wk3:IntKind.i64.wrap (k3:Int)=(k3:Int):=by rw[IntKind.wrap_i64];omega
   have HZ:=AC hz;clear hk2 hk3 hz;go_wp2
   go_region_with (go_at_call 189;refine(V.out _ (by assumption) _).mono ?_;rintro e w' ⟨rfl,rfl⟩)
   all_goals go_wp2_with fail
   all_goals
    refine⟨⟨k+1,_,zx,zw,⟨H.out.1.1.away _ _ zx _,H.out.1.2⟩,(H.out.2.1.Ai _ _ _ hsz).drew,(H.out.2.2.1.set k _).dr 1,by simp[UI],fun j hj=>?_⟩,by simp[Td];omega⟩;rw[Dy,JJ.out];obtain⟨r1,r2⟩:=K23.out;obtain⟨s1,s2⟩:=HD.out;by_cases hjk:j=k
    ·subst hjk;rw[if_pos rfl,if_pos zx,show p+2*j=p+k2 by omega,show p+k2+1=p+k3 by omega,s1,s2]
    ·rw[if_neg fun z=>hjk z.symm];exact H.out.2.2.2 j zx
  ·obtain rfl:k=n:=zx
   have g5: ¬ (k:Int)<(k:Int):=zx
   have CV:=Ygv (xs:=WX (Ac t) k p) hB (fun j hj=>by
    rw[q9]at hj;rw[hall j hj];have e1:=Zxw (Ac t) k p j hj;simp only[List.getD,e1];have a1:=qY<|AL.out (p+2*j) zx zx;have a2:=qY<|AL.out (p+2*j+1) zx zx;exact Yg1 a1 a2) k k (q9 ..).symm
   obtain⟨d0,d1,-,-,d4,d5,d6,d7,XU⟩:=hR.1.eight;clear hR hK hB hall;go_wp2_with fail
   exact⟨rfl,_,(by simp[results,results156,go_sem];try rfl),H.out.2.1.term,Or.inr ⟨_,_,_,_,Y.out,rfl,rfl,H.out.1.term 4 0 _⟩⟩
end Go.P
namespace Go.W
def MP (ks:List UInt8) (m:Nat):List UInt8:=ks.map fun c=>UInt8.ofNat (c.toNat ^^^ m)
def Z6x {c:UInt8}{m:Nat}(hm:m<256):bits .xor .u8 (c.toNat:Int) (m:Int)=((UInt8.ofNat<|c.toNat ^^^ m).toNat:Int):=by
 have hc:c.toNat<256:=c.toNat_lt;rw[u8_xor_nat _ _ hc hm,UInt8.toNat_ofNat',Nat.mod_eq_of_lt<|Nat.xor_lt_two_pow (n:=8) hc hm]
end Go.W
namespace Go.P
def wU {w:World}{L:Nat}{e:TypeId}{vs:Array Value}{xs:List UInt8}(h:AO w L vs e)(hs: ∀ j,j<xs.length->vs[j]?=some (.int .u8 ((xs.getD j 0).toNat:Int)))(n:Nat)(hn:n=xs.length){cap:Nat}:
  (convert 115 9<|.slice (Qb L 0) n cap).run prog w= .ok (.string ⟨xs.toArray⟩) w:=by
 subst hn;refine xD (P:=prog) w 115 9 5 (zm L 0) cap xs underlying115 underlying5 underlying9 fun j hj=>?_;have e1:((zm L 0):Addr).add j=(zm L j):=by unfold Addr.add;split <;> simp_all
 rw[e1,h.cell,hs j hj];simp[List.getD,A8 hj]
def Ye6 (w:World) (ks:List UInt8) (m:Nat) (iv:Value) (wr:World):Prop:= ∃ (k:Nat) (vs:Array Value),k<=64/\iv= zo (k:Int)/\Bl w wr/\AO wr w.heap.size vs 176/\vs.size=64/\ ∀ j,j<64->vs[j]?=some (.int .u8 ((if j<k then(MP ks m).getD j 0 else ks.getD j 0).toNat:Int))
def Ztx (v:Array Value)(ks:List UInt8)(m:Nat)(w:World)(Ph:ks.length=64)(hm:m<256)(DK:v.size=64)(hv: ∀ k,k<64->v[k]?=some (.int .u8 ((ks.getD k 0).toNat:Int))):Calls prog 83 #[.agg v,.int .u8 (m:Int)] w fun e w'=>e= .returned (.string ⟨(MP ks m).toArray⟩)/\Bl w w':=by
 go_in
 go_wp2_with fail
 have VL:(MP ks m).length=64:=by unfold MP;rw[Dj,Ph]
 go_loopw [6] (fun iv wr=>Ye6 w ks m iv wr) (fun iv _=>64-(intOf iv).toNat)
 case atStart=>exact⟨0,v,zx,rfl,(AR _ w).alloc lr _,AO.new w v _,DK,fun j hj=>by rw[hv j hj,if_neg zx]⟩
 case round=>
  obtain⟨k,vs,hk,rfl,hb,hB,hs,hall⟩:=hrel;by_cases hlt:k<64
  ·have g:(k:Int)<64:=zx
   have ck:=(hB.cell k).trans<|hall k hlt;rw[if_neg zx]at ck;have sf:=hB.soft;have hx:bits .xor .u8 ((ks.getD k 0).toNat:Int) (m:Int)=(((MP ks m).getD k 0).toNat:Int):=by
    rw[Z6x hm];unfold MP;simp[List.getD,FK,A8 (show k<ks.length by omega)]
   have HX:=AC hx;have H:=AC<|AJ hb<|AJ hB hall;clear hb hB hall hx;generalize (ks.getD k 0).toNat=c at*;go_wp2_with fail
   all_goals
    rw[HX.out];refine⟨⟨k+1,_,zx,zw,(H.out.1.setCell (p:=(zm w.heap.size k)) lr _),(H.out.2.1.set k _),by simp[hs],fun j hj=>?_⟩,by simp[intOf];omega⟩;rw[Dy];by_cases hjk:j=k
    ·subst hjk;rw[if_pos rfl,if_pos zx,if_pos zx]
    ·rw[if_neg fun z=>hjk z.symm,H.out.2.2 j hj];by_cases Am:j<k
     ·rw[if_pos Am,if_pos zx]
     ·rw[if_neg Am,if_neg zx]
  ·obtain rfl:k=64:=zx
   have hcv:(convert 115 9<|.slice (Qb w.heap.size 0) 64 64).run prog wr= .ok (.string ⟨(MP ks m).toArray⟩) wr:=by
    refine wU hB (fun j hj=>?_) 64 VL.symm;rw[hall j zx,if_pos zx]
   have H:=AC hb;clear hb hB hall;go_wp2
   go_ret
   exact⟨zw,H.out⟩
end Go.P
