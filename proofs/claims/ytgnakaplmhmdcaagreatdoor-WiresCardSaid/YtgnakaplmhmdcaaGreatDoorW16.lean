import Derived.Test.YtgnakaplmhmdcaaGreatDoorW15
import Derived.Laws.MakeOwn
import Derived.Laws.BytesArg
set_option maxRecDepth 100000
set_option maxHeartbeats 8000000
set_option linter.unusedSimpArgs false
open Go.Proofs Go.RowKit Go.W
namespace Go.W
theorem Ze0 (bs:List Nat): ∀ n p,(Zm3 bs n p).length=n
 | 0,_=>rfl
 | n+1,p=>by rw[Zm3,Yc7,Ze0 bs n]
theorem Zuy (bs:List Nat): ∀ (n p j:Nat),j < n->(Zm3 bs n p)[j]?=some (UInt8.ofNat (16*Zdd (bs.getD (p+2*j) 0)+Zdd (bs.getD (p+2*j+1) 0)))
 | 0,_,_,h=>absurd h (by omega)
 | n+1,p,0,_=>rfl
 | n+1,p,j+1,h=>by
  rw[Zm3,List.getElem?_cons_succ,Zuy bs n (p+2) j (by omega),show p+2+2*j=p+2*(j+1)by omega]
theorem Z79 (v h:Nat)(hv:v < 16)(hh:h < 16):bits .or .u8 ((v:Int)*16) (h:Int)=((16*v+h:Nat):Int):=by
 have e:((v:Int)*16)=((16*v:Nat):Int):=by omega
 rw[e,u8_or_nat _ _ (by omega) (by omega),nat_join 4 (16*v) h (by omega) (by omega)]
theorem Z76 {A B:Nat}(ha:A < 16)(hb:B < 16):some (Value.int .u8 ((16*A+B:Nat):Int))=some (.int .u8 (((some (UInt8.ofNat (16*A+B))).getD 0).toNat:Int)):=by
 have e:(UInt8.ofNat (16*A+B)).toNat=16*A+B:=by
  rw[UInt8.toNat_ofNat'];exact Nat.mod_eq_of_lt (by omega)
 rw[Option.getD_some,e]
theorem Z6t {bs:List Nat}{ok:Nat->Bool}: ∀ {f p j:Nat},p<=j->j < Zj3 bs ok f p->ok (bs.getD j 0)=true:=by
 intro f;induction f with
 | zero=>intro p j h1 h2;exact absurd h2 (by simp[Zj3];omega)
 | succ f ih=>
  intro p j h1 h2;rw[Zj3]at h2;split at h2
  ·rename_i hc;by_cases hj:j=p
   ·subst hj;exact hc.2
   ·exact ih (by omega) h2
  ·omega
theorem Zox {t:ByteArray}{p q j:Nat}(hq:q<=t.size)(hj:j < q - p):(Zab (t.extract p q)).getD j 0=(Zab t).getD (p+j) 0:=by
 have h2:q<=t.data.size:=hq;simp only[Zab,List.getD,Ydn,ByteArray.data_extract,Ydw,Array.getElem?_extract];rw[if_pos (by omega)]
end Go.W
namespace Go.P
theorem Z15:(Tryz.prog.info? 5).map (fun i=>(i.zero,i.size,i.bytes))=some (some (.int .u8 0),1,1):=by kernel_rfl
theorem Z1j (w:World)(n:Nat)(h:n<=1000):(Instr.makeSlice 76 (.int .i64 (n:Int)) (.int .i64 (n:Int))).run Tryz.prog w= .ok (.slice (some ⟨w.heap.size,0,none⟩) n n) (w.alloc (.cells (madeCells #[.int .u8 0] n) 5)):=by
 obtain⟨i0,hi,hz0,hz1,hz2⟩:=info_parts Z15;have hmk:=run_makeSlice (P:=Tryz.prog) w 76 5 i0 (.int .u8 0) Tryz.underlying76 hi hz0 .i64 .i64 (n:Int) (n:Int) (by omega) (by omega) (by rw[hz1];simp;omega) (by rw[hz2];simp;omega) (by omega);rw[hz1]at hmk;have e:(Value.int .u8 0).cells=#[Value.int .u8 0]:=rfl;rw[e]at hmk;simpa using hmk
theorem Z9k {w:World}{L:Nat}{vs:Array Value}{xs:List UInt8}(h:Blk w L vs 5)(hs: ∀ j,j < xs.length->vs[j]?=some (.int .u8 ((xs.getD j 0).toNat:Int)))(n cap:Nat)(hn:n=xs.length):
  (convert 76 9 (.slice (some ⟨L,0,none⟩) n cap)).run Tryz.prog w= .ok (.string ⟨xs.toArray⟩) w:=by
 subst hn;refine run_convert_bytes_back (P:=Tryz.prog) w 76 9 5 ⟨L,0,none⟩ cap xs Tryz.underlying76 Tryz.underlying5 Tryz.underlying9 (fun j hj=>?_);have e:(⟨L,0,none⟩:Addr).add j=⟨L,j,none⟩:=by unfold Addr.add;split <;> simp_all
 rw[e,h.cell,hs j hj];simp[List.getD,Yc0 hj]
def Z97 (b:Nat) (w:World) (t:ByteArray) (q:Nat) (x:Tk) (L n p:Nat) (iv:Value) (wr:World):Prop:= ∃ (k:Nat) (vs:Array Value),k<=n/\iv= .int .i64 ((k:Nat):Int)/\Rd wr b t q x/\Zaf b w wr/\Blk wr L vs 5/\vs.size=n/\ ∀ j,j < k->vs[j]?=some (.int .u8 ((16*Zdd ((Zab t).getD (p+2*j) 0)+Zdd ((Zab t).getD (p+2*j+1) 0):Nat):Int))
theorem Zsf:Zni:=by
 intro a w b t p x Z h;have ht:=h.2.1;have hg:=h.2.2.2;have hp:=h.2.2.1;have CR:=Zaa (Zoo Z0o h);have hl:=Zbn t;have hs:=Zha (bs:=Zab t) (ok:=Zdh) (p:=p) (by omega);have AL:Box (∀ j,p<=j->j < Zbv (Zab t) Zdh p->Zdh ((Zab t).getD j 0)=true):=⟨fun j h1 h2=>Z6t h1 h2⟩;have F:Box (Zg3 t x p=if(Zbv (Zab t) Zdh p - p) % 2≠0 then .error (1,x.at_)else if 64 < (Zbv (Zab t) Zdh p - p) / 2 then .error (4,x.at_)else .ok ((),{x with k:=4,i:=0,s:=⟨(Zm3 (Zab t) ((Zbv (Zab t) Zdh p - p) / 2) p).toArray⟩},Zbv (Zab t) Zdh p)):=⟨rfl⟩;generalize Zbv (Zab t) Zdh p=q at*;have hz:(t.extract p q).size=q - p:=by rw[Ydz];omega
 have BA:Box (∀ j,j < q - p->(Zab (t.extract p q)).getD j 0=(Zab t).getD (p+j) 0):=⟨fun j hj=>Zox (by omega) hj⟩;have ZZ:=Zaa Z;clear h Z;go_enter Tryz.func176,Tryz.ntmps176
 go_wp2_with fail
 refine CR.out.mono ?_;rintro e w1 ⟨rfl,hk,hr⟩;have ZA:=Zaa (ZZ.out.keeps hk hg);have HK:=Zaa hk;have HR:=Zaa hr;have C1:=Zaa (fun n (hn:n≠0)=>Zbh a hn hr);have z4:=ZA.out.c4;have z1:=ZA.out.c1;clear hk hr CR ZZ;generalize t.extract p q=s at*;by_cases h2:(q - p) % 2≠0
 ·have Y:Box (Zg3 t x p= .error (1,x.at_)):=⟨by rw[F.out,if_pos h2]⟩;have g:(((q - p:Nat):Int) % 2 != 0)=true:=by rw[bne_iff_ne];omega
  go_wp2_with fail
  refine(C1.out 1 (by decide)).mono ?_;rintro e w2 ⟨⟨L,hL,rfl,hB⟩,hb⟩;exact⟨rfl,HK.out.ofBelow hb,Or.inl ⟨1,_,Y.out,by decide,L,Ycu HK.out.size hL,rfl,hB⟩⟩
 obtain⟨n,hn⟩: ∃ n,q - p=2*n:=⟨(q - p) / 2,by omega⟩;rw[hn]at F hz BA;rw[show 2*n / 2=n by omega]at F;have g:(((2*n:Nat):Int) % 2 != 0)=false:=by rw[bne_eq_false_iff_eq];omega
 by_cases h64:64 < n
 ·have Y:Box (Zg3 t x p= .error (4,x.at_)):=⟨by rw[F.out,if_neg (by omega),if_pos h64]⟩;have g2:64 < ((2*n:Nat):Int) / 2:=by omega
  go_wp2_with fail
  refine(C1.out 4 (by decide)).mono ?_;rintro e w2 ⟨⟨L,hL,rfl,hB⟩,hb⟩;exact⟨rfl,HK.out.ofBelow hb,Or.inl ⟨4,_,Y.out,by decide,L,Ycu HK.out.size hL,rfl,hB⟩⟩
 have Y:Box (Zg3 t x p= .ok ((),{x with k:=4,i:=0,s:=⟨(Zm3 (Zab t) n p).toArray⟩},q)):=⟨by rw[F.out,if_neg (by omega),if_neg h64]⟩;have g2:decide (64 < (n:Int))=false:=by simp;omega
 have g3:((2*n:Nat):Int) / 2=(n:Int):=by omega
 have MK:=Z1j w1 n (by omega);have BL:=Zaa (Blk.new w1 (madeCells #[.int .u8 0] n) 5);have hblt:=HR.out.1.lt;have hsz:=HK.out.size;clear C1 z1 z4 F h2;go_wp2_with fail
 go_loopw [27] (fun iv wr=>Z97 b w t q x w1.heap.size n p iv wr) (fun iv _=>n - Zyf iv)
 case atStart=>exact⟨0,_,by omega,rfl,HR.out.alloc _,HK.out.alloc _,BL.out,by simp[size_madeCells],fun j hj=>absurd hj (by omega)⟩
 case round=>
  obtain⟨k,vs,hk,rfl,hR,hK,hB,hvs,hall⟩:=hrel;have H:=Zaa (Ycs hR (Ycs hK (Ycs hB hall)));clear MK BL HR HK ZA;by_cases hlt:k < n
  ·have g5:(k:Int) < (n:Int):=by omega
   have sfL:=hB.soft;have ck:=hB.cell k;have c0:vs[k]?=some vs[k]:=Array.getElem?_eq_getElem (by omega);rw[c0]at ck;obtain⟨k2,hk2⟩: ∃ k2,2*k=k2:=⟨_,rfl⟩;obtain⟨k3,hk3⟩: ∃ k3,2*k+1=k3:=⟨_,rfl⟩;have l2':k2 < s.size:=by omega
   have l3':k3 < s.size:=by omega
   have i1:=(Zhp s k2 l2').trans (BA.out _ (by omega));have i2:=(Zhp s k3 l3').trans (BA.out _ (by omega));have a1:=AL.out (p+k2) (by omega) (by omega);have a2:=AL.out (p+k3) (by omega) (by omega);have V:=Zaa (fun d (h:Zdh d=true) u=>Zlz d h u);have j1:=Zh3 a1;have j2:=Zh3 a2;have JJ:=Zaa (Z79 _ _ j1 j2);generalize hd1:(Zab t).getD (p+k2) 0=d1 at*;generalize hd2:(Zab t).getD (p+k3) 0=d2 at*;have HD:=Zaa (Ycs hd1 hd2);clear hd1 hd2;clear hR hK hB hall;have e2:2*(k:Int)=(k2:Int):=by omega
   have e3:(k2:Int)+1=(k3:Int):=by omega
   have K23:=Zaa (Ycs hk2 hk3);have gi2:(k2:Int) < (s.size:Int):=by omega
   have gi3:(k3:Int) < (s.size:Int):=by omega
   have wk2:IntKind.i64.wrap (k2:Int)=(k2:Int):=by rw[IntKind.wrap_i64];omega
   have wk3:IntKind.i64.wrap (k3:Int)=(k3:Int):=by rw[IntKind.wrap_i64];omega
   have HZ:=Zaa hz;clear hk2 hk3 hz;go_wp2_with fail
   go_region_with (go_at_call 205;refine(V.out _ (by assumption) _).mono ?_;rintro e w' ⟨rfl,rfl⟩)
   all_goals go_wp2_with fail
   all_goals
    refine⟨⟨k+1,_,by omega,by simp,⟨H.out.1.1.away _ _ (by omega) _,H.out.1.2⟩,(H.out.2.1.setNew _ _ _ hsz).drew,(H.out.2.2.1.set k _).dr 1,by simp[hvs],fun j hj=>?_⟩,by simp[Zyf];omega⟩;rw[Ycv,JJ.out];obtain⟨r1,r2⟩:=K23.out;obtain⟨s1,s2⟩:=HD.out;by_cases hjk:j=k
    ·subst hjk;rw[if_pos rfl,if_pos (by omega),show p+2*j=p+k2 by omega,show p+k2+1=p+k3 by omega,s1,s2]
    ·rw[if_neg (fun z=>hjk z.symm)];exact H.out.2.2.2 j (by omega)
  ·obtain rfl:k=n:=by omega
   have g5: ¬ (k:Int) < (k:Int):=by omega
   have CV:=Z9k (xs:=Zm3 (Zab t) k p) hB (fun j hj=>by
    rw[Ze0]at hj;rw[hall j hj];have e1:=Zuy (Zab t) k p j hj;simp only[List.getD,e1];have a1:=Zh3 (AL.out (p+2*j) (by omega) (by omega));have a2:=Zh3 (AL.out (p+2*j+1) (by omega) (by omega));exact Z76 a1 a2) k k (Ze0 ..).symm
   obtain⟨d0,d1,-,-,d4,d5,d6,d7,sf2⟩:=hR.1.eight;clear hR hK hB hall;go_wp2_with fail
   exact⟨rfl,_,(by simp[results,Tryz.results176,go_sem];try rfl),H.out.2.1.term,Or.inr ⟨_,_,_,_,Y.out,rfl,rfl,H.out.1.term 4 0 _⟩⟩
end Go.P
namespace Go.W
def Zgi (ks:List UInt8) (m:Nat):List UInt8:=ks.map fun c=>UInt8.ofNat (c.toNat ^^^ m)
theorem Zzp {c:UInt8}{m:Nat}(hm:m < 256):bits .xor .u8 (c.toNat:Int) (m:Int)=((UInt8.ofNat (c.toNat ^^^ m)).toNat:Int):=by
 have hc:c.toNat < 256:=c.toNat_lt;rw[u8_xor_nat _ _ hc hm,UInt8.toNat_ofNat',Nat.mod_eq_of_lt (Nat.xor_lt_two_pow (n:=8) hc hm)]
end Go.W
namespace Go.P
theorem Zcq {w:World}{L:Nat}{e:TypeId}{vs:Array Value}{xs:List UInt8}(h:Blk w L vs e)(hs: ∀ j,j < xs.length->vs[j]?=some (.int .u8 ((xs.getD j 0).toNat:Int)))(n:Nat)(hn:n=xs.length){cap:Nat}:
  (convert 76 9 (.slice (some ⟨L,0,none⟩) n cap)).run Tryz.prog w= .ok (.string ⟨xs.toArray⟩) w:=by
 subst hn;refine run_convert_bytes_back (P:=Tryz.prog) w 76 9 5 ⟨L,0,none⟩ cap xs Tryz.underlying76 Tryz.underlying5 Tryz.underlying9 (fun j hj=>?_);have e1:(⟨L,0,none⟩:Addr).add j=⟨L,j,none⟩:=by unfold Addr.add;split <;> simp_all
 rw[e1,h.cell,hs j hj];simp[List.getD,Yc0 hj]
def Z8d (w:World) (ks:List UInt8) (m:Nat) (iv:Value) (wr:World):Prop:= ∃ (k:Nat) (vs:Array Value),k<=64/\iv= .int .i64 (k:Int)/\Below w.heap.size w wr/\Blk wr w.heap.size vs 181/\vs.size=64/\ ∀ j,j < 64->vs[j]?=some (.int .u8 ((if j < k then(Zgi ks m).getD j 0 else ks.getD j 0).toNat:Int))
theorem Zqp (v:Array Value)(ks:List UInt8)(m:Nat)(w:World)(hks:ks.length=64)(hm:m < 256)(h64:v.size=64)(hv: ∀ k,k < 64->v[k]?=some (.int .u8 ((ks.getD k 0).toNat:Int))):Calls Tryz.prog 87 #[.agg v,.int .u8 (m:Int)] w fun e w'=>e= .returned (.string ⟨(Zgi ks m).toArray⟩)/\Below w.heap.size w w':=by
 go_enter Tryz.func87,Tryz.ntmps87
 go_wp2_with fail
 have hml:(Zgi ks m).length=64:=by unfold Zgi;rw[Yd6,hks]
 go_loopw [6] (fun iv wr=>Z8d w ks m iv wr) (fun iv _=>64 - (intOf iv).toNat)
 case atStart=>exact⟨0,v,by omega,rfl,(Yct _ w).alloc lr _,Blk.new w v _,h64,fun j hj=>by rw[hv j hj,if_neg (by omega)]⟩
 case round=>
  obtain⟨k,vs,hk,rfl,hb,hB,hs,hall⟩:=hrel;by_cases hlt:k < 64
  ·have g:(k:Int) < 64:=by omega
   have ck:=(hB.cell k).trans (hall k hlt);rw[if_neg (by omega)]at ck;have sf:=hB.soft;have hx:bits .xor .u8 ((ks.getD k 0).toNat:Int) (m:Int)=(((Zgi ks m).getD k 0).toNat:Int):=by
    rw[Zzp hm];unfold Zgi;simp[List.getD,Ydn,Yc0 (show k < ks.length by omega)]
   have HX:=Zaa hx;have H:=Zaa (Ycs hb (Ycs hB hall));clear hb hB hall hx;generalize (ks.getD k 0).toNat=c at*;go_wp2_with fail
   all_goals
    rw[HX.out];refine⟨⟨k+1,_,by omega,by simp,(H.out.1.setCell (p:=⟨w.heap.size,k,none⟩) lr _),(H.out.2.1.set k _),by simp[hs],fun j hj=>?_⟩,by simp[intOf];omega⟩;rw[Ycv];by_cases hjk:j=k
    ·subst hjk;rw[if_pos rfl,if_pos (by omega),if_pos (by omega)]
    ·rw[if_neg (fun z=>hjk z.symm),H.out.2.2 j hj];by_cases hj2:j < k
     ·rw[if_pos hj2,if_pos (by omega)]
     ·rw[if_neg hj2,if_neg (by omega)]
  ·obtain rfl:k=64:=by omega
   have hcv:(convert 76 9 (.slice (some ⟨w.heap.size,0,none⟩) 64 64)).run Tryz.prog wr= .ok (.string ⟨(Zgi ks m).toArray⟩) wr:=by
    refine Zcq hB (fun j hj=>?_) 64 hml.symm;rw[hall j (by omega),if_pos (by omega)]
   have H:=Zaa hb;clear hb hB hall;go_wp2_with fail
   go_ret
   exact⟨by simp,H.out⟩
end Go.P
