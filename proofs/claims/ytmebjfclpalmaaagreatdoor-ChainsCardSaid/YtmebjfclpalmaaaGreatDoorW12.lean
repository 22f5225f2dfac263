import Derived.Test.YtmebjfclpalmaaaGreatDoorW11
import Derived.Laws.MakeOwn
import Derived.Laws.BytesArg
set_option maxRecDepth 100000
set_option maxHeartbeats 8000000
set_option linter.unusedSimpArgs false
open Go.Proofs Go.RowKit Go.W Tryz
namespace Go.W
theorem Zgf (bs:List Nat): ∀ n p,(Zpw bs n p).length=n
 | 0,_=>rfl
 | n+1,p=>by rw[Zpw,Ydp,Zgf bs n]
theorem Zt7 (bs:List Nat): ∀ (n p j:Nat),j < n->(Zpw bs n p)[j]?=some (UInt8.ofNat (16*Zdj (bs.getD (p+2*j) 0)+Zdj (bs.getD (p+2*j+1) 0)))
 | 0,_,_,h=>absurd h (by omega)
 | n+1,p,0,_=>rfl
 | n+1,p,j+1,h=>by
  rw[Zpw,List.getElem?_cons_succ,Zt7 bs n (p+2) j (by omega),show p+2+2*j=p+2*(j+1)by omega]
theorem Z96 (v h:Nat)(hv:v < 16)(hh:h < 16):bits .or .u8 ((v:Int)*16) (h:Int)=((16*v+h:Nat):Int):=by
 have e:((v:Int)*16)=((16*v:Nat):Int):=by omega
 rw[e,u8_or_nat _ _ (by omega) (by omega),nat_join 4 (16*v) h (by omega) (by omega)]
theorem Z95 {A B:Nat}(ha:A < 16)(hb:B < 16):some (Value.int .u8 ((16*A+B:Nat):Int))=some (.int .u8 (((some (UInt8.ofNat (16*A+B))).getD 0).toNat:Int)):=by
 have e:(UInt8.ofNat (16*A+B)).toNat=16*A+B:=by
  rw[UInt8.toNat_ofNat'];exact Nat.mod_eq_of_lt (by omega)
 rw[Option.getD_some,e]
theorem Z7g {bs:List Nat}{ok:Nat->Bool}: ∀ {f p j:Nat},p<=j->j < Zos bs ok f p->ok (bs.getD j 0)=true:=by
 intro f;induction f with
 | zero=>intro p j h1 h2;exact absurd h2 (by simp[Zos];omega)
 | succ f ih=>
  intro p j h1 h2;rw[Zos]at h2;split at h2
  ·rename_i hc;by_cases hj:j=p
   ·subst hj;exact hc.2
   ·exact ih (by omega) h2
  ·omega
theorem Ztg {t:ByteArray}{p q j:Nat}(hq:q<=t.size)(hj:j < q - p):(Zac (t.extract p q)).getD j 0=(Zac t).getD (p+j) 0:=by
 have h2:q<=t.data.size:=hq;simp only[Zac,List.getD,Yd5,ByteArray.data_extract,Yee,Array.getElem?_extract];rw[if_pos (by omega)]
end Go.W
namespace Go.P
theorem Z3g:(prog.info? 5).map (fun i=>(i.zero,i.size,i.bytes))=some (some (.int .u8 0),1,1):=by kernel_rfl
theorem Z0u (w:World)(n:Nat)(h:n<=1000):(Instr.makeSlice 74 (.int .i64 (n:Int)) (.int .i64 (n:Int))).run prog w= .ok (.slice (some ⟨w.heap.size,0,none⟩) n n) (w.alloc (.cells (madeCells #[.int .u8 0] n) 5)):=by
 obtain⟨i0,hi,hz0,hz1,hz2⟩:=info_parts Z3g;have hmk:=run_makeSlice (P:=prog) w 74 5 i0 (.int .u8 0) underlying74 hi hz0 .i64 .i64 (n:Int) (n:Int) (by omega) (by omega) (by rw[hz1];simp;omega) (by rw[hz2];simp;omega) (by omega);rw[hz1]at hmk;have e:(Value.int .u8 0).cells=#[Value.int .u8 0]:=rfl;rw[e]at hmk;simpa using hmk
theorem Z91 {w:World}{L:Nat}{vs:Array Value}{xs:List UInt8}(h:Blk w L vs 5)(hs: ∀ j,j < xs.length->vs[j]?=some (.int .u8 ((xs.getD j 0).toNat:Int)))(n cap:Nat)(hn:n=xs.length):
  (convert 74 9 (.slice (some ⟨L,0,none⟩) n cap)).run prog w= .ok (.string ⟨xs.toArray⟩) w:=by
 subst hn;refine Yfp (P:=prog) w 74 9 5 ⟨L,0,none⟩ cap xs underlying74 underlying5 underlying9 (fun j hj=>?_);have e:(⟨L,0,none⟩:Addr).add j=⟨L,j,none⟩:=by unfold Addr.add;split <;> simp_all
 rw[e,h.cell,hs j hj];simp[List.getD,Ydi hj]
def Yak (b:Nat) (w:World) (t:ByteArray) (q:Nat) (x:Tk) (L n p:Nat) (iv:Value) (wr:World):Prop:= ∃ (k:Nat) (vs:Array Value),k<=n/\iv= .int .i64 ((k:Nat):Int)/\Rd wr b t q x/\Zah b w wr/\Blk wr L vs 5/\vs.size=n/\ ∀ j,j < k->vs[j]?=some (.int .u8 ((16*Zdj ((Zac t).getD (p+2*j) 0)+Zdj ((Zac t).getD (p+2*j+1) 0):Nat):Int))
theorem Zsj:Znb:=by
 intro a w b t p x Z h;have ht:=h.2.1;have hg:=h.2.2.2;have hp:=h.2.2.1;have CR:=Zaa (Zoq Z0q h);have hl:=Zbm t;have hs:=Zkz (bs:=Zac t) (ok:=Zdk) (p:=p) (by omega);have AL:Box (∀ j,p<=j->j < Zce (Zac t) Zdk p->Zdk ((Zac t).getD j 0)=true):=⟨fun j h1 h2=>Z7g h1 h2⟩;have F:Box (Zii t x p=if(Zce (Zac t) Zdk p - p) % 2≠0 then .error (1,x.at_)else if 64 < (Zce (Zac t) Zdk p - p) / 2 then .error (4,x.at_)else .ok ((),{x with k:=4,i:=0,s:=⟨(Zpw (Zac t) ((Zce (Zac t) Zdk p - p) / 2) p).toArray⟩},Zce (Zac t) Zdk p)):=⟨rfl⟩;generalize Zce (Zac t) Zdk p=q at*;have hz:(t.extract p q).size=q - p:=by rw[Yeh];omega
 have BA:Box (∀ j,j < q - p->(Zac (t.extract p q)).getD j 0=(Zac t).getD (p+j) 0):=⟨fun j hj=>Ztg (by omega) hj⟩;have ZZ:=Zaa Z;clear h Z;go_in
 go_wp2_with fail
 refine CR.out.mono ?_;rintro e w1 ⟨rfl,hk,hr⟩;have ZA:=Zaa (ZZ.out.keeps hk hg);have HK:=Zaa hk;have HR:=Zaa hr;have C1:=Zaa (fun n (hn:n≠0)=>Zbf a hn hr);have z4:=ZA.out.c4;have z1:=ZA.out.c1;clear hk hr CR ZZ;generalize t.extract p q=s at*;by_cases h2:(q - p) % 2≠0
 ·have Y:Box (Zii t x p= .error (1,x.at_)):=⟨by rw[F.out,if_pos h2]⟩;have g:(((q - p:Nat):Int) % 2 != 0)=true:=by rw[bne_iff_ne];omega
  go_wp2_with fail
  refine(C1.out 1 (by decide)).mono ?_;rintro e w2 ⟨⟨L,hL,rfl,hB⟩,hb⟩;exact⟨rfl,HK.out.ofBelow hb,Or.inl ⟨1,_,Y.out,by decide,L,Ydc HK.out.size hL,rfl,hB⟩⟩
 obtain⟨n,hn⟩: ∃ n,q - p=2*n:=⟨(q - p) / 2,by omega⟩;rw[hn]at F hz BA;rw[show 2*n / 2=n by omega]at F;have g:(((2*n:Nat):Int) % 2 != 0)=false:=by rw[bne_eq_false_iff_eq];omega
 by_cases h64:64 < n
 ·have Y:Box (Zii t x p= .error (4,x.at_)):=⟨by rw[F.out,if_neg (by omega),if_pos h64]⟩;have g2:64 < ((2*n:Nat):Int) / 2:=by omega
  go_wp2_with fail
  refine(C1.out 4 (by decide)).mono ?_;rintro e w2 ⟨⟨L,hL,rfl,hB⟩,hb⟩;exact⟨rfl,HK.out.ofBelow hb,Or.inl ⟨4,_,Y.out,by decide,L,Ydc HK.out.size hL,rfl,hB⟩⟩
 have Y:Box (Zii t x p= .ok ((),{x with k:=4,i:=0,s:=⟨(Zpw (Zac t) n p).toArray⟩},q)):=⟨by rw[F.out,if_neg (by omega),if_neg h64]⟩;have g2:decide (64 < (n:Int))=false:=by simp;omega
 have g3:((2*n:Nat):Int) / 2=(n:Int):=by omega
 have MK:=Z0u w1 n (by omega);have BL:=Zaa (Blk.new w1 (madeCells #[.int .u8 0] n) 5);have hblt:=HR.out.1.lt;have hsz:=HK.out.size;clear C1 z1 z4 F h2;go_wp2
 go_loopw [27] (fun iv wr=>Yak b w t q x w1.heap.size n p iv wr) (fun iv _=>n - Zyz iv)
 case atStart=>exact⟨0,_,by omega,rfl,HR.out.alloc _,HK.out.alloc _,BL.out,by simp[size_madeCells],fun j hj=>absurd hj (by omega)⟩
 case round=>
  obtain⟨k,vs,hk,rfl,hR,hK,hB,hvs,hall⟩:=hrel;have H:=Zaa (Yda hR (Yda hK (Yda hB hall)));clear MK BL HR HK ZA;by_cases hlt:k < n
  ·have g5:(k:Int) < (n:Int):=by omega
   have sfL:=hB.soft;have ck:=hB.cell k;have c0:vs[k]?=some vs[k]:=Array.getElem?_eq_getElem (by omega);rw[c0]at ck;obtain⟨k2,hk2⟩: ∃ k2,2*k=k2:=⟨_,rfl⟩;obtain⟨k3,hk3⟩: ∃ k3,2*k+1=k3:=⟨_,rfl⟩;have l2':k2 < s.size:=by omega
   have l3':k3 < s.size:=by omega
   have i1:=(Zhm s k2 l2').trans (BA.out _ (by omega));have i2:=(Zhm s k3 l3').trans (BA.out _ (by omega));have a1:=AL.out (p+k2) (by omega) (by omega);have a2:=AL.out (p+k3) (by omega) (by omega);have V:=Zaa (fun d (h:Zdk d=true) u=>Zmb d h u);have j1:=Zit a1;have j2:=Zit a2;have JJ:=Zaa (Z96 _ _ j1 j2);generalize hd1:(Zac t).getD (p+k2) 0=d1 at*;generalize hd2:(Zac t).getD (p+k3) 0=d2 at*;have HD:=Zaa (Yda hd1 hd2);clear hd1 hd2;clear hR hK hB hall;have e2:2*(k:Int)=(k2:Int):=by omega
   have e3:(k2:Int)+1=(k3:Int):=by omega
   have K23:=Zaa (Yda hk2 hk3);have gi2:(k2:Int) < (s.size:Int):=by omega
   have gi3:(k3:Int) < (s.size:Int):=by omega
   have wk2:IntKind.i64.wrap (k2:Int)=(k2:Int):=by rw[IntKind.wrap_i64];omega
   have wk3:IntKind.i64.wrap (k3:Int)=(k3:Int):=by rw[IntKind.wrap_i64];omega
   have HZ:=Zaa hz;clear hk2 hk3 hz;go_wp2
   go_region_with (go_at_call 199;refine(V.out _ (by assumption) _).mono ?_;rintro e w' ⟨rfl,rfl⟩)
   all_goals go_wp2_with fail
   all_goals
    refine⟨⟨k+1,_,by omega,by simp,⟨H.out.1.1.away _ _ (by omega) _,H.out.1.2⟩,(H.out.2.1.setNew _ _ _ hsz).drew,(H.out.2.2.1.set k _).dr 1,by simp[hvs],fun j hj=>?_⟩,by simp[Zyz];omega⟩;rw[Ydd,JJ.out];obtain⟨r1,r2⟩:=K23.out;obtain⟨s1,s2⟩:=HD.out;by_cases hjk:j=k
    ·subst hjk;rw[if_pos rfl,if_pos (by omega),show p+2*j=p+k2 by omega,show p+k2+1=p+k3 by omega,s1,s2]
    ·rw[if_neg (fun z=>hjk z.symm)];exact H.out.2.2.2 j (by omega)
  ·obtain rfl:k=n:=by omega
   have g5: ¬ (k:Int) < (k:Int):=by omega
   have CV:=Z91 (xs:=Zpw (Zac t) k p) hB (fun j hj=>by
    rw[Zgf]at hj;rw[hall j hj];have e1:=Zt7 (Zac t) k p j hj;simp only[List.getD,e1];have a1:=Zit (AL.out (p+2*j) (by omega) (by omega));have a2:=Zit (AL.out (p+2*j+1) (by omega) (by omega));exact Z95 a1 a2) k k (Zgf ..).symm
   obtain⟨d0,d1,-,-,d4,d5,d6,d7,sf2⟩:=hR.1.eight;clear hR hK hB hall;go_wp2_with fail
   exact⟨rfl,_,(by simp[results,results165,go_sem];try rfl),H.out.2.1.term,Or.inr ⟨_,_,_,_,Y.out,rfl,rfl,H.out.1.term 4 0 _⟩⟩
end Go.P
namespace Go.W
def Zgo (ks:List UInt8) (m:Nat):List UInt8:=ks.map fun c=>UInt8.ofNat (c.toNat ^^^ m)
theorem Z1o {c:UInt8}{m:Nat}(hm:m < 256):bits .xor .u8 (c.toNat:Int) (m:Int)=((UInt8.ofNat (c.toNat ^^^ m)).toNat:Int):=by
 have hc:c.toNat < 256:=c.toNat_lt;rw[u8_xor_nat _ _ hc hm,UInt8.toNat_ofNat',Nat.mod_eq_of_lt (Nat.xor_lt_two_pow (n:=8) hc hm)]
end Go.W
namespace Go.P
theorem Za6 {w:World}{L:Nat}{e:TypeId}{vs:Array Value}{xs:List UInt8}(h:Blk w L vs e)(hs: ∀ j,j < xs.length->vs[j]?=some (.int .u8 ((xs.getD j 0).toNat:Int)))(n:Nat)(hn:n=xs.length){cap:Nat}:
  (convert 74 9 (.slice (some ⟨L,0,none⟩) n cap)).run prog w= .ok (.string ⟨xs.toArray⟩) w:=by
 subst hn;refine Yfp (P:=prog) w 74 9 5 ⟨L,0,none⟩ cap xs underlying74 underlying5 underlying9 (fun j hj=>?_);have e1:(⟨L,0,none⟩:Addr).add j=⟨L,j,none⟩:=by unfold Addr.add;split <;> simp_all
 rw[e1,h.cell,hs j hj];simp[List.getD,Ydi hj]
def Z8n (w:World) (ks:List UInt8) (m:Nat) (iv:Value) (wr:World):Prop:= ∃ (k:Nat) (vs:Array Value),k<=64/\iv= .int .i64 (k:Int)/\Below w.heap.size w wr/\Blk wr w.heap.size vs 171/\vs.size=64/\ ∀ j,j < 64->vs[j]?=some (.int .u8 ((if j < k then(Zgo ks m).getD j 0 else ks.getD j 0).toNat:Int))
theorem Zqy (v:Array Value)(ks:List UInt8)(m:Nat)(w:World)(hks:ks.length=64)(hm:m < 256)(h64:v.size=64)(hv: ∀ k,k < 64->v[k]?=some (.int .u8 ((ks.getD k 0).toNat:Int))):Calls prog 89 #[.agg v,.int .u8 (m:Int)] w fun e w'=>e= .returned (.string ⟨(Zgo ks m).toArray⟩)/\Below w.heap.size w w':=by
 go_in
 go_wp2_with fail
 have hml:(Zgo ks m).length=64:=by unfold Zgo;rw[Yeo,hks]
 go_loopw [6] (fun iv wr=>Z8n w ks m iv wr) (fun iv _=>64 - (intOf iv).toNat)
 case atStart=>exact⟨0,v,by omega,rfl,(Ydb _ w).alloc lr _,Blk.new w v _,h64,fun j hj=>by rw[hv j hj,if_neg (by omega)]⟩
 case round=>
  obtain⟨k,vs,hk,rfl,hb,hB,hs,hall⟩:=hrel;by_cases hlt:k < 64
  ·have g:(k:Int) < 64:=by omega
   have ck:=(hB.cell k).trans (hall k hlt);rw[if_neg (by omega)]at ck;have sf:=hB.soft;have hx:bits .xor .u8 ((ks.getD k 0).toNat:Int) (m:Int)=(((Zgo ks m).getD k 0).toNat:Int):=by
    rw[Z1o hm];unfold Zgo;simp[List.getD,Yd5,Ydi (show k < ks.length by omega)]
   have HX:=Zaa hx;have H:=Zaa (Yda hb (Yda hB hall));clear hb hB hall hx;generalize (ks.getD k 0).toNat=c at*;go_wp2_with fail
   all_goals
    rw[HX.out];refine⟨⟨k+1,_,by omega,by simp,(H.out.1.setCell (p:=⟨w.heap.size,k,none⟩) lr _),(H.out.2.1.set k _),by simp[hs],fun j hj=>?_⟩,by simp[intOf];omega⟩;rw[Ydd];by_cases hjk:j=k
    ·subst hjk;rw[if_pos rfl,if_pos (by omega),if_pos (by omega)]
    ·rw[if_neg (fun z=>hjk z.symm),H.out.2.2 j hj];by_cases hj2:j < k
     ·rw[if_pos hj2,if_pos (by omega)]
     ·rw[if_neg hj2,if_neg (by omega)]
  ·obtain rfl:k=64:=by omega
   have hcv:(convert 74 9 (.slice (some ⟨w.heap.size,0,none⟩) 64 64)).run prog wr= .ok (.string ⟨(Zgo ks m).toArray⟩) wr:=by
    refine Za6 hB (fun j hj=>?_) 64 hml.symm;rw[hall j (by omega),if_pos (by omega)]
   have H:=Zaa hb;clear hb hB hall;go_wp2
   go_ret
   exact⟨by simp,H.out⟩
end Go.P
namespace Go.W
variable {P:Program}
def Zak:Array Value:=#[.int .u8 0,.int .u8 0,.int .u8 0,.int .u8 0,.int .u8 0,.int .u8 0,.int .u8 0,.int .u8 0,.int .u8 0,.int .u8 0,.int .u8 0,.int .u8 0,.int .u8 0,.int .u8 0,.int .u8 0,.int .u8 0,.int .u8 0,.int .u8 0,.int .u8 0,.int .u8 0,.int .u8 0,.int .u8 0,.int .u8 0,.int .u8 0,.int .u8 0,.int .u8 0,.int .u8 0,.int .u8 0,.int .u8 0,.int .u8 0,.int .u8 0,.int .u8 0]
theorem Znm (n:Nat):Lib.byteCells (List.replicate n 0)=List.replicate n (.int .u8 0):=by simp[Lib.byteCells]
theorem Ztl (w:World)(sT ty elem:TypeId)(g o n c:Nat)(cur:Array Value)(t:TypeId)(hu:P.underlying sT=some (.slice elem))(hz: ∀ w,(zeroValue elem).run P w= .ok (.int .u8 0) w)(hg:w.heap[g]?=some (.cells cur t (0,0)))(hfit:o+n<=cur.size):
  (Builtin.clear_ #[sT] ty #[.slice (some ⟨g,o,none⟩) n c]).run P w= .ok (.tuple #[]) (w.setRow g (cur.toList.take o++Lib.byteCells (List.replicate n 0)++cur.toList.drop (o+n)).toArray):=by
 have hzc:(Builtin.zeroCells (Value.int .u8 0).cells n).toList=Lib.byteCells (List.replicate n 0):=by
  rw[Znm];simp[Builtin.zeroCells,Value.cells];apply List.ext_getElem
  ·simp
  ·intro i h1 h2;simp[Nat.mod_one]
 have hst:=run_storeCells_at P g o t (Lib.byteCells (List.replicate n 0)) 0 cur w hg (by rw[Lib.byteCells_length];simpa using hfit) (Lib.byteCells_one _);rw[Lib.byteCells_length,List.length_replicate]at hst;simp only[Yey]at hst;cases n with
 | zero=>
  simp only[List.replicate_zero,Lib.byteCells,List.map_nil,List.append_nil,Yey,List.take_append_drop,Array.toArray_toList];rw[setRow_self w g cur t (0,0) hg];simp[Builtin.clear_,Yff hu]
 | succ m=>
  simp[Builtin.clear_,Yff hu,hz,hzc,hst]
theorem Z1h {ops:Array Oper}{o:Oper}{a:Act}{w:World}{K:Act->World->Prop}{Q:Exit->Act->World->Prop}{E:Prop}(hgd:o.guard=none)(d:Operand)(sT:TypeId)(hop:o.op=Op.call {callee:=Callee.builtin Builtin.clear,args:=#[d],argTypes:=#[sT]})
  (elem:TypeId) (g off n c:Nat) (cur:Array Value) (t:TypeId) (hu:P.underlying sT=some (.slice elem)) (hz: ∀ w,(zeroValue elem).run P w= .ok (.int .u8 0) w) (hd:a.eval d= .slice (some ⟨g,off,none⟩) n c) (hg:w.heap[g]?=some (.cells cur t (0,0))) (hfit:off+n<=cur.size) (nv:Array Value) (hnv:(cur.toList.take off++Lib.byteCells (List.replicate n 0)++cur.toList.drop (off+n)).toArray=nv)
  (hK:K (a.put o.dst (.tuple #[])) (w.setRow g nv)):if Region.wanted o (yielded ops a.tmps)=true then Oper.wp P o a w K Q else E:=by
 have hw:Region.wanted o (yielded ops a.tmps)=true:=by simp[Region.wanted,hgd]
 rw[if_pos hw];have hrun:=Ztl (P:=P) w sT o.type elem g off n c cur t hu hz hg hfit;rw[hnv]at hrun;unfold Oper.wp;simp[execOp,hop,resolve,invoke,builtin,hd,hrun,Result.andThen];exact hK
end Go.W
namespace Go.P
variable {w:World}{b n k:Nat}{ws hs hs':Nat->Int}{m:Int}{s:Ms}
theorem Mx.setHeld (h:Mx w b ws hs n m)(hk:k < 64){x:Int}(hg: ∀ j,j < 64->hs' j=if j=k then x else hs j):Mx (w.setCell ⟨b,8+k,none⟩ (.int .u8 x)) b ws hs' n m:=by
 obtain⟨vs,hb,h74,h8,hh,h72,h73⟩:=h;refine⟨_,hb.set (8+k) _,by simp[h74],fun j hj=>?_,fun j hj=>?_,?_,?_⟩
 ·rw[Ydd,if_neg (by omega),h8 j hj]
 ·rw[Ydd,hg j hj];by_cases hjk:j=k
  ·subst hjk;rw[if_pos rfl,if_pos (by omega),if_pos rfl]
  ·rw[if_neg (by omega),if_neg hjk,hh j hj]
 ·rw[Ydd,if_neg (by omega),h72]
 ·rw[Ydd,if_neg (by omega),h73]
theorem Mx.byte (h:Mx w b ws hs n m)(hk:k < 64):w.cell? ⟨b,8+k,none⟩=some (.int .u8 (hs k)):=by
 obtain⟨vs,hb,_,_,hh,_⟩:=h;rw[hb.cell,hh k hk]
theorem Mx.cleared (h:Mx w b ws hs n m)(p k:Nat)(hk:p+k<=64): ∃ vs nv:Array Value,w.heap[b]?=some (.cells vs 174 (0,0))/\vs.size=74/\(vs.toList.take (8+p)++Lib.byteCells (List.replicate k 0)++vs.toList.drop (8+p+k)).toArray=nv/\Mx (w.setRow b nv) b ws (Zg6 hs p (List.replicate k 0)) n m:=by
 obtain⟨vs,hb,h74,h8,hh,h72,h73⟩:=h;exact⟨vs,_,hb,h74,rfl,Mx.laid (Yfe _ _ vs _ _ _ hb) h74 h8 hh h72 h73 (by simp) hk rfl⟩
theorem Zah.setRow {wr:World}(hK:Zah b w wr)(nv:Array Value):Zah b w (wr.setRow b nv):=⟨hK.os,hK.tape,hK.output,by rw[Yfd];exact hK.size,fun j hj hne=>(Ye8 _ _ j nv hne).trans (hK.block j hj hne)⟩
def Ybb (s:Ms):Nat->Int:=Zg6 (fun j=>if j=s.n then 128 else s.hs j) (s.n+1) (List.replicate (63 - s.n) 0)
def Yab (s:Ms):(Nat->Int)×(Nat->Int):=if s.n+1<=56 then(s.ws,Ybb s)else(Zjo (Ybb s) s.ws,Zg6 (Ybb s) 0 (List.replicate 64 0))
def Zj3 (m:Int) (k:Nat):Int:=IntKind.u64.wrap (m*8) / 2 ^ (8*k) % 256
def Yah (b:Nat) (w:World) (X Y:Nat->Int) (n:Nat) (m:Int) (iv:Value) (wr:World):Prop:= ∃ (k:Nat) (Y':Nat->Int),k<=8/\iv= .int .i64 (k:Int)/\(∀ j,j < 64->Y' j=if 64 - k<=j then Zj3 m (63 - j)else Y j)/\Mx wr b X Y' n m/\Zah b w wr
def Z90 (V:Nat->Int) (j:Nat):Int:=V (j / 4) / 2 ^ (24 - 8*(j % 4)) % 256
theorem Zxr (j:Nat)(h:j < 32):Zak[j]?=some (.int .u8 0):=by
 have e:Zak=Array.replicate 32 (.int .u8 0):=rfl;rw[e,Array.getElem?_replicate,if_pos h]
def Z73 (s:Ms) (m:Int):Nat->Int:=Zjo (fun j=>if 56<=j then Zj3 m (63 - j)else(Yab s).2 j) (Yab s).1
def Zv6 (s:Ms) (m:Int):List UInt8:=(List.range 32).map fun j=>UInt8.ofNat (Z90 (Z73 s m) j).toNat
def Zk0 (bs:List UInt8):Value:= .agg (Lib.byteCells bs).toArray
theorem Mx.congr (h:Mx w b ws hs n m)(k: ∀ j,j < 64->hs j=hs' j):Mx w b ws hs' n m:=by
 obtain⟨vs,hb,h74,h8,hh,r⟩:=h;exact⟨vs,hb,h74,h8,fun j hj=>by rw[hh j hj,k j hj],r⟩
theorem Z59 {V:Nat->Int}(h:Z73 s m=V){vs:Array Value}(hs:vs.size=32)(hv: ∀ j,j < 32->vs[j]?=some (.int .u8 (Z90 V j))):vs=(Lib.byteCells (Zv6 s m)).toArray:=by
 have hz:(Zv6 s m).length=32:=by simp[Zv6]
 apply Array.ext_getElem?
 intro j;rw[Yd8 (xs:=Lib.byteCells (Zv6 s m))];by_cases hj:j < 32
 ·rw[hv j hj];have hn:0<=Z90 V j/\Z90 V j < 256:=by unfold Z90;omega
  simp only[Lib.byteCells,Zv6,h,Yd5,List.getElem?_range hj,Option.map_some,UInt8.toNat_ofNat'];congr 2
  omega
 ·rw[Ye0 (by omega),List.getElem?_eq_none (by rw[Lib.byteCells_length];omega)]
def Z8q (b L:Nat) (W0:World) (V:Nat->Int) (q:Nat) (wr:World):Prop:= ∃ vs:Array Value,Blk wr L vs 89/\vs.size=32/\(∀ j,j < 32->vs[j]?=some (.int .u8 (if j < q then Z90 V j else 0)))/\Zah b W0 wr/\W0.heap.size<=L
theorem Z6n {a:Nat->Addr}(Z:Zao a w)(hgb:23<=b)(h:Mx w b s.ws s.hs s.n m)(hn:s.n < 64):Calls prog 76 #[.pointer (some ⟨b,0,none⟩)] w fun e w'=>e= .returned (Zk0 (Zv6 s m))/\Zah b w w':=by
 have hblt:=h.lt;obtain⟨W0,hW0⟩: ∃ W,w.alloc (.cells Zak 89)=W:=⟨_,rfl⟩;have H0:Box (Mx W0 b s.ws s.hs s.n m):=⟨h.of (by rw[<- hW0];exact Ydf _ _ _ hblt)⟩;have L0:Box (Blk W0 w.heap.size Zak 89):=⟨hW0▸Blk.new w _ _⟩;have K0:Box (Zah b w W0):=⟨hW0▸(Zah.refl b w).alloc _⟩;obtain⟨c72,c73⟩:=H0.out.nums;have sf:=H0.out.soft;have ch:=H0.out.byte hn;have HW:=Zaa hW0;have ZW:=Zaa Z;clear hW0 h Z;go_in
 go_wp2_with fail
 change Code.wp _ _ _ _ (w.alloc (.cells Zak 89));rw[HW.out];go_region
 all_goals
  go_wp2_with fail
  have M1:=H0.out.setHeld (hs':=fun j=>if j=s.n then 128 else s.hs j) hn (fun j _=>rfl);have K1:=Zaa ((Zah.refl b W0).set (8+s.n) (.int .u8 128));obtain⟨W1,hW1⟩: ∃ W,(W0.setCell ⟨b,8+s.n,none⟩ (.int .u8 128))=W:=⟨_,rfl⟩;rw[hW1]at M1 K1⊢;obtain⟨N,hN⟩: ∃ N,s.n+1=N:=⟨_,rfl⟩;have hN64:(N:Int)<=64:=by omega
  have hwr:IntKind.i64.wrap ((s.n:Int)+1)=(N:Int):=by rw[IntKind.wrap_i64];omega
  obtain⟨vs,nv,g1,g2,g3,M2⟩:=M1.cleared N (64 - N) (by omega);clear c72 c73 sf ch;obtain⟨c72,c73⟩:=M1.nums;have sf:=M1.soft;obtain⟨q,hq,hq1,hq2⟩: ∃ q,(if 64=N then(⟨b,8,none⟩:Addr)else⟨b,8+N,none⟩)=⟨b,q,none⟩/\(vs.toList.take q++Lib.byteCells (List.replicate (64 - N) 0)++vs.toList.drop (q+(64 - N))).toArray=nv/\q+(64 - N)<=74:=by
   by_cases e:64=N
   ·subst e;exact⟨8,if_pos rfl,by rw[<- g3];simp[Lib.byteCells],by omega⟩
   ·exact⟨8+N,if_neg e,g3,by omega⟩
  have V1:=Zaa (Yda g1 (Yda hq hq1));clear hq hq1;have M2':=Zaa M2;clear g1 g3 M2 hW1 M1;go_region_law (refine Z1h rfl (.tmp 24) 74 rfl 5 b q (64 - N) (64 - N) vs 174 underlying74 (fun w=>by kernel_rfl) (by simp[Act.eval,Act.put,V1.out.2.1]) V1.out.1 (by omega) nv V1.out.2.2 ?_)
  try simp only[Act.put]
  obtain⟨W2,hW2⟩: ∃ W,W1.drew.drew.setRow b nv=W:=⟨_,rfl⟩;have M3:Box (Mx W2 b s.ws (Zg6 (fun j=>if j=s.n then 128 else s.hs j) N (List.replicate (64 - N) 0)) s.n m):=⟨M2'.out.of (by rw[<- hW2];rfl)⟩;have K3:Box (Zah b W0 W2):=⟨by rw[<- hW2];exact(Zah.setRow (K1.out.drew.drew) nv)⟩;rw[hW2];clear c72 c73 sf hW2 M2' V1;obtain⟨c72,c73⟩:=M3.out.nums;have sf:=M3.out.soft;clear K1 H0;try generalize (if 64=N then(⟨b,8,none⟩:Addr)else⟨b,8+N,none⟩)=AD
  have E2:Box (Zg6 (fun j=>if j=s.n then 128 else s.hs j) N (List.replicate (64 - N) 0)=Ybb s):=⟨by unfold Ybb;rw[hN,show 63 - s.n=64 - N by omega]⟩;rw[E2.out]at M3;clear E2;rcases Ye3 56 N with g56 | g56
  case' inr=>
   have g6:((N:Int)<=56):=by omega
   go_wp2_with fail
   have M6:=Zaa M3.out;have K6:=Zaa K3.out;obtain⟨W6,hW6⟩: ∃ W,W2=W:=⟨_,rfl⟩;rw[hW6]at M6 K6 c73 sf⊢;obtain⟨X,Y,E4⟩: ∃ X Y,Box (Yab s=(X,Y)/\Mx W6 b X Y s.n m):=⟨_,_,⟨by unfold Yab;rw[if_pos (by omega)],M6.out⟩⟩;clear M3 K3 c72 hW6 M6
  case' inl=>
   have g6: ¬ ((N:Int)<=56):=by omega
   have CM:=Zaa (Zwo (ZW.out.keeps (K0.out.trans K3.out) hgb) M3.out);go_wp2_with fail
   refine CM.out.mono ?_;rintro e w4 ⟨rfl,hk4,hm4⟩;obtain⟨us,nu,g1',g2',g3',M6⟩:=hm4.cleared 0 64 (by omega);have K6:=Zaa (Zah.setRow (K3.out.trans hk4) nu);have hcl:(Builtin.clear_ #[74] 0 #[.slice (some ⟨b,8,none⟩) 64 64]).run prog w4= .ok (.tuple #[]) (w4.setRow b nu):=by
    rw[<- g3'];exact Ztl w4 74 0 5 b 8 64 64 us 174 underlying74 (fun w=>by kernel_rfl) g1' (by omega)
   obtain⟨W6,hW6⟩: ∃ W,w4.setRow b nu=W:=⟨_,rfl⟩;rw[hW6]at M6 K6 hcl;have HM6:=Zaa M6;clear c72 c73 sf CM hk4 g1' g2' g3' hW6 hm4 M6;have M6:=Zaa HM6.out;have c73:=M6.out.nums.2;have sf:=M6.out.soft;clear HM6 M3 K3;go_wp2_with fail
   clear hcl;obtain⟨X,Y,E4⟩: ∃ X Y,Box (Yab s=(X,Y)/\Mx W6 b X Y s.n m):=⟨_,_,⟨by unfold Yab;rw[if_neg (by omega)],M6.out⟩⟩;clear M6
  all_goals
   go_loopw [37] (fun iv wr=>Yah b W0 X Y s.n m iv wr) (fun iv _=>8 - (intOf iv).toNat)
   case atStart=>exact⟨0,Y,by omega,rfl,fun j hj=>by rw[if_neg (by omega)],E4.out.2,K6.out⟩
   case round=>
    obtain⟨k,Y',hk,rfl,hY',hM,hK⟩:=hrel;by_cases hlt:k < 8
    ·have g:(k:Int) < 8:=by omega
     clear c73 sf;have c73:=hM.nums.2;have sf:=hM.soft;have ch:=hM.byte (show 63 - k < 64 by omega);have H:=Zaa (Yda hM hK);clear hM hK;go_wp2
     go_region
     all_goals go_wp2_with fail
     all_goals
      refine⟨⟨k+1,fun j=>if j=63 - k then Zj3 m k else Y' j,by omega,by simp,fun j hj=>?_,(H.out.1.setHeld (by omega) fun j _=>rfl).of rfl,(H.out.2.set _ _).drew⟩,by simp[intOf];omega⟩;show(if j=63 - k then Zj3 m k else Y' j)=_;by_cases hjk:j=63 - k
      ·subst hjk;rw[if_pos rfl,if_pos (by omega),show 63 - (63 - k)=k by omega]
      ·rw[if_neg hjk,hY' j hj];by_cases hj2:64 - k<=j
       ·rw[if_pos hj2,if_pos (by omega)]
       ·rw[if_neg hj2,if_neg (by omega)]
    ·obtain rfl:k=8:=by omega
     have hYf:Box (Z73 s m=Zjo (fun j=>if 56<=j then Zj3 m (63 - j)else Y j) X):=⟨by unfold Z73;rw[E4.out.1]⟩;have hM':=hM.congr hY';have HK:=Zaa hK;have CM:=Zaa (Zwo (ZW.out.keeps (K0.out.trans hK) hgb) hM');clear hM hM' hK c73 sf hY';go_wp2_with fail
     refine CM.out.mono ?_;rintro e w7 ⟨rfl,hk7,hm7⟩;have K7:=Zaa (HK.out.trans hk7);have M7:=Zaa hm7;have hb7:=hm7.lt;have x0:=hm7.word (k:=0) (by decide);have x1:=hm7.word (k:=1) (by decide);have x2:=hm7.word (k:=2) (by decide);have x3:=hm7.word (k:=3) (by decide);have x4:=hm7.word (k:=4) (by decide);have x5:=hm7.word (k:=5) (by decide);have x6:=hm7.word (k:=6) (by decide);have x7:=hm7.word (k:=7) (by decide);have IX:=fun k hk u=>Ycp (Zjo (fun j=>if 64 - 8<=j then Zj3 m (63 - j)else Y j) X) k hk u;clear CM hk7 hm7;obtain⟨V,hV⟩: ∃ V,Box (Zjo (fun j=>if 64 - 8<=j then Zj3 m (63 - j)else Y j) X=V):=⟨_,⟨rfl⟩⟩;have HE:Box (Z73 s m=V):=⟨hYf.out.trans hV.out⟩;rw[hV.out]at M7 x0 x1 x2 x3 x4 x5 x6 x7 IX;go_wp2_with fail
     change Code.wp _ _ _ _ (w7.alloc (.cells Zak 89));have I0:Box (Z8q b w7.heap.size W0 V 0 (w7.alloc (.cells Zak 89))):=⟨⟨Zak,Blk.new _ _ _,rfl,fun j hj=>by rw[if_neg (by omega)];exact Zxr j hj,K7.out.alloc _,K7.out.size⟩⟩;generalize w7.heap.size=L at*;generalize w7.alloc (.cells Zak 89)=W8 at*;clear x0 x1 x2 x3 x4 x5 x6 x7;go_loopw [62] (fun iv wr=> ∃ i:Nat,i<=8/\iv= .int .i64 (i:Int)/\Z8q b L W0 V (4*i) wr) (fun iv _=>8 - (intOf iv).toNat)
     case atStart=>exact⟨0,by omega,rfl,I0.out⟩
     case round=>
      obtain⟨i,hi,rfl,hS⟩:=hrel;by_cases hlt:i < 8
      ·have g:(i:Int) < 8:=by omega
       have ix:=IX i hlt;have HS:=Zaa hS;clear hS IX;go_wp2
       go_loopw [66] (fun jv wr=> ∃ k:Nat,k<=4/\jv= .int .i64 (k:Int)/\Z8q b L W0 V (4*i+k) wr) (fun jv _=>4 - (intOf jv).toNat)
       case atStart=>exact⟨0,by omega,rfl,HS.out⟩
       case round=>
        obtain⟨k,hk,rfl,hS⟩:=hrel;by_cases hlk:k < 4
        ·have gk:(k:Int) < 4:=by omega
         obtain⟨vs,hB,hs,hall,hKe,hLe⟩:=hS;have ck:=(hB.cell (4*i+k)).trans (hall _ (by omega));rw[if_neg (by omega)]at ck;have sf:=hB.soft;have H:=Zaa (Yda hB (Yda hall (Yda hKe hLe)));clear hB hall hKe hLe;go_wp2_with fail
         refine⟨⟨k+1,by omega,by simp,⟨_,H.out.1.set _ _,by simp[hs],fun j hj=>?_,H.out.2.2.1.setNew _ _ _ H.out.2.2.2,H.out.2.2.2⟩⟩,by simp[intOf];omega⟩;rw[Ydd];by_cases hjk:4*i+k=j
         ·subst hjk;rw[if_pos rfl,if_pos (by omega),if_pos (by omega)];unfold Z90;rw[show(4*i+k) / 4=i by omega,show(4*i+k) % 4=k by omega]
         ·rw[if_neg hjk,H.out.2.1 j hj];by_cases hj2:j < 4*i+k
          ·rw[if_pos hj2,if_pos (by omega)]
          ·rw[if_neg hj2,if_neg (by omega)]
        ·obtain rfl:k=4:=by omega
         have HS:=Zaa hS;clear hS;go_wp2
         exact⟨⟨i+1,by omega,by simp,HS.out⟩,by simp[intOf];omega⟩
      ·obtain rfl:i=8:=by omega
       obtain⟨vs,hB,hs,hall,hKe,hLe⟩:=hS;have HvE:=Zaa (Z59 HE.out hs (fun j hj=>by rw[hall j hj,if_pos (by omega)]));have hone:vs.all (·.oneCell')=true:=by
        rw[HvE.out,List.all_toArray,Ye1];exact Lib.byteCells_one _
       have hpi:(prog.info? 89).map (·.size)=some vs.size:=by rw[hs];kernel_rfl
       have hsw:W0.heap.size=w.heap.size+1:=by rw[<- HW.out];simp
       have hL0:Blk wr w.heap.size Zak 89:=L0.out.of (hKe.block _ (by omega) (by omega));go_wp2_with (first
        | (refine Yfh rfl 89 (.tmp 4) rfl L rfl 89 vs (0,0) _ hB underlying89 rfl hpi ?_)
        | (refine Yfa rfl 89 (.tmp 2) (.tmp 82) rfl w.heap.size vs rfl rfl 89 Zak hL0 hpi (by first | exact hs | exact hs.symm) hone ?_))
       refine Ye6 (results_cell_row (p:=2) (ty:=89) rfl _ _ w.heap.size 89 vs (0,0) _ rfl (Yfe wr _ Zak vs _ _ hL0) underlying89 rfl hpi) rfl ?_;have hk:=K0.out.trans hKe;exact⟨by rw[HvE.out];rfl,⟨hk.os,hk.tape,hk.output,by rw[Yfd];exact hk.size,fun j hj hne=>(Ye8 wr _ j vs (by omega)).trans (hk.block j hj hne)⟩⟩
end Go.P
