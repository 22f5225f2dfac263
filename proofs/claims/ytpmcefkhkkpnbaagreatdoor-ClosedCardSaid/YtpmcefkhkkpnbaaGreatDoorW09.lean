import Derived.Test.YtpmcefkhkkpnbaaGreatDoorW06
import Derived.Test.YtpmcefkhkkpnbaaGreatDoorW08
import Derived.Laws.MakeOwn
import Derived.Laws.BytesArg
set_option linter.all false
set_option maxRecDepth 100000
set_option maxHeartbeats 8000000
open Go.Proofs Go.RowKit Go.W Tryz
namespace Go.W
def q9 (bs:Cg): ∀ n p,(WX bs n p).length=n
 | 0,_=>rfl
 | n+1,p=>by rw[WX,DU,q9 bs n]
def Zxw (bs:Cg): ∀ (n p j:Nat),j<n->(WX bs n p)[j]?=some (UInt8.ofNat<|16*QI (bs.getD (p+2*j) 0)+QI (bs.getD (p+2*j+1) 0))
 | 0,_,_,h=>absurd h zx
 | n+1,p,0,_=>rfl
 | n+1,p,j+1,h=>by
  rw[WX,List.getElem?_cons_succ,Zxw bs n (p+2) j zx,show p+2+2*j=p+2*(j+1)by omega]
def Yg2 (v h:Nat)(hv:v<16)(hh:h<16):bits .or .u8 ((v:Int)*16) (h:Int)=((16*v+h:Nat):Int):=by
 have e:((v:Int)*16)=((16*v:Nat):Int):=zx
 rw[e,u8_or_nat _ _ zx zx,nat_join 4 (16*v) h zx zx]
def Yg1 {A B:Nat}(ha:A<16)(hb:B<16):some (Value.int .u8 ((16*A+B:Nat):Int))=some (yS (((some<|UInt8.ofNat<|16*A+B).getD 0).toNat:Int)):=by
 have e:(UInt8.ofNat<|16*A+B).toNat=16*A+B:=by
  rw[UInt8.toNat_ofNat'];exact Nat.mod_eq_of_lt zx
 rw[Option.getD_some,e]
def Ydm {bs:Cg}{ok:Nat->Bool}: ∀ {f p j:Nat},p<=j->j<Sr bs ok f p->ok (bs.getD j 0)=true:=by
 intro f;induction f with
 | zero=>intro p j h1 h2;exact absurd h2 (by simp[Sr];omega)
 | succ f ih=>
  intro p j h1 h2;rw[Sr]at h2;split at h2
  .rename_i hc;by_cases hj:j=p
   .subst hj;exact hc.2
   .exact ih zx h2
  .omega
def Zp6 {t:Ay}{p q j:Nat}(hq:q<=t.size)(hj:j<q-p):(Ac<|t.extract p q).getD j 0=(Ac t).getD (p+j) 0:=by
 have h2:q<=t.data.size:=hq;simp only[Ac,List.getD,FK,ByteArray.data_extract,Qq,Array.getElem?_extract];rw[xj zx]
def Z88:(prog.info? 5).map (fun i=>(i.zero,i.size,i.bytes))=some (some<|yS 0,1,1):=zt
def Z5w (w:Bb)(n:Nat)(h:n<=1000):(Instr.makeSlice 149 (zo (n:Int))<|zo (n:Int)).run prog w= .ok (sP (Qb w.heap.size 0) n n) (w.alloc<|.cells (madeCells #[yS 0] n) 5):=by
 obtain⟨i0,hi,hz0,hz1,hz2⟩:=info_parts Z88;have aI:=run_makeSlice (P:=prog) w 149 5 i0 (yS 0) underlying149 hi hz0 .i64 .i64 (n:Int) (n:Int) zx zx (by rw[hz1];simp;omega) (by rw[hz2];simp;omega) zx;rw[hz1]at aI;have e:(Value.int .u8 0).cells=#[Value.int .u8 0]:=rfl;rw[e]at aI;simpa using aI
def Ygv {w:Bb}{L:Nat}{vs:Ca}{xs:List UInt8}(h:AO w L vs 5)(hs: ∀ j,j<xs.length->vs[j]?=some (yS ((xs.getD j 0).toNat:Int)))(n cap:Nat)(hn:n=xs.length):
  (convert 149 9<|sP (Qb L 0) n cap).run prog w= .ok (.string ⟨xs.toArray⟩) w:=by
 subst hn;refine xD (P:=prog) w 149 9 5 (zm L 0) cap xs underlying149 underlying5 underlying9 fun j hj=>?_;have e:((zm L 0):Addr).add j=(zm L j):=by unfold Addr.add;split <;> simp_all
 rw[e,h.cell,hs j hj];simp[List.getD,A8 hj]
def Yho (b:Nat) (w:Bb) (t:Ay) (q:Nat) (x:Tk) (L n p:Nat) (iv:Value) (wr:Bb):Prop:= ∃ (k:Nat) (vs:Ca),k<=n/\iv= zo ((k:Nat):Int)/\Rd wr b t q x/\Ad b w wr/\AO wr L vs 5/\vs.size=n/\ ∀ j,j<k->vs[j]?=some (yS ((16*QI ((Ac t).getD (p+2*j) 0)+QI ((Ac t).getD (p+2*j+1) 0):Nat):Int))
def Zv3:Zpu:=by
 intro a w b t p x Z h;have ht:=h.2.1;have hg:=h.2.2.2;have hp:=h.2.2.1;have CR:=AC<|p8 Z5r h;have hl:=Wy t;have hs:=fZ (bs:=Ac t) (ok:=KX) (p:=p) zx;have AL:AF (∀ j,p<=j->j<DT (Ac t) KX p->KX ((Ac t).getD j 0)=true):=⟨fun j h1 h2=>Ydm h1 h2⟩;have F:AF (Ue t x p=if(DT (Ac t) KX p-p) % 2≠0 then .error (1,x.at_)else if 64<(DT (Ac t) KX p-p) / 2 then .error (4,x.at_)else .ok ((),{x with k:=4,i:=0,s:=⟨(WX (Ac t) ((DT (Ac t) KX p-p) / 2) p).toArray⟩},DT (Ac t) KX p)):=⟨rfl⟩;generalize DT (Ac t) KX p=q at*;have hz:(t.extract p q).size=q-p:=by rw[YB];omega
 have BA:AF (∀ j,j<q-p->(Ac<|t.extract p q).getD j 0=(Ac t).getD (p+j) 0):=⟨fun j hj=>Zp6 zx hj⟩;have ZZ:=AC Z;clear h Z;go_in
 go_wp2_with fail
 apply mq CR.o;rintro w1 ⟨hk,hr⟩;have ZA:=AC<|ZZ.o.keeps hk hg;have HK:=AC hk;have HR:=AC hr;have C1:=AC fun n (hn:n≠0)=>QM a hn hr;have z4:=ZA.o.c4;have z1:=ZA.o.c1;clear hk hr CR ZZ;generalize t.extract p q=s at*;by_cases h2:(q-p) % 2≠0
 .have Y:AF (Ue t x p= .error (1,x.at_)):=⟨by rw[F.o,xj h2]⟩;have g:(((q-p:Nat):Int) % 2 != 0)=true:=by rw[bne_iff_ne];omega
  go_wp2_with fail
  apply(C1.o 1 zu).mono;rintro e w2 ⟨⟨L,hL,rfl,hB⟩,hb⟩;exact⟨rfl,HK.o.AU hb,Or.inl ⟨1,_,Y.o,zu,L,Ab HK.o.size hL,rfl,hB⟩⟩
 obtain⟨n,hn⟩: ∃ n,q-p=2*n:=⟨(q-p) / 2,zx⟩;rw[hn]at F hz BA;rw[show 2*n / 2=n by omega]at F;have g:(((2*n:Nat):Int) % 2 != 0)=false:=by rw[bne_eq_false_iff_eq];omega
 by_cases DK:64<n
 .have Y:AF (Ue t x p= .error (4,x.at_)):=⟨by rw[F.o,xd zx,xj DK]⟩;have g2:64<((2*n:Nat):Int) / 2:=zx
  go_wp2_with fail
  apply(C1.o 4 zu).mono;rintro e w2 ⟨⟨L,hL,rfl,hB⟩,hb⟩;exact⟨rfl,HK.o.AU hb,Or.inl ⟨4,_,Y.o,zu,L,Ab HK.o.size hL,rfl,hB⟩⟩
 have Y:AF (Ue t x p= .ok ((),{x with k:=4,i:=0,s:=⟨(WX (Ac t) n p).toArray⟩},q)):=⟨by rw[F.o,xd zx,xd DK]⟩;have g2:decide (64<(n:Int))=false:=zc
 have g3:((2*n:Nat):Int) / 2=(n:Int):=zx
 have MK:=Z5w w1 n zx;have BL:=AC<|AO.new w1 (madeCells #[yS 0] n) 5;have E9:=HR.o.1.lt;have hsz:=HK.o.size;clear C1 z1 z4 F h2;go_wp2
 go_loopw [27] (fun iv wr=>Yho b w t q x w1.heap.size n p iv wr) (fun iv _=>n-Td iv)
 .exact⟨0,_,zx,rfl,HR.o.alloc _,HK.o.alloc _,BL.o,by simp[size_madeCells],fun j hj=>absurd hj zx⟩
 .obtain⟨k,vs,hk,rfl,hR,hK,hB,UI,hall⟩:=hrel;have H:=AC<|AJ hR<|AJ hK<|AJ hB hall;clear MK BL HR HK ZA;by_cases hlt:k<n
  .have g5:(k:Int)<(n:Int):=zx
   have sfL:=hB.soft;have ck:=hB.cell k;have c0:vs[k]?=some vs[k]:=Array.getElem?_eq_getElem zx;rw[c0]at ck;obtain⟨k2,hk2⟩:=fu (2*k);obtain⟨k3,hk3⟩:=fu (2*k+1);have l2':k2<s.size:=zx
   have l3':k3<s.size:=zx
   have i1:=(ZQ s k2 l2').trans<|BA.o _ zx;have i2:=(ZQ s k3 l3').trans<|BA.o _ zx;have a1:=AL.o (p+k2) zx zx;have a2:=AL.o (p+k3) zx zx;have V:=AC fun d (h:KX d=true) u=>Zob d h u;have j1:=qY a1;have j2:=qY a2;have JJ:=AC<|Yg2 _ _ j1 j2;generalize Bc:(Ac t).getD (p+k2) 0=d1 at*;generalize Cj:(Ac t).getD (p+k3) 0=d2 at*;have HD:=AC<|AJ Bc Cj;clear Bc Cj;clear hR hK hB hall;have e2:2*(k:Int)=(k2:Int):=zx
   have e3:(k2:Int)+1=(k3:Int):=zx
   have K23:=AC<|AJ hk2 hk3;have gi2:(k2:Int)<(s.size:Int):=zx
   have gi3:(k3:Int)<(s.size:Int):=zx
   have wk2:IntKind.i64.wrap (k2:Int)=(k2:Int):=by rw[IntKind.wrap_i64];omega
   have wk3:IntKind.i64.wrap (k3:Int)=(k3:Int):=by rw[IntKind.wrap_i64];omega
   have HZ:=AC hz;clear hk2 hk3 hz;go_wp2
   go_region_with (go_at_call 241;apply(V.o _ (by assumption) _).mono;rintro e w' ⟨rfl,rfl⟩)
   all_goals go_wp2_with fail
   all_goals
    refine⟨⟨k+1,_,zx,zw,⟨H.o.1.1.away _ _ zx _,H.o.1.2⟩,(H.o.2.1.Ai _ _ _ hsz).drew,(H.o.2.2.1.set k _).dr 1,by simp[UI],fun j hj=>?_⟩,by simp[Td];omega⟩;rw[Dy,JJ.o];obtain⟨r1,r2⟩:=K23.o;obtain⟨s1,s2⟩:=HD.o;by_cases hjk:j=k
    .subst hjk;rw[xj rfl,xj zx,show p+2*j=p+k2 by omega,show p+k2+1=p+k3 by omega,s1,s2]
    .rw[xd fun z=>hjk z.symm];exact H.o.2.2.2 j zx
  .obtain rfl:k=n:=zx
   have g5: ¬ (k:Int)<(k:Int):=zx
   have CV:=Ygv (xs:=WX (Ac t) k p) hB (fun j hj=>by
    rw[q9]at hj;rw[hall j hj];have e1:=Zxw (Ac t) k p j hj;simp only[List.getD,e1];have a1:=qY<|AL.o (p+2*j) zx zx;have a2:=qY<|AL.o (p+2*j+1) zx zx;exact Yg1 a1 a2) k k (q9 ..).symm
   obtain⟨d0,d1,-,-,d4,d5,d6,d7,XU⟩:=hR.1.eight;clear hR hK hB hall;go_wp2_with fail
   exact⟨rfl,_,(by simp[results,results196,go_sem];try rfl),H.o.2.1.term,Or.inr ⟨_,_,_,_,Y.o,rfl,rfl,H.o.1.term 4 0 _⟩⟩
def MP (ks:List UInt8) (m:Nat):List UInt8:=ks.map fun c=>UInt8.ofNat (c.toNat ^^^ m)
def Z6x {c:UInt8}{m:Nat}(hm:m<256):bits .xor .u8 (c.toNat:Int) (m:Int)=((UInt8.ofNat<|c.toNat ^^^ m).toNat:Int):=by
 have hc:c.toNat<256:=c.toNat_lt;rw[u8_xor_nat _ _ hc hm,UInt8.toNat_ofNat',Nat.mod_eq_of_lt<|Nat.xor_lt_two_pow (n:=8) hc hm]
def wU {w:Bb}{L:Nat}{e:TypeId}{vs:Ca}{xs:List UInt8}(h:AO w L vs e)(hs: ∀ j,j<xs.length->vs[j]?=some (yS ((xs.getD j 0).toNat:Int)))(n:Nat)(hn:n=xs.length){cap:Nat}:
  (convert 149 9<|sP (Qb L 0) n cap).run prog w= .ok (.string ⟨xs.toArray⟩) w:=by
 subst hn;refine xD (P:=prog) w 149 9 5 (zm L 0) cap xs underlying149 underlying5 underlying9 fun j hj=>?_;have e1:((zm L 0):Addr).add j=(zm L j):=by unfold Addr.add;split <;> simp_all
 rw[e1,h.cell,hs j hj];simp[List.getD,A8 hj]
def Ye6 (w:Bb) (ks:List UInt8) (m:Nat) (iv:Value) (wr:Bb):Prop:= ∃ (k:Nat) (vs:Ca),k<=64/\iv= zo (k:Int)/\Bl w wr/\AO wr w.heap.size vs 193/\vs.size=64/\ ∀ j,j<64->vs[j]?=some (yS ((if j<k then(MP ks m).getD j 0 else ks.getD j 0).toNat:Int))
def Ztx (v:Ca)(ks:List UInt8)(m:Nat)(w:Bb)(Ph:ks.length=64)(hm:m<256)(DK:v.size=64)(hv: ∀ k,k<64->v[k]?=some (yS ((ks.getD k 0).toNat:Int))):Calls prog 84 #[.agg v,yS (m:Int)] w fun e w'=>e=uY (.string ⟨(MP ks m).toArray⟩)/\Bl w w':=by
 go_in
 go_wp2_with fail
 have VL:(MP ks m).length=64:=by unfold MP;rw[Dj,Ph]
 go_loopw [6] (fun iv wr=>Ye6 w ks m iv wr) (fun iv _=>64-(intOf iv).toNat)
 .exact⟨0,v,zx,rfl,(AR _ w).alloc lr _,AO.new w v _,DK,fun j hj=>by rw[hv j hj,xd zx]⟩
 .obtain⟨k,vs,hk,rfl,hb,hB,hs,hall⟩:=hrel;by_cases hlt:k<64
  .have g:(k:Int)<64:=zx
   have ck:=(hB.cell k).trans<|hall k hlt;rw[xd zx]at ck;have sf:=hB.soft;have hx:bits .xor .u8 ((ks.getD k 0).toNat:Int) (m:Int)=(((MP ks m).getD k 0).toNat:Int):=by
    rw[Z6x hm];unfold MP;simp[List.getD,FK,A8 (show k<ks.length by omega)]
   have HX:=AC hx;have H:=AC<|AJ hb<|AJ hB hall;clear hb hB hall hx;generalize (ks.getD k 0).toNat=c at*;go_wp2_with fail
   all_goals
    rw[HX.o];refine⟨⟨k+1,_,zx,zw,(H.o.1.setCell (p:=(zm w.heap.size k)) lr _),(H.o.2.1.set k _),by simp[hs],fun j hj=>?_⟩,zd⟩;rw[Dy];by_cases hjk:j=k
    .subst hjk;rw[xj rfl,xj zx,xj zx]
    .rw[xd fun z=>hjk z.symm,H.o.2.2 j hj];by_cases Am:j<k
     .rw[xj Am,xj zx]
     .rw[xd Am,xd zx]
  .obtain rfl:k=64:=zx
   have hcv:(convert 149 9<|sP (Qb w.heap.size 0) 64 64).run prog wr= .ok (.string ⟨(MP ks m).toArray⟩) wr:=by
    refine wU hB (fun j hj=>?_) 64 VL.symm;rw[hall j zx,xj zx]
   have H:=AC hb;clear hb hB hall;go_wp2
   go_ret
   exact⟨zw,H.o⟩
variable {P:Program}
def Bj:Ca:=#[yS 0,yS 0,yS 0,yS 0,yS 0,yS 0,yS 0,yS 0,yS 0,yS 0,yS 0,yS 0,yS 0,yS 0,yS 0,yS 0,yS 0,yS 0,yS 0,yS 0,yS 0,yS 0,yS 0,yS 0,yS 0,yS 0,yS 0,yS 0,yS 0,yS 0,yS 0,yS 0]
def Zp5 (n:Nat):Lib.byteCells (List.replicate n 0)=List.replicate n (yS 0):=by simp[Lib.byteCells]
def Zxa (w:Bb)(sT ty elem:TypeId)(g o n c:Nat)(cur:Ca)(t:TypeId)(hu:P.underlying sT=some (.slice elem))(hz: ∀ w,(zeroValue elem).run P w= .ok (yS 0) w)(hg:w.heap[g]?=some (.cells cur t (0,0)))(Fj:o+n<=cur.size):
  (Builtin.clear_ #[sT] ty #[sP (Qb g o) n c]).run P w= .ok (.tuple #[]) (w.setRow g (cur.toList.take o++Lib.byteCells (List.replicate n 0)++cur.toList.drop (o+n)).toArray):=by
 have sw:(Builtin.zeroCells (Value.int .u8 0).cells n).toList=Lib.byteCells (List.replicate n 0):=by
  rw[Zp5];simp[Builtin.zeroCells,Value.cells];apply List.ext_getElem
  .simp
  .intro i h1 h2;simp[Nat.mod_one]
 have hst:=run_storeCells_at P g o t (Lib.byteCells<|List.replicate n 0) 0 cur w hg (by rw[xl];simpa using Fj)<|Lib.byteCells_one _;rw[xl,List.length_replicate]at hst;simp only[Qs]at hst;cases n with
 | zero=>
  simp only[List.replicate_zero,Lib.byteCells,List.map_nil,List.append_nil,Qs,List.take_append_drop,Array.toArray_toList];rw[setRow_self w g cur t (0,0) hg];simp[Builtin.clear_,J5 hu]
 | succ m=>
  simp[Builtin.clear_,J5 hu,hz,sw,hst]
def Z6n {ops:Array Oper}{o:Oper}{a:Act}{w:Bb}{K:Act->Bb->Prop}{Q:Exit->Act->Bb->Prop}{E:Prop}(hgd:o.guard=none)(d:Operand)(sT:TypeId)(hop:o.op=Op.call {callee:=Callee.builtin Builtin.clear,args:=#[d],argTypes:=#[sT]})
  (elem:TypeId) (g off n c:Nat) (cur:Ca) (t:TypeId) (hu:P.underlying sT=some (.slice elem)) (hz: ∀ w,(zeroValue elem).run P w= .ok (yS 0) w) (hd:a.eval d= sP (Qb g off) n c) (hg:w.heap[g]?=some (.cells cur t (0,0))) (Fj:off+n<=cur.size) (nv:Ca) (RH:(cur.toList.take off++Lib.byteCells (List.replicate n 0)++cur.toList.drop (off+n)).toArray=nv)
  (hK:K (a.put o.dst<|.tuple #[]) (w.setRow g nv)):if Region.wanted o (yielded ops a.tmps)=true then Oper.wp P o a w K Q else E:=by
 have hw:Region.wanted o (yielded ops a.tmps)=true:=by simp[Region.wanted,hgd]
 rw[xj hw];have hrun:=Zxa (P:=P) w sT o.type elem g off n c cur t hu hz hg Fj;rw[RH]at hrun;unfold Oper.wp;simp[execOp,hop,resolve,invoke,builtin,hd,hrun,Result.andThen];exact hK
variable {w:Bb}{b n k:Nat}{ws hs hs':Nat->Int}{m:Int}{s:Ms}
def Mx.SV (h:Mx w b ws hs n m)(hk:k<64){x:Int}(hg: ∀ j,j<64->hs' j=if j=k then x else hs j):Mx (w.setCell (zm b (8+k))<|yS x) b ws hs' n m:=by
 obtain⟨vs,hb,Oa,h8,hh,Qc,Qa⟩:=h;refine⟨_,hb.set (8+k) _,by simp[Oa],fun j hj=>?_,fun j hj=>?_,?_,?_⟩
 .rw[Dy,xd zx,h8 j hj]
 .rw[Dy,hg j hj];by_cases hjk:j=k
  .subst hjk;rw[xj rfl,xj zx,xj rfl]
  .rw[xd zx,xd hjk,hh j hj]
 .rw[Dy,xd zx,Qc]
 .rw[Dy,xd zx,Qa]
def Mx.byte (h:Mx w b ws hs n m)(hk:k<64):w.cell? (zm b (8+k))=some (.int .u8<|hs k):=by
 obtain⟨vs,hb,_,_,hh,_⟩:=h;rw[hb.cell,hh k hk]
def Mx.cleared (h:Mx w b ws hs n m)(p k:Nat)(hk:p+k<=64): ∃ vs nv:Ca,w.heap[b]?=some (.cells vs 276 (0,0))/\vs.size=74/\(vs.toList.take (8+p)++Lib.byteCells (List.replicate k 0)++vs.toList.drop (8+p+k)).toArray=nv/\Mx (w.setRow b nv) b ws (Nq hs p<|List.replicate k 0) n m:=by
 obtain⟨vs,hb,Oa,h8,hh,Qc,Qa⟩:=h;exact⟨vs,_,hb,Oa,rfl,Mx.laid (GM _ _ vs _ _ _ hb) Oa h8 hh Qc Qa zw hk rfl⟩
def Ad.setRow {wr:Bb}(hK:Ad b w wr)(nv:Ca):Ad b w (wr.setRow b nv):=⟨hK.os,hK.tape,hK.output,by rw[Ef];exact hK.size,fun j hj hne=>(Db _ _ j nv hne).trans (hK.block j hj hne)⟩
def rP (s:Ms):Nat->Int:=Nq (fun j=>if j=s.n then 128 else s.hs j) (s.n+1)<|List.replicate (63-s.n) 0
def kU (s:Ms):(Nat->Int)×(Nat->Int):=if s.n+1<=56 then(s.ws,rP s)else(Xo (rP s) s.ws,Nq (rP s) 0<|List.replicate 64 0)
def fU (m:Int) (k:Nat):Int:=IntKind.u64.wrap (m*8) / 2 ^ (8*k) % 256
def Yhh (b:Nat) (w:Bb) (X Y:Nat->Int) (n:Nat) (m:Int) (iv:Value) (wr:Bb):Prop:= ∃ (k:Nat) (Y':Nat->Int),k<=8/\iv= zo (k:Int)/\(∀ j,j<64->Y' j=if 64-k<=j then fU m (63-j)else Y j)/\Mx wr b X Y' n m/\Ad b w wr
def gY (V:Nat->Int) (j:Nat):Int:=V (j / 4) / 2 ^ (24-8*(j % 4)) % 256
def Z1z (j:Nat)(h:j<32):Bj[j]?=some (yS 0):=by
 have e:Bj=Array.replicate 32 (yS 0):=rfl;rw[e,Array.getElem?_replicate,xj h]
def Zt7 (s:Ms) (m:Int):Nat->Int:=Xo (fun j=>if 56<=j then fU m (63-j)else(kU s).2 j) (kU s).1
def Zsx (s:Ms) (m:Int):List UInt8:=(List.range 32).map fun j=>UInt8.ofNat (gY (Zt7 s m) j).toNat
def Ip (bs:List UInt8):Value:= .agg (Lib.byteCells bs).toArray
def Mx.congr (h:Mx w b ws hs n m)(k: ∀ j,j<64->hs j=hs' j):Mx w b ws hs' n m:=by
 obtain⟨vs,hb,Oa,h8,hh,r⟩:=h;exact⟨vs,hb,Oa,h8,fun j hj=>by rw[hh j hj,k j hj],r⟩
def Yb3 {V:Nat->Int}(h:Zt7 s m=V){vs:Ca}(hs:vs.size=32)(hv: ∀ j,j<32->vs[j]?=some (.int .u8<|gY V j)):vs=(Lib.byteCells<|Zsx s m).toArray:=by
 have hz:(Zsx s m).length=32:=by simp[Zsx]
 apply Array.ext_getElem?
 intro j;rw[Tu (xs:=Lib.byteCells<|Zsx s m)];by_cases hj:j<32
 .rw[hv j hj];have hn:0<=gY V j/\gY V j<256:=by unfold gY;omega
  simp only[Lib.byteCells,Zsx,h,FK,List.getElem?_range hj,Option.map_some,UInt8.toNat_ofNat'];congr 2
  omega
 .rw[Zj zx,List.getElem?_eq_none (by rw[xl];omega)]
def Yfa (b L:Nat) (W0:Bb) (V:Nat->Int) (q:Nat) (wr:Bb):Prop:= ∃ vs:Ca,AO wr L vs 115/\vs.size=32/\(∀ j,j<32->vs[j]?=some (yS (if j<q then gY V j else 0)))/\Ad b W0 wr/\W0.heap.size<=L
def Ycu {a:Nat->Addr}(Z:AZ a w)(hgb:24<=b)(h:Mx w b s.ws s.hs s.n m)(hn:s.n<64):Calls prog 147 #[zq b 0] w fun e w'=>e=uY (Ip<|Zsx s m)/\Ad b w w':=by
 have E9:=h.lt;obtain⟨W0,hW0⟩: ∃ W,w.alloc (.cells Bj 115)=W:=⟨_,rfl⟩;have H0:AF (Mx W0 b s.ws s.hs s.n m):=⟨h.of (by rw[<- hW0];exact Ah _ _ _ E9)⟩;have L0:AF (AO W0 w.heap.size Bj 115):=⟨hW0▸AO.new w _ _⟩;have K0:AF (Ad b w W0):=⟨hW0▸(Ad.refl b w).alloc _⟩;obtain⟨c72,Qd⟩:=H0.o.nums;have sf:=H0.o.soft;have ch:=H0.o.byte hn;have HW:=AC hW0;have ZW:=AC Z;clear hW0 h Z;go_in
 go_wp2_with fail
 change Code.wp _ _ _ _ (w.alloc<|.cells Bj 115);rw[HW.o];go_region
 all_goals
  go_wp2_with fail
  have M1:=H0.o.SV (hs':=fun j=>if j=s.n then 128 else s.hs j) hn fun j _=>rfl;have K1:=AC<|(Ad.refl b W0).set (8+s.n)<|yS 128;obtain⟨W1,hW1⟩: ∃ W,(W0.setCell (zm b (8+s.n))<|yS 128)=W:=⟨_,rfl⟩;rw[hW1]at M1 K1⊢;obtain⟨N,hN⟩:=fu (s.n+1);have hN64:(N:Int)<=64:=zx
  have hwr:IntKind.i64.wrap ((s.n:Int)+1)=(N:Int):=by rw[IntKind.wrap_i64];omega
  obtain⟨vs,nv,g1,g2,g3,M2⟩:=M1.cleared N (64-N) zx;clear c72 Qd sf ch;obtain⟨c72,Qd⟩:=M1.nums;have sf:=M1.soft;obtain⟨q,hq,ig,hq2⟩: ∃ q,(if 64=N then((zm b 8):Addr)else⟨b,8+N,none⟩)=(zm b q)/\(vs.toList.take q++Lib.byteCells (List.replicate (64-N) 0)++vs.toList.drop (q+(64-N))).toArray=nv/\q+(64-N)<=74:=by
   by_cases e:64=N
   .subst e;exact⟨8,xj rfl,by rw[<- g3];simp[Lib.byteCells],zx⟩
   .exact⟨8+N,xd e,g3,zx⟩
  have V1:=AC<|AJ g1<|AJ hq ig;clear hq ig;have M2':=AC M2;clear g1 g3 M2 hW1 M1;go_region_law (refine Z6n rfl (.tmp 24) 149 rfl 5 b q (64-N) (64-N) vs 276 underlying149 (fun w=>zt) (by simp[Act.eval,Act.put,V1.o.2.1]) V1.o.1 zx nv V1.o.2.2 ?_)
  try simp only[Act.put]
  obtain⟨W2,hW2⟩: ∃ W,W1.drew.drew.setRow b nv=W:=⟨_,rfl⟩;have M3:AF (Mx W2 b s.ws (Nq (fun j=>if j=s.n then 128 else s.hs j) N<|List.replicate (64-N) 0) s.n m):=⟨M2'.o.of (by rw[<- hW2];rfl)⟩;have K3:AF (Ad b W0 W2):=⟨by rw[<- hW2];exact(Ad.setRow (K1.o.drew.drew) nv)⟩;rw[hW2];clear c72 Qd sf hW2 M2' V1;obtain⟨c72,Qd⟩:=M3.o.nums;have sf:=M3.o.soft;clear K1 H0;try generalize (if 64=N then((zm b 8):Addr)else⟨b,8+N,none⟩)=AD
  have E2:AF (Nq (fun j=>if j=s.n then 128 else s.hs j) N (List.replicate (64-N) 0)=rP s):=⟨by unfold rP;rw[hN,show 63-s.n=64-N by omega]⟩;rw[E2.o]at M3;clear E2;rcases Qp 56 N with g56 | g56
  case' inr=>
   have g6:((N:Int)<=56):=zx
   go_wp2_with fail
   have M6:=AC M3.o;have K6:=AC K3.o;obtain⟨W6,hW6⟩: ∃ W,W2=W:=⟨_,rfl⟩;rw[hW6]at M6 K6 Qd sf⊢;obtain⟨X,Y,E4⟩: ∃ X Y,AF (kU s=(X,Y)/\Mx W6 b X Y s.n m):=⟨_,_,⟨by unfold kU;rw[xj zx],M6.o⟩⟩;clear M3 K3 c72 hW6 M6
  case' inl=>
   have g6: ¬ ((N:Int)<=56):=zx
   have CM:=AC<|Z0z (ZW.o.keeps (K0.o.trans K3.o) hgb) M3.o;go_wp2_with fail
   apply mq CM.o;rintro w4 ⟨hk4,Si⟩;obtain⟨us,nu,g1',g2',g3',M6⟩:=Si.cleared 0 64 zx;have K6:=AC<|Ad.setRow (K3.o.trans hk4) nu;have Ox:(Builtin.clear_ #[149] 0 #[sP (Qb b 8) 64 64]).run prog w4= .ok (.tuple #[]) (w4.setRow b nu):=by
    rw[<- g3'];exact Zxa w4 149 0 5 b 8 64 64 us 276 underlying149 (fun w=>zt) g1' zx
   obtain⟨W6,hW6⟩: ∃ W,w4.setRow b nu=W:=⟨_,rfl⟩;rw[hW6]at M6 K6 Ox;have HM6:=AC M6;clear c72 Qd sf CM hk4 g1' g2' g3' hW6 Si M6;have M6:=AC HM6.o;have Qd:=M6.o.nums.2;have sf:=M6.o.soft;clear HM6 M3 K3;go_wp2_with fail
   clear Ox;obtain⟨X,Y,E4⟩: ∃ X Y,AF (kU s=(X,Y)/\Mx W6 b X Y s.n m):=⟨_,_,⟨by unfold kU;rw[xd zx],M6.o⟩⟩;clear M6
  all_goals
   go_loopw [37] (fun iv wr=>Yhh b W0 X Y s.n m iv wr) (fun iv _=>8-(intOf iv).toNat)
   .exact⟨0,Y,zx,rfl,fun j hj=>by rw[xd zx],E4.o.2,K6.o⟩
   .obtain⟨k,Y',hk,rfl,hY',hM,hK⟩:=hrel;by_cases hlt:k<8
    .have g:(k:Int)<8:=zx
     clear Qd sf;have Qd:=hM.nums.2;have sf:=hM.soft;have ch:=hM.byte (show 63-k<64 by omega);have H:=AC<|AJ hM hK;clear hM hK;go_wp2
     go_region
     all_goals go_wp2_with fail
     all_goals
      refine⟨⟨k+1,fun j=>if j=63-k then fU m k else Y' j,zx,zw,fun j hj=>?_,(H.o.1.SV zx fun j _=>rfl).of rfl,(H.o.2.set _ _).drew⟩,zd⟩;show(if j=63-k then fU m k else Y' j)=_;by_cases hjk:j=63-k
      .subst hjk;rw[xj rfl,xj zx,show 63-(63-k)=k by omega]
      .rw[xd hjk,hY' j hj];by_cases Am:64-k<=j
       .rw[xj Am,xj zx]
       .rw[xd Am,xd zx]
    .obtain rfl:k=8:=zx
     have hYf:AF (Zt7 s m=Xo (fun j=>if 56<=j then fU m (63-j)else Y j) X):=⟨by unfold Zt7;rw[E4.o.1]⟩;have hM':=hM.congr hY';have HK:=AC hK;have CM:=AC<|Z0z (ZW.o.keeps (K0.o.trans hK) hgb) hM';clear hM hM' hK Qd sf hY';go_wp2_with fail
     apply mq CM.o;rintro w7 ⟨hk7,V9⟩;have K7:=AC<|HK.o.trans hk7;have M7:=AC V9;have G6:=V9.lt;have x0:=V9.word (k:=0) zu;have x1:=V9.word (k:=1) zu;have x2:=V9.word (k:=2) zu;have x3:=V9.word (k:=3) zu;have x4:=V9.word (k:=4) zu;have x5:=V9.word (k:=5) zu;have x6:=V9.word (k:=6) zu;have x7:=V9.word (k:=7) zu;have IX:=fun k hk u=>Yka (Xo (fun j=>if 64-8<=j then fU m (63-j)else Y j) X) k hk u;clear CM hk7 V9;obtain⟨V,hV⟩:=cK (Xo (fun j=>if 64-8<=j then fU m (63-j)else Y j) X);have HE:AF (Zt7 s m=V):=⟨hYf.o.trans hV.o⟩;rw[hV.o]at M7 x0 x1 x2 x3 x4 x5 x6 x7 IX;go_wp2_with fail
     change Code.wp _ _ _ _ (w7.alloc<|.cells Bj 115);have I0:AF (Yfa b w7.heap.size W0 V 0<|w7.alloc<|.cells Bj 115):=⟨⟨Bj,AO.new _ _ _,rfl,fun j hj=>by rw[xd zx];exact Z1z j hj,K7.o.alloc _,K7.o.size⟩⟩;generalize w7.heap.size=L at*;generalize w7.alloc (.cells Bj 115)=W8 at*;clear x0 x1 x2 x3 x4 x5 x6 x7;go_loopw [62] (fun iv wr=> ∃ i:Nat,i<=8/\iv= zo (i:Int)/\Yfa b L W0 V (4*i) wr) (fun iv _=>8-(intOf iv).toNat)
     .exact⟨0,zx,rfl,I0.o⟩
     .obtain⟨i,hi,rfl,hS⟩:=hrel;by_cases hlt:i<8
      .have g:(i:Int)<8:=zx
       have ix:=IX i hlt;have HS:=AC hS;clear hS IX;go_wp2
       go_loopw [66] (fun jv wr=> ∃ k:Nat,k<=4/\jv= zo (k:Int)/\Yfa b L W0 V (4*i+k) wr) (fun jv _=>4-(intOf jv).toNat)
       .exact⟨0,zx,rfl,HS.o⟩
       .obtain⟨k,hk,rfl,hS⟩:=hrel;by_cases hlk:k<4
        .have gk:(k:Int)<4:=zx
         obtain⟨vs,hB,hs,hall,oq,hLe⟩:=hS;have ck:=(hB.cell<|4*i+k).trans<|hall _ zx;rw[xd zx]at ck;have sf:=hB.soft;have H:=AC<|AJ hB<|AJ hall<|AJ oq hLe;clear hB hall oq hLe;go_wp2_with fail
         refine⟨⟨k+1,zx,zw,⟨_,H.o.1.set _ _,by simp[hs],fun j hj=>?_,H.o.2.2.1.Ai _ _ _ H.o.2.2.2,H.o.2.2.2⟩⟩,zd⟩;rw[Dy];by_cases hjk:4*i+k=j
         .subst hjk;rw[xj rfl,xj zx,xj zx];unfold gY;rw[show(4*i+k) / 4=i by omega,show(4*i+k) % 4=k by omega]
         .rw[xd hjk,H.o.2.1 j hj];by_cases Am:j<4*i+k
          .rw[xj Am,xj zx]
          .rw[xd Am,xd zx]
        .obtain rfl:k=4:=zx
         have HS:=AC hS;clear hS;go_wp2
         exact⟨⟨i+1,zx,zw,HS.o⟩,zd⟩
      .obtain rfl:i=8:=zx
       obtain⟨vs,hB,hs,hall,oq,hLe⟩:=hS;have HvE:=AC<|Yb3 HE.o hs (fun j hj=>by rw[hall j hj,xj zx]);have Bw:vs.all (·.oneCell')=true:=by
        rw[HvE.o,List.all_toArray,SI];exact Lib.byteCells_one _
       have YV:(prog.info? 115).map (·.size)=some vs.size:=by rw[hs];kernel_rfl
       have hsw:W0.heap.size=w.heap.size+1:=by rw[<- HW.o];simp
       have Yr:AO wr w.heap.size Bj 115:=L0.o.of<|oq.block _ zx zx;go_wp2_with (first
        | (refine QN rfl 115 (.tmp 4) rfl L rfl 115 vs (0,0) _ hB underlying115 rfl YV ?_)
        | (refine Ij rfl 115 (.tmp 2) (.tmp 82) rfl w.heap.size vs rfl rfl 115 Bj Yr YV (by first | exact hs | exact hs.symm) Bw ?_))
       refine Bg (results_cell_row (p:=2) (ty:=115) rfl _ _ w.heap.size 115 vs (0,0) _ rfl (GM wr _ Bj vs _ _ Yr) underlying115 rfl YV) rfl ?_;have hk:=K0.o.trans oq;exact⟨by rw[HvE.o];rfl,⟨hk.os,hk.tape,hk.output,by rw[Ef];exact hk.size,fun j hj hne=>(Db wr _ j vs zx).trans (hk.block j hj hne)⟩⟩
end Go.W
