import Derived.Test.YtghnjdpgbldlkaaGreatDoorW13
set_option linter.defProp false
set_option maxRecDepth 100000
set_option maxHeartbeats 8000000
set_option linter.unusedSimpArgs false
open Go.Proofs Go.RowKit Go.W Tryz
namespace Go.W
def Jf (ks:List UInt8) (m:Nat):List UInt8:=ks.map fun c=>UInt8.ofNat (c.toNat ^^^ m)
def Z30 {c:UInt8}{m:Nat}(hm:m<256):bits .xor .u8 (c.toNat:Int) (m:Int)=((UInt8.ofNat<|c.toNat ^^^ m).toNat:Int):=by
 have hc:c.toNat<256:=c.toNat_lt;rw[u8_xor_nat _ _ hc hm,UInt8.toNat_ofNat',Nat.mod_eq_of_lt<|Nat.xor_lt_two_pow (n:=8) hc hm]
end Go.W
namespace Go.P
def nY {w:World}{L:Nat}{e:TypeId}{vs:Array Value}{xs:List UInt8}(h:AJ w L vs e)(hs: ∀ j,j<xs.length->vs[j]?=some (.int .u8 ((xs.getD j 0).toNat:Int)))(n:Nat)(hn:n=xs.length){cap:Nat}:
  (convert 74 9<|.slice (Qb L 0) n cap).run prog w= .ok (.string ⟨xs.toArray⟩) w:=by
 subst hn;refine oM (P:=prog) w 74 9 5 ⟨L,0,none⟩ cap xs underlying74 underlying5 underlying9 fun j hj=>?_;have e1:(⟨L,0,none⟩:Addr).add j=⟨L,j,none⟩:=by unfold Addr.add;split <;> simp_all
 rw[e1,h.cell,hs j hj];simp[List.getD,DK hj]
def Ybc (w:World) (ks:List UInt8) (m:Nat) (iv:Value) (wr:World):Prop:= ∃ (k:Nat) (vs:Array Value),k<=64/\iv= .int .i64 (k:Int)/\Bl w wr/\AJ wr w.heap.size vs 166/\vs.size=64/\ ∀ j,j<64->vs[j]?=some (.int .u8 ((if j<k then(Jf ks m).getD j 0 else ks.getD j 0).toNat:Int))
def Zsb (v:Array Value)(ks:List UInt8)(m:Nat)(w:World)(kT:ks.length=64)(hm:m<256)(Ej:v.size=64)(hv: ∀ k,k<64->v[k]?=some (.int .u8 ((ks.getD k 0).toNat:Int))):Calls prog 77 #[.agg v,.int .u8 (m:Int)] w fun e w'=>e= .returned (.string ⟨(Jf ks m).toArray⟩)/\Bl w w':=by
 go_in
 go_wp2_with fail
 have Sv:(Jf ks m).length=64:=by unfold Jf;rw[Nw,kT]
 go_loopw [6] (fun iv wr=>Ybc w ks m iv wr) (fun iv _=>64-(intOf iv).toNat)
 case atStart=>exact⟨0,v,zx,rfl,(AQ _ w).alloc lr _,AJ.new w v _,Ej,fun j hj=>by rw[hv j hj,if_neg zx]⟩
 case round=>
  obtain⟨k,vs,hk,rfl,hb,hB,hs,hall⟩:=hrel;by_cases hlt:k<64
  ·have g:(k:Int)<64:=zx
   have ck:=(hB.cell k).trans<|hall k hlt;rw[if_neg zx]at ck;have sf:=hB.soft;have hx:bits .xor .u8 ((ks.getD k 0).toNat:Int) (m:Int)=(((Jf ks m).getD k 0).toNat:Int):=by
    rw[Z30 hm];unfold Jf;simp[List.getD,Jq,DK (show k<ks.length by omega)]
   have HX:=AA hx;have H:=AA<|AF hb<|AF hB hall;clear hb hB hall hx;generalize (ks.getD k 0).toNat=c at*;go_wp2_with fail
   all_goals
    rw[HX.out];refine⟨⟨k+1,_,zx,zw,(H.out.1.setCell (p:=⟨w.heap.size,k,none⟩) lr _),(H.out.2.1.set k _),by simp[hs],fun j hj=>?_⟩,by simp[intOf];omega⟩;rw[Bc];by_cases hjk:j=k
    ·subst hjk;rw[if_pos rfl,if_pos zx,if_pos zx]
    ·rw[if_neg fun z=>hjk z.symm,H.out.2.2 j hj];by_cases Ao:j<k
     ·rw[if_pos Ao,if_pos zx]
     ·rw[if_neg Ao,if_neg zx]
  ·obtain rfl:k=64:=zx
   have hcv:(convert 74 9<|.slice (Qb w.heap.size 0) 64 64).run prog wr= .ok (.string ⟨(Jf ks m).toArray⟩) wr:=by
    refine nY hB (fun j hj=>?_) 64 Sv.symm;rw[hall j zx,if_pos zx]
   have H:=AA hb;clear hb hB hall;go_wp2
   go_ret
   exact⟨zw,H.out⟩
end Go.P
namespace Go.W
variable {P:Program}
def Bi:Array Value:=#[.int .u8 0,.int .u8 0,.int .u8 0,.int .u8 0,.int .u8 0,.int .u8 0,.int .u8 0,.int .u8 0,.int .u8 0,.int .u8 0,.int .u8 0,.int .u8 0,.int .u8 0,.int .u8 0,.int .u8 0,.int .u8 0,.int .u8 0,.int .u8 0,.int .u8 0,.int .u8 0,.int .u8 0,.int .u8 0,.int .u8 0,.int .u8 0,.int .u8 0,.int .u8 0,.int .u8 0,.int .u8 0,.int .u8 0,.int .u8 0,.int .u8 0,.int .u8 0]
def Zo1 (n:Nat):Lib.byteCells (List.replicate n 0)=List.replicate n (.int .u8 0):=by simp[Lib.byteCells]
def Zvi (w:World)(sT ty elem:TypeId)(g o n c:Nat)(cur:Array Value)(t:TypeId)(hu:P.underlying sT=some (.slice elem))(hz: ∀ w,(zeroValue elem).run P w= .ok (.int .u8 0) w)(hg:w.heap[g]?=some (.cells cur t (0,0)))(BG:o+n<=cur.size):
  (Builtin.clear_ #[sT] ty #[.slice (Qb g o) n c]).run P w= .ok (.tuple #[]) (w.setRow g (cur.toList.take o++Lib.byteCells (List.replicate n 0)++cur.toList.drop (o+n)).toArray):=by
 have hzc:(Builtin.zeroCells (Value.int .u8 0).cells n).toList=Lib.byteCells (List.replicate n 0):=by
  rw[Zo1];simp[Builtin.zeroCells,Value.cells];apply List.ext_getElem
  ·simp
  ·intro i h1 h2;simp[Nat.mod_one]
 have hst:=run_storeCells_at P g o t (Lib.byteCells<|List.replicate n 0) 0 cur w hg (by rw[Lib.byteCells_length];simpa using BG)<|Lib.byteCells_one _;rw[Lib.byteCells_length,List.length_replicate]at hst;simp only[Oj]at hst;cases n with
 | zero=>
  simp only[List.replicate_zero,Lib.byteCells,List.map_nil,List.append_nil,Oj,List.take_append_drop,Array.toArray_toList];rw[setRow_self w g cur t (0,0) hg];simp[Builtin.clear_,Jo hu]
 | succ m=>
  simp[Builtin.clear_,Jo hu,hz,hzc,hst]
def Z3s {ops:Array Oper}{o:Oper}{a:Act}{w:World}{K:Act->World->Prop}{Q:Exit->Act->World->Prop}{E:Prop}(hgd:o.guard=none)(d:Operand)(sT:TypeId)(hop:o.op=Op.call {callee:=Callee.builtin Builtin.clear,args:=#[d],argTypes:=#[sT]})
  (elem:TypeId) (g off n c:Nat) (cur:Array Value) (t:TypeId) (hu:P.underlying sT=some (.slice elem)) (hz: ∀ w,(zeroValue elem).run P w= .ok (.int .u8 0) w) (hd:a.eval d= .slice (Qb g off) n c) (hg:w.heap[g]?=some (.cells cur t (0,0))) (BG:off+n<=cur.size) (nv:Array Value) (Ou:(cur.toList.take off++Lib.byteCells (List.replicate n 0)++cur.toList.drop (off+n)).toArray=nv)
  (hK:K (a.put o.dst<|.tuple #[]) (w.setRow g nv)):if Region.wanted o (yielded ops a.tmps)=true then Oper.wp P o a w K Q else E:=by
 have hw:Region.wanted o (yielded ops a.tmps)=true:=by simp[Region.wanted,hgd]
 rw[if_pos hw];have hrun:=Zvi (P:=P) w sT o.type elem g off n c cur t hu hz hg BG;rw[Ou]at hrun;unfold Oper.wp;simp[execOp,hop,resolve,invoke,builtin,hd,hrun,Result.andThen];exact hK
end Go.W
namespace Go.P
variable {w:World}{b n k:Nat}{ws hs hs':Nat->Int}{m:Int}{s:Ms}
def Mx.PX (h:Mx w b ws hs n m)(hk:k<64){x:Int}(hg: ∀ j,j<64->hs' j=if j=k then x else hs j):Mx (w.setCell ⟨b,8+k,none⟩<|.int .u8 x) b ws hs' n m:=by
 obtain⟨vs,hb,Kw,h8,hh,OI,OH⟩:=h;refine⟨_,hb.set (8+k) _,by simp[Kw],fun j hj=>?_,fun j hj=>?_,?_,?_⟩
 ·rw[Bc,if_neg zx,h8 j hj]
 ·rw[Bc,hg j hj];by_cases hjk:j=k
  ·subst hjk;rw[if_pos rfl,if_pos zx,if_pos rfl]
  ·rw[if_neg zx,if_neg hjk,hh j hj]
 ·rw[Bc,if_neg zx,OI]
 ·rw[Bc,if_neg zx,OH]
def Mx.byte (h:Mx w b ws hs n m)(hk:k<64):w.cell? ⟨b,8+k,none⟩=some (.int .u8<|hs k):=by
 obtain⟨vs,hb,_,_,hh,_⟩:=h;rw[hb.cell,hh k hk]
def Mx.cleared (h:Mx w b ws hs n m)(p k:Nat)(hk:p+k<=64): ∃ vs nv:Array Value,w.heap[b]?=some (.cells vs 230 (0,0))/\vs.size=74/\(vs.toList.take (8+p)++Lib.byteCells (List.replicate k 0)++vs.toList.drop (8+p+k)).toArray=nv/\Mx (w.setRow b nv) b ws (KJ hs p<|List.replicate k 0) n m:=by
 obtain⟨vs,hb,Kw,h8,hh,OI,OH⟩:=h;exact⟨vs,_,hb,Kw,rfl,Mx.laid (Gj _ _ vs _ _ _ hb) Kw h8 hh OI OH zw hk rfl⟩
def Ac.setRow {wr:World}(hK:Ac b w wr)(nv:Array Value):Ac b w (wr.setRow b nv):=⟨hK.os,hK.tape,hK.output,by rw[ET];exact hK.size,fun j hj hne=>(Db _ _ j nv hne).trans (hK.block j hj hne)⟩
def jc (s:Ms):Nat->Int:=KJ (fun j=>if j=s.n then 128 else s.hs j) (s.n+1)<|List.replicate (63-s.n) 0
def bz (s:Ms):(Nat->Int)×(Nat->Int):=if s.n+1<=56 then(s.ws,jc s)else(Un (jc s) s.ws,KJ (jc s) 0<|List.replicate 64 0)
def ZT (m:Int) (k:Nat):Int:=IntKind.u64.wrap (m*8) / 2 ^ (8*k) % 256
def Ydl (b:Nat) (w:World) (X Y:Nat->Int) (n:Nat) (m:Int) (iv:Value) (wr:World):Prop:= ∃ (k:Nat) (Y':Nat->Int),k<=8/\iv= .int .i64 (k:Int)/\(∀ j,j<64->Y' j=if 64-k<=j then ZT m (63-j)else Y j)/\Mx wr b X Y' n m/\Ac b w wr
def Zp (V:Nat->Int) (j:Nat):Int:=V (j / 4) / 2 ^ (24-8*(j % 4)) % 256
def Zzz (j:Nat)(h:j<32):Bi[j]?=some (.int .u8 0):=by
 have e:Bi=Array.replicate 32 (.int .u8 0):=rfl;rw[e,Array.getElem?_replicate,if_pos h]
def JA (s:Ms) (m:Int):Nat->Int:=Un (fun j=>if 56<=j then ZT m (63-j)else(bz s).2 j) (bz s).1
def PG (s:Ms) (m:Int):List UInt8:=(List.range 32).map fun j=>UInt8.ofNat (Zp (JA s m) j).toNat
def Ha (bs:List UInt8):Value:= .agg (Lib.byteCells bs).toArray
def Mx.congr (h:Mx w b ws hs n m)(k: ∀ j,j<64->hs j=hs' j):Mx w b ws hs' n m:=by
 obtain⟨vs,hb,Kw,h8,hh,r⟩:=h;exact⟨vs,hb,Kw,h8,fun j hj=>by rw[hh j hj,k j hj],r⟩
def Z8u {V:Nat->Int}(h:JA s m=V){vs:Array Value}(hs:vs.size=32)(hv: ∀ j,j<32->vs[j]?=some (.int .u8<|Zp V j)):vs=(Lib.byteCells<|PG s m).toArray:=by
 have hz:(PG s m).length=32:=by simp[PG]
 apply Array.ext_getElem?
 intro j;rw[Qz (xs:=Lib.byteCells<|PG s m)];by_cases hj:j<32
 ·rw[hv j hj];have hn:0<=Zp V j/\Zp V j<256:=by unfold Zp;omega
  simp only[Lib.byteCells,PG,h,Jq,List.getElem?_range hj,Option.map_some,UInt8.toNat_ofNat'];congr 2
  omega
 ·rw[Zm zx,List.getElem?_eq_none (by rw[Lib.byteCells_length];omega)]
def xI (b L:Nat) (W0:World) (V:Nat->Int) (q:Nat) (wr:World):Prop:= ∃ vs:Array Value,AJ wr L vs 111/\vs.size=32/\(∀ j,j<32->vs[j]?=some (.int .u8 (if j<q then Zp V j else 0)))/\Ac b W0 wr/\W0.heap.size<=L
def Z89 {a:Nat->Addr}(Z:Aa a w)(hgb:23<=b)(h:Mx w b s.ws s.hs s.n m)(hn:s.n<64):Calls prog 131 #[.pointer<|Qb b 0] w fun e w'=>e= .returned (Ha<|PG s m)/\Ac b w w':=by
 have Ep:=h.lt;obtain⟨W0,hW0⟩: ∃ W,w.alloc (.cells Bi 111)=W:=⟨_,rfl⟩;have H0:AC (Mx W0 b s.ws s.hs s.n m):=⟨h.of (by rw[<- hW0];exact Ah _ _ _ Ep)⟩;have L0:AC (AJ W0 w.heap.size Bi 111):=⟨hW0▸AJ.new w _ _⟩;have K0:AC (Ac b w W0):=⟨hW0▸(Ac.refl b w).alloc _⟩;obtain⟨c72,OL⟩:=H0.out.nums;have sf:=H0.out.soft;have ch:=H0.out.byte hn;have HW:=AA hW0;have ZW:=AA Z;clear hW0 h Z;go_in
 go_wp2_with fail
 change Code.wp _ _ _ _ (w.alloc<|.cells Bi 111);rw[HW.out];go_region
 all_goals
  go_wp2_with fail
  have M1:=H0.out.PX (hs':=fun j=>if j=s.n then 128 else s.hs j) hn fun j _=>rfl;have K1:=AA<|(Ac.refl b W0).set (8+s.n)<|.int .u8 128;obtain⟨W1,hW1⟩: ∃ W,(W0.setCell ⟨b,8+s.n,none⟩<|.int .u8 128)=W:=⟨_,rfl⟩;rw[hW1]at M1 K1⊢;obtain⟨N,hN⟩: ∃ N,s.n+1=N:=⟨_,rfl⟩;have hN64:(N:Int)<=64:=zx
  have hwr:IntKind.i64.wrap ((s.n:Int)+1)=(N:Int):=by rw[IntKind.wrap_i64];omega
  obtain⟨vs,nv,g1,g2,g3,M2⟩:=M1.cleared N (64-N) zx;clear c72 OL sf ch;obtain⟨c72,OL⟩:=M1.nums;have sf:=M1.soft;obtain⟨q,hq,YR,hq2⟩: ∃ q,(if 64=N then(⟨b,8,none⟩:Addr)else⟨b,8+N,none⟩)=⟨b,q,none⟩/\(vs.toList.take q++Lib.byteCells (List.replicate (64-N) 0)++vs.toList.drop (q+(64-N))).toArray=nv/\q+(64-N)<=74:=by
   by_cases e:64=N
   ·subst e;exact⟨8,if_pos rfl,by rw[<- g3];simp[Lib.byteCells],zx⟩
   ·exact⟨8+N,if_neg e,g3,zx⟩
  have V1:=AA<|AF g1<|AF hq YR;clear hq YR;have M2':=AA M2;clear g1 g3 M2 hW1 M1;go_region_law (refine Z3s rfl (.tmp 24) 74 rfl 5 b q (64-N) (64-N) vs 230 underlying74 (fun w=>zt) (by simp[Act.eval,Act.put,V1.out.2.1]) V1.out.1 zx nv V1.out.2.2 ?_)
  try simp only[Act.put]
  obtain⟨W2,hW2⟩: ∃ W,W1.drew.drew.setRow b nv=W:=⟨_,rfl⟩;have M3:AC (Mx W2 b s.ws (KJ (fun j=>if j=s.n then 128 else s.hs j) N<|List.replicate (64-N) 0) s.n m):=⟨M2'.out.of (by rw[<- hW2];rfl)⟩;have K3:AC (Ac b W0 W2):=⟨by rw[<- hW2];exact(Ac.setRow (K1.out.drew.drew) nv)⟩;rw[hW2];clear c72 OL sf hW2 M2' V1;obtain⟨c72,OL⟩:=M3.out.nums;have sf:=M3.out.soft;clear K1 H0;try generalize (if 64=N then(⟨b,8,none⟩:Addr)else⟨b,8+N,none⟩)=AD
  have E2:AC (KJ (fun j=>if j=s.n then 128 else s.hs j) N (List.replicate (64-N) 0)=jc s):=⟨by unfold jc;rw[hN,show 63-s.n=64-N by omega]⟩;rw[E2.out]at M3;clear E2;rcases QL 56 N with g56 | g56
  case' inr=>
   have g6:((N:Int)<=56):=zx
   go_wp2_with fail
   have M6:=AA M3.out;have K6:=AA K3.out;obtain⟨W6,hW6⟩: ∃ W,W2=W:=⟨_,rfl⟩;rw[hW6]at M6 K6 OL sf⊢;obtain⟨X,Y,E4⟩: ∃ X Y,AC (bz s=(X,Y)/\Mx W6 b X Y s.n m):=⟨_,_,⟨by unfold bz;rw[if_pos zx],M6.out⟩⟩;clear M3 K3 c72 hW6 M6
  case' inl=>
   have g6: ¬ ((N:Int)<=56):=zx
   have CM:=AA<|tu (ZW.out.keeps (K0.out.trans K3.out) hgb) M3.out;go_wp2_with fail
   refine CM.out.mono ?_;rintro e w4 ⟨rfl,hk4,zb⟩;obtain⟨us,nu,sO,g2',g3',M6⟩:=zb.cleared 0 64 zx;have K6:=AA<|Ac.setRow (K3.out.trans hk4) nu;have RQ:(Builtin.clear_ #[74] 0 #[.slice (Qb b 8) 64 64]).run prog w4= .ok (.tuple #[]) (w4.setRow b nu):=by
    rw[<- g3'];exact Zvi w4 74 0 5 b 8 64 64 us 230 underlying74 (fun w=>zt) sO zx
   obtain⟨W6,hW6⟩: ∃ W,w4.setRow b nu=W:=⟨_,rfl⟩;rw[hW6]at M6 K6 RQ;have HM6:=AA M6;clear c72 OL sf CM hk4 sO g2' g3' hW6 zb M6;have M6:=AA HM6.out;have OL:=M6.out.nums.2;have sf:=M6.out.soft;clear HM6 M3 K3;go_wp2_with fail
   clear RQ;obtain⟨X,Y,E4⟩: ∃ X Y,AC (bz s=(X,Y)/\Mx W6 b X Y s.n m):=⟨_,_,⟨by unfold bz;rw[if_neg zx],M6.out⟩⟩;clear M6
  all_goals
   go_loopw [37] (fun iv wr=>Ydl b W0 X Y s.n m iv wr) (fun iv _=>8-(intOf iv).toNat)
   case atStart=>exact⟨0,Y,zx,rfl,fun j hj=>by rw[if_neg zx],E4.out.2,K6.out⟩
   case round=>
    obtain⟨k,Y',hk,rfl,rG,hM,hK⟩:=hrel;by_cases hlt:k<8
    ·have g:(k:Int)<8:=zx
     clear OL sf;have OL:=hM.nums.2;have sf:=hM.soft;have ch:=hM.byte (show 63-k<64 by omega);have H:=AA<|AF hM hK;clear hM hK;go_wp2
     go_region
     all_goals go_wp2_with fail
     all_goals
      refine⟨⟨k+1,fun j=>if j=63-k then ZT m k else Y' j,zx,zw,fun j hj=>?_,(H.out.1.PX zx fun j _=>rfl).of rfl,(H.out.2.set _ _).drew⟩,by simp[intOf];omega⟩;show(if j=63-k then ZT m k else Y' j)=_;by_cases hjk:j=63-k
      ·subst hjk;rw[if_pos rfl,if_pos zx,show 63-(63-k)=k by omega]
      ·rw[if_neg hjk,rG j hj];by_cases Ao:64-k<=j
       ·rw[if_pos Ao,if_pos zx]
       ·rw[if_neg Ao,if_neg zx]
    ·obtain rfl:k=8:=zx
     have hYf:AC (JA s m=Un (fun j=>if 56<=j then ZT m (63-j)else Y j) X):=⟨by unfold JA;rw[E4.out.1]⟩;have hM':=hM.congr rG;have HK:=AA hK;have CM:=AA<|tu (ZW.out.keeps (K0.out.trans hK) hgb) hM';clear hM hM' hK OL sf rG;go_wp2_with fail
     refine CM.out.mono ?_;rintro e w7 ⟨rfl,aQ,Sz⟩;have K7:=AA<|HK.out.trans aQ;have M7:=AA Sz;have Eu:=Sz.lt;have x0:=Sz.word (k:=0) zu;have x1:=Sz.word (k:=1) zu;have x2:=Sz.word (k:=2) zu;have x3:=Sz.word (k:=3) zu;have x4:=Sz.word (k:=4) zu;have x5:=Sz.word (k:=5) zu;have x6:=Sz.word (k:=6) zu;have x7:=Sz.word (k:=7) zu;have IX:=fun k hk u=>Yfz (Un (fun j=>if 64-8<=j then ZT m (63-j)else Y j) X) k hk u;clear CM aQ Sz;obtain⟨V,hV⟩: ∃ V,AC (Un (fun j=>if 64-8<=j then ZT m (63-j)else Y j) X=V):=⟨_,⟨rfl⟩⟩;have HE:AC (JA s m=V):=⟨hYf.out.trans hV.out⟩;rw[hV.out]at M7 x0 x1 x2 x3 x4 x5 x6 x7 IX;go_wp2_with fail
     change Code.wp _ _ _ _ (w7.alloc<|.cells Bi 111);have I0:AC (xI b w7.heap.size W0 V 0<|w7.alloc<|.cells Bi 111):=⟨⟨Bi,AJ.new _ _ _,rfl,fun j hj=>by rw[if_neg zx];exact Zzz j hj,K7.out.alloc _,K7.out.size⟩⟩;generalize w7.heap.size=L at*;generalize w7.alloc (.cells Bi 111)=W8 at*;clear x0 x1 x2 x3 x4 x5 x6 x7;go_loopw [62] (fun iv wr=> ∃ i:Nat,i<=8/\iv= .int .i64 (i:Int)/\xI b L W0 V (4*i) wr) (fun iv _=>8-(intOf iv).toNat)
     case atStart=>exact⟨0,zx,rfl,I0.out⟩
     case round=>
      obtain⟨i,hi,rfl,hS⟩:=hrel;by_cases hlt:i<8
      ·have g:(i:Int)<8:=zx
       have ix:=IX i hlt;have HS:=AA hS;clear hS IX;go_wp2
       go_loopw [66] (fun jv wr=> ∃ k:Nat,k<=4/\jv= .int .i64 (k:Int)/\xI b L W0 V (4*i+k) wr) (fun jv _=>4-(intOf jv).toNat)
       case atStart=>exact⟨0,zx,rfl,HS.out⟩
       case round=>
        obtain⟨k,hk,rfl,hS⟩:=hrel;by_cases hlk:k<4
        ·have gk:(k:Int)<4:=zx
         obtain⟨vs,hB,hs,hall,gU,rT⟩:=hS;have ck:=(hB.cell<|4*i+k).trans<|hall _ zx;rw[if_neg zx]at ck;have sf:=hB.soft;have H:=AA<|AF hB<|AF hall<|AF gU rT;clear hB hall gU rT;go_wp2_with fail
         refine⟨⟨k+1,zx,zw,⟨_,H.out.1.set _ _,by simp[hs],fun j hj=>?_,H.out.2.2.1.Ai _ _ _ H.out.2.2.2,H.out.2.2.2⟩⟩,by simp[intOf];omega⟩;rw[Bc];by_cases hjk:4*i+k=j
         ·subst hjk;rw[if_pos rfl,if_pos zx,if_pos zx];unfold Zp;rw[show(4*i+k) / 4=i by omega,show(4*i+k) % 4=k by omega]
         ·rw[if_neg hjk,H.out.2.1 j hj];by_cases Ao:j<4*i+k
          ·rw[if_pos Ao,if_pos zx]
          ·rw[if_neg Ao,if_neg zx]
        ·obtain rfl:k=4:=zx
         have HS:=AA hS;clear hS;go_wp2
         exact⟨⟨i+1,zx,zw,HS.out⟩,by simp[intOf];omega⟩
      ·obtain rfl:i=8:=zx
       obtain⟨vs,hB,hs,hall,gU,rT⟩:=hS;have HvE:=AA<|Z8u HE.out hs (fun j hj=>by rw[hall j hj,if_pos zx]);have C9:vs.all (·.oneCell')=true:=by
        rw[HvE.out,List.all_toArray,UI];exact Lib.byteCells_one _
       have VT:(prog.info? 111).map (·.size)=some vs.size:=by rw[hs];kernel_rfl
       have hsw:W0.heap.size=w.heap.size+1:=by rw[<- HW.out];simp
       have Vg:AJ wr w.heap.size Bi 111:=L0.out.of<|gU.block _ zx zx;go_wp2_with (first
        | (refine QK rfl 111 (.tmp 4) rfl L rfl 111 vs (0,0) _ hB underlying111 rfl VT ?_)
        | (refine Jp rfl 111 (.tmp 2) (.tmp 82) rfl w.heap.size vs rfl rfl 111 Bi Vg VT (by first | exact hs | exact hs.symm) C9 ?_))
       refine CQ (results_cell_row (p:=2) (ty:=111) rfl _ _ w.heap.size 111 vs (0,0) _ rfl (Gj wr _ Bi vs _ _ Vg) underlying111 rfl VT) rfl ?_;have hk:=K0.out.trans gU;exact⟨by rw[HvE.out];rfl,⟨hk.os,hk.tape,hk.output,by rw[ET];exact hk.size,fun j hj hne=>(Db wr _ j vs zx).trans (hk.block j hj hne)⟩⟩
end Go.P
