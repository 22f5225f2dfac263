import Derived.Test.YtaoiihbjdonaoaaGreatDoorW10
set_option linter.defProp false
set_option maxRecDepth 100000
set_option maxHeartbeats 8000000
set_option linter.unusedSimpArgs false
open Go.Proofs Go.RowKit Go.W Tryz
namespace Go.W
variable {P:Program}
def Bj:Array Value:=#[.int .u8 0,.int .u8 0,.int .u8 0,.int .u8 0,.int .u8 0,.int .u8 0,.int .u8 0,.int .u8 0,.int .u8 0,.int .u8 0,.int .u8 0,.int .u8 0,.int .u8 0,.int .u8 0,.int .u8 0,.int .u8 0,.int .u8 0,.int .u8 0,.int .u8 0,.int .u8 0,.int .u8 0,.int .u8 0,.int .u8 0,.int .u8 0,.int .u8 0,.int .u8 0,.int .u8 0,.int .u8 0,.int .u8 0,.int .u8 0,.int .u8 0,.int .u8 0]
def Zp5 (n:Nat):Lib.byteCells (List.replicate n 0)=List.replicate n (.int .u8 0):=by simp[Lib.byteCells]
def Zxa (w:World)(sT ty elem:TypeId)(g o n c:Nat)(cur:Array Value)(t:TypeId)(hu:P.underlying sT=some (.slice elem))(hz: ∀ w,(zeroValue elem).run P w= .ok (.int .u8 0) w)(hg:w.heap[g]?=some (.cells cur t (0,0)))(Fj:o+n<=cur.size):
  (Builtin.clear_ #[sT] ty #[.slice (Qb g o) n c]).run P w= .ok (.tuple #[]) (w.setRow g (cur.toList.take o++Lib.byteCells (List.replicate n 0)++cur.toList.drop (o+n)).toArray):=by
 have sw:(Builtin.zeroCells (Value.int .u8 0).cells n).toList=Lib.byteCells (List.replicate n 0):=by
  rw[Zp5];simp[Builtin.zeroCells,Value.cells];apply List.ext_getElem
  ·simp
  ·intro i h1 h2;simp[Nat.mod_one]
 have hst:=run_storeCells_at P g o t (Lib.byteCells<|List.replicate n 0) 0 cur w hg (by rw[Lib.byteCells_length];simpa using Fj)<|Lib.byteCells_one _;rw[Lib.byteCells_length,List.length_replicate]at hst;simp only[Qs]at hst;cases n with
 | zero=>
  simp only[List.replicate_zero,Lib.byteCells,List.map_nil,List.append_nil,Qs,List.take_append_drop,Array.toArray_toList];rw[setRow_self w g cur t (0,0) hg];simp[Builtin.clear_,J5 hu]
 | succ m=>
  simp[Builtin.clear_,J5 hu,hz,sw,hst]
def Z6n {ops:Array Oper}{o:Oper}{a:Act}{w:World}{K:Act->World->Prop}{Q:Exit->Act->World->Prop}{E:Prop}(hgd:o.guard=none)(d:Operand)(sT:TypeId)(hop:o.op=Op.call {callee:=Callee.builtin Builtin.clear,args:=#[d],argTypes:=#[sT]})
  (elem:TypeId) (g off n c:Nat) (cur:Array Value) (t:TypeId) (hu:P.underlying sT=some (.slice elem)) (hz: ∀ w,(zeroValue elem).run P w= .ok (.int .u8 0) w) (hd:a.eval d= .slice (Qb g off) n c) (hg:w.heap[g]?=some (.cells cur t (0,0))) (Fj:off+n<=cur.size) (nv:Array Value) (RH:(cur.toList.take off++Lib.byteCells (List.replicate n 0)++cur.toList.drop (off+n)).toArray=nv)
  (hK:K (a.put o.dst<|.tuple #[]) (w.setRow g nv)):if Region.wanted o (yielded ops a.tmps)=true then Oper.wp P o a w K Q else E:=by
 have hw:Region.wanted o (yielded ops a.tmps)=true:=by simp[Region.wanted,hgd]
 rw[if_pos hw];have hrun:=Zxa (P:=P) w sT o.type elem g off n c cur t hu hz hg Fj;rw[RH]at hrun;unfold Oper.wp;simp[execOp,hop,resolve,invoke,builtin,hd,hrun,Result.andThen];exact hK
end Go.W
namespace Go.P
variable {w:World}{b n k:Nat}{ws hs hs':Nat->Int}{m:Int}{s:Ms}
def Mx.SV (h:Mx w b ws hs n m)(hk:k<64){x:Int}(hg: ∀ j,j<64->hs' j=if j=k then x else hs j):Mx (w.setCell (zm b (8+k))<|.int .u8 x) b ws hs' n m:=by
 obtain⟨vs,hb,Oa,h8,hh,Qc,Qa⟩:=h;refine⟨_,hb.set (8+k) _,by simp[Oa],fun j hj=>?_,fun j hj=>?_,?_,?_⟩
 ·rw[Dy,if_neg zx,h8 j hj]
 ·rw[Dy,hg j hj];by_cases hjk:j=k
  ·subst hjk;rw[if_pos rfl,if_pos zx,if_pos rfl]
  ·rw[if_neg zx,if_neg hjk,hh j hj]
 ·rw[Dy,if_neg zx,Qc]
 ·rw[Dy,if_neg zx,Qa]
def Mx.byte (h:Mx w b ws hs n m)(hk:k<64):w.cell? (zm b (8+k))=some (.int .u8<|hs k):=by
 obtain⟨vs,hb,_,_,hh,_⟩:=h;rw[hb.cell,hh k hk]
def Mx.cleared (h:Mx w b ws hs n m)(p k:Nat)(hk:p+k<=64): ∃ vs nv:Array Value,w.heap[b]?=some (.cells vs 231 (0,0))/\vs.size=74/\(vs.toList.take (8+p)++Lib.byteCells (List.replicate k 0)++vs.toList.drop (8+p+k)).toArray=nv/\Mx (w.setRow b nv) b ws (Nq hs p<|List.replicate k 0) n m:=by
 obtain⟨vs,hb,Oa,h8,hh,Qc,Qa⟩:=h;exact⟨vs,_,hb,Oa,rfl,Mx.laid (GM _ _ vs _ _ _ hb) Oa h8 hh Qc Qa zw hk rfl⟩
def Ad.setRow {wr:World}(hK:Ad b w wr)(nv:Array Value):Ad b w (wr.setRow b nv):=⟨hK.os,hK.tape,hK.output,by rw[Ef];exact hK.size,fun j hj hne=>(Db _ _ j nv hne).trans (hK.block j hj hne)⟩
def rP (s:Ms):Nat->Int:=Nq (fun j=>if j=s.n then 128 else s.hs j) (s.n+1)<|List.replicate (63-s.n) 0
def kU (s:Ms):(Nat->Int)×(Nat->Int):=if s.n+1<=56 then(s.ws,rP s)else(Xo (rP s) s.ws,Nq (rP s) 0<|List.replicate 64 0)
def fU (m:Int) (k:Nat):Int:=IntKind.u64.wrap (m*8) / 2 ^ (8*k) % 256
def Yhh (b:Nat) (w:World) (X Y:Nat->Int) (n:Nat) (m:Int) (iv:Value) (wr:World):Prop:= ∃ (k:Nat) (Y':Nat->Int),k<=8/\iv= zo (k:Int)/\(∀ j,j<64->Y' j=if 64-k<=j then fU m (63-j)else Y j)/\Mx wr b X Y' n m/\Ad b w wr
def gY (V:Nat->Int) (j:Nat):Int:=V (j / 4) / 2 ^ (24-8*(j % 4)) % 256
def Z1z (j:Nat)(h:j<32):Bj[j]?=some (.int .u8 0):=by
 have e:Bj=Array.replicate 32 (.int .u8 0):=rfl;rw[e,Array.getElem?_replicate,if_pos h]
def Oo (s:Ms) (m:Int):Nat->Int:=Xo (fun j=>if 56<=j then fU m (63-j)else(kU s).2 j) (kU s).1
def SH (s:Ms) (m:Int):List UInt8:=(List.range 32).map fun j=>UInt8.ofNat (gY (Oo s m) j).toNat
def Ip (bs:List UInt8):Value:= .agg (Lib.byteCells bs).toArray
def Mx.congr (h:Mx w b ws hs n m)(k: ∀ j,j<64->hs j=hs' j):Mx w b ws hs' n m:=by
 obtain⟨vs,hb,Oa,h8,hh,r⟩:=h;exact⟨vs,hb,Oa,h8,fun j hj=>by rw[hh j hj,k j hj],r⟩
def Yb3 {V:Nat->Int}(h:Oo s m=V){vs:Array Value}(hs:vs.size=32)(hv: ∀ j,j<32->vs[j]?=some (.int .u8<|gY V j)):vs=(Lib.byteCells<|SH s m).toArray:=by
 have hz:(SH s m).length=32:=by simp[SH]
 apply Array.ext_getElem?
 intro j;rw[Tu (xs:=Lib.byteCells<|SH s m)];by_cases hj:j<32
 ·rw[hv j hj];have hn:0<=gY V j/\gY V j<256:=by unfold gY;omega
  simp only[Lib.byteCells,SH,h,FK,List.getElem?_range hj,Option.map_some,UInt8.toNat_ofNat'];congr 2
  omega
 ·rw[Zj zx,List.getElem?_eq_none (by rw[Lib.byteCells_length];omega)]
def Yfa (b L:Nat) (W0:World) (V:Nat->Int) (q:Nat) (wr:World):Prop:= ∃ vs:Array Value,AO wr L vs 80/\vs.size=32/\(∀ j,j<32->vs[j]?=some (.int .u8 (if j<q then gY V j else 0)))/\Ad b W0 wr/\W0.heap.size<=L
def Ycu {a:Nat->Addr}(Z:AZ a w)(hgb:23<=b)(h:Mx w b s.ws s.hs s.n m)(hn:s.n<64):Calls prog 126 #[zq b 0] w fun e w'=>e= .returned (Ip<|SH s m)/\Ad b w w':=by
 have E9:=h.lt;obtain⟨W0,hW0⟩: ∃ W,w.alloc (.cells Bj 80)=W:=⟨_,rfl⟩;have H0:AF (Mx W0 b s.ws s.hs s.n m):=⟨h.of (by rw[<- hW0];exact Ah _ _ _ E9)⟩;have L0:AF (AO W0 w.heap.size Bj 80):=⟨hW0▸AO.new w _ _⟩;have K0:AF (Ad b w W0):=⟨hW0▸(Ad.refl b w).alloc _⟩;obtain⟨c72,Qd⟩:=H0.out.nums;have sf:=H0.out.soft;have ch:=H0.out.byte hn;have HW:=AC hW0;have ZW:=AC Z;clear hW0 h Z;go_in
 go_wp2_with fail
 change Code.wp _ _ _ _ (w.alloc<|.cells Bj 80);rw[HW.out];go_region
 all_goals
  go_wp2_with fail
  have M1:=H0.out.SV (hs':=fun j=>if j=s.n then 128 else s.hs j) hn fun j _=>rfl;have K1:=AC<|(Ad.refl b W0).set (8+s.n)<|.int .u8 128;obtain⟨W1,hW1⟩: ∃ W,(W0.setCell (zm b (8+s.n))<|.int .u8 128)=W:=⟨_,rfl⟩;rw[hW1]at M1 K1⊢;obtain⟨N,hN⟩: ∃ N,s.n+1=N:=⟨_,rfl⟩;have hN64:(N:Int)<=64:=zx
  have hwr:IntKind.i64.wrap ((s.n:Int)+1)=(N:Int):=by rw[IntKind.wrap_i64];omega
  obtain⟨vs,nv,g1,g2,g3,M2⟩:=M1.cleared N (64-N) zx;clear c72 Qd sf ch;obtain⟨c72,Qd⟩:=M1.nums;have sf:=M1.soft;obtain⟨q,hq,ig,hq2⟩: ∃ q,(if 64=N then((zm b 8):Addr)else⟨b,8+N,none⟩)=(zm b q)/\(vs.toList.take q++Lib.byteCells (List.replicate (64-N) 0)++vs.toList.drop (q+(64-N))).toArray=nv/\q+(64-N)<=74:=by
   by_cases e:64=N
   ·subst e;exact⟨8,if_pos rfl,by rw[<- g3];simp[Lib.byteCells],zx⟩
   ·exact⟨8+N,if_neg e,g3,zx⟩
  have V1:=AC<|AJ g1<|AJ hq ig;clear hq ig;have M2':=AC M2;clear g1 g3 M2 hW1 M1;go_region_law (refine Z6n rfl (.tmp 24) 115 rfl 5 b q (64-N) (64-N) vs 231 underlying115 (fun w=>zt) (by simp[Act.eval,Act.put,V1.out.2.1]) V1.out.1 zx nv V1.out.2.2 ?_)
  try simp only[Act.put]
  obtain⟨W2,hW2⟩: ∃ W,W1.drew.drew.setRow b nv=W:=⟨_,rfl⟩;have M3:AF (Mx W2 b s.ws (Nq (fun j=>if j=s.n then 128 else s.hs j) N<|List.replicate (64-N) 0) s.n m):=⟨M2'.out.of (by rw[<- hW2];rfl)⟩;have K3:AF (Ad b W0 W2):=⟨by rw[<- hW2];exact(Ad.setRow (K1.out.drew.drew) nv)⟩;rw[hW2];clear c72 Qd sf hW2 M2' V1;obtain⟨c72,Qd⟩:=M3.out.nums;have sf:=M3.out.soft;clear K1 H0;try generalize (if 64=N then((zm b 8):Addr)else⟨b,8+N,none⟩)=AD
  have E2:AF (Nq (fun j=>if j=s.n then 128 else s.hs j) N (List.replicate (64-N) 0)=rP s):=⟨by unfold rP;rw[hN,show 63-s.n=64-N by omega]⟩;rw[E2.out]at M3;clear E2;rcases Qp 56 N with g56 | g56
  case' inr=>
   have g6:((N:Int)<=56):=zx
   go_wp2_with fail
   have M6:=AC M3.out;have K6:=AC K3.out;obtain⟨W6,hW6⟩: ∃ W,W2=W:=⟨_,rfl⟩;rw[hW6]at M6 K6 Qd sf⊢;obtain⟨X,Y,E4⟩: ∃ X Y,AF (kU s=(X,Y)/\Mx W6 b X Y s.n m):=⟨_,_,⟨by unfold kU;rw[if_pos zx],M6.out⟩⟩;clear M3 K3 c72 hW6 M6
  case' inl=>
   have g6: ¬ ((N:Int)<=56):=zx
   have CM:=AC<|Z0z (ZW.out.keeps (K0.out.trans K3.out) hgb) M3.out;go_wp2_with fail
   refine CM.out.mono ?_;rintro e w4 ⟨rfl,hk4,Si⟩;obtain⟨us,nu,g1',g2',g3',M6⟩:=Si.cleared 0 64 zx;have K6:=AC<|Ad.setRow (K3.out.trans hk4) nu;have Ox:(Builtin.clear_ #[115] 0 #[.slice (Qb b 8) 64 64]).run prog w4= .ok (.tuple #[]) (w4.setRow b nu):=by
    rw[<- g3'];exact Zxa w4 115 0 5 b 8 64 64 us 231 underlying115 (fun w=>zt) g1' zx
   obtain⟨W6,hW6⟩: ∃ W,w4.setRow b nu=W:=⟨_,rfl⟩;rw[hW6]at M6 K6 Ox;have HM6:=AC M6;clear c72 Qd sf CM hk4 g1' g2' g3' hW6 Si M6;have M6:=AC HM6.out;have Qd:=M6.out.nums.2;have sf:=M6.out.soft;clear HM6 M3 K3;go_wp2_with fail
   clear Ox;obtain⟨X,Y,E4⟩: ∃ X Y,AF (kU s=(X,Y)/\Mx W6 b X Y s.n m):=⟨_,_,⟨by unfold kU;rw[if_neg zx],M6.out⟩⟩;clear M6
  all_goals
   go_loopw [37] (fun iv wr=>Yhh b W0 X Y s.n m iv wr) (fun iv _=>8-(intOf iv).toNat)
   case atStart=>exact⟨0,Y,zx,rfl,fun j hj=>by rw[if_neg zx],E4.out.2,K6.out⟩
   case round=>
    obtain⟨k,Y',hk,rfl,hY',hM,hK⟩:=hrel;by_cases hlt:k<8
    ·have g:(k:Int)<8:=zx
     clear Qd sf;have Qd:=hM.nums.2;have sf:=hM.soft;have ch:=hM.byte (show 63-k<64 by omega);have H:=AC<|AJ hM hK;clear hM hK;go_wp2
     go_region
     all_goals go_wp2_with fail
     all_goals
      refine⟨⟨k+1,fun j=>if j=63-k then fU m k else Y' j,zx,zw,fun j hj=>?_,(H.out.1.SV zx fun j _=>rfl).of rfl,(H.out.2.set _ _).drew⟩,by simp[intOf];omega⟩;show(if j=63-k then fU m k else Y' j)=_;by_cases hjk:j=63-k
      ·subst hjk;rw[if_pos rfl,if_pos zx,show 63-(63-k)=k by omega]
      ·rw[if_neg hjk,hY' j hj];by_cases Am:64-k<=j
       ·rw[if_pos Am,if_pos zx]
       ·rw[if_neg Am,if_neg zx]
    ·obtain rfl:k=8:=zx
     have hYf:AF (Oo s m=Xo (fun j=>if 56<=j then fU m (63-j)else Y j) X):=⟨by unfold Oo;rw[E4.out.1]⟩;have hM':=hM.congr hY';have HK:=AC hK;have CM:=AC<|Z0z (ZW.out.keeps (K0.out.trans hK) hgb) hM';clear hM hM' hK Qd sf hY';go_wp2_with fail
     refine CM.out.mono ?_;rintro e w7 ⟨rfl,hk7,V9⟩;have K7:=AC<|HK.out.trans hk7;have M7:=AC V9;have G6:=V9.lt;have x0:=V9.word (k:=0) zu;have x1:=V9.word (k:=1) zu;have x2:=V9.word (k:=2) zu;have x3:=V9.word (k:=3) zu;have x4:=V9.word (k:=4) zu;have x5:=V9.word (k:=5) zu;have x6:=V9.word (k:=6) zu;have x7:=V9.word (k:=7) zu;have IX:=fun k hk u=>Yka (Xo (fun j=>if 64-8<=j then fU m (63-j)else Y j) X) k hk u;clear CM hk7 V9;obtain⟨V,hV⟩: ∃ V,AF (Xo (fun j=>if 64-8<=j then fU m (63-j)else Y j) X=V):=⟨_,⟨rfl⟩⟩;have HE:AF (Oo s m=V):=⟨hYf.out.trans hV.out⟩;rw[hV.out]at M7 x0 x1 x2 x3 x4 x5 x6 x7 IX;go_wp2_with fail
     change Code.wp _ _ _ _ (w7.alloc<|.cells Bj 80);have I0:AF (Yfa b w7.heap.size W0 V 0<|w7.alloc<|.cells Bj 80):=⟨⟨Bj,AO.new _ _ _,rfl,fun j hj=>by rw[if_neg zx];exact Z1z j hj,K7.out.alloc _,K7.out.size⟩⟩;generalize w7.heap.size=L at*;generalize w7.alloc (.cells Bj 80)=W8 at*;clear x0 x1 x2 x3 x4 x5 x6 x7;go_loopw [62] (fun iv wr=> ∃ i:Nat,i<=8/\iv= zo (i:Int)/\Yfa b L W0 V (4*i) wr) (fun iv _=>8-(intOf iv).toNat)
     case atStart=>exact⟨0,zx,rfl,I0.out⟩
     case round=>
      obtain⟨i,hi,rfl,hS⟩:=hrel;by_cases hlt:i<8
      ·have g:(i:Int)<8:=zx
       have ix:=IX i hlt;have HS:=AC hS;clear hS IX;go_wp2
       go_loopw [66] (fun jv wr=> ∃ k:Nat,k<=4/\jv= zo (k:Int)/\Yfa b L W0 V (4*i+k) wr) (fun jv _=>4-(intOf jv).toNat)
       case atStart=>exact⟨0,zx,rfl,HS.out⟩
       case round=>
        obtain⟨k,hk,rfl,hS⟩:=hrel;by_cases hlk:k<4
        ·have gk:(k:Int)<4:=zx
         obtain⟨vs,hB,hs,hall,oq,hLe⟩:=hS;have ck:=(hB.cell<|4*i+k).trans<|hall _ zx;rw[if_neg zx]at ck;have sf:=hB.soft;have H:=AC<|AJ hB<|AJ hall<|AJ oq hLe;clear hB hall oq hLe;go_wp2_with fail
         refine⟨⟨k+1,zx,zw,⟨_,H.out.1.set _ _,by simp[hs],fun j hj=>?_,H.out.2.2.1.Ai _ _ _ H.out.2.2.2,H.out.2.2.2⟩⟩,by simp[intOf];omega⟩;rw[Dy];by_cases hjk:4*i+k=j
         ·subst hjk;rw[if_pos rfl,if_pos zx,if_pos zx];unfold gY;rw[show(4*i+k) / 4=i by omega,show(4*i+k) % 4=k by omega]
         ·rw[if_neg hjk,H.out.2.1 j hj];by_cases Am:j<4*i+k
          ·rw[if_pos Am,if_pos zx]
          ·rw[if_neg Am,if_neg zx]
        ·obtain rfl:k=4:=zx
         have HS:=AC hS;clear hS;go_wp2
         exact⟨⟨i+1,zx,zw,HS.out⟩,by simp[intOf];omega⟩
      ·obtain rfl:i=8:=zx
       obtain⟨vs,hB,hs,hall,oq,hLe⟩:=hS;have HvE:=AC<|Yb3 HE.out hs (fun j hj=>by rw[hall j hj,if_pos zx]);have Bw:vs.all (·.oneCell')=true:=by
        rw[HvE.out,List.all_toArray,SI];exact Lib.byteCells_one _
       have YV:(prog.info? 80).map (·.size)=some vs.size:=by rw[hs];kernel_rfl
       have hsw:W0.heap.size=w.heap.size+1:=by rw[<- HW.out];simp
       have Yr:AO wr w.heap.size Bj 80:=L0.out.of<|oq.block _ zx zx;go_wp2_with (first
        | (refine QN rfl 80 (.tmp 4) rfl L rfl 80 vs (0,0) _ hB underlying80 rfl YV ?_)
        | (refine Ij rfl 80 (.tmp 2) (.tmp 82) rfl w.heap.size vs rfl rfl 80 Bj Yr YV (by first | exact hs | exact hs.symm) Bw ?_))
       refine Bg (results_cell_row (p:=2) (ty:=80) rfl _ _ w.heap.size 80 vs (0,0) _ rfl (GM wr _ Bj vs _ _ Yr) underlying80 rfl YV) rfl ?_;have hk:=K0.out.trans oq;exact⟨by rw[HvE.out];rfl,⟨hk.os,hk.tape,hk.output,by rw[Ef];exact hk.size,fun j hj hne=>(Db wr _ j vs zx).trans (hk.block j hj hne)⟩⟩
end Go.P
