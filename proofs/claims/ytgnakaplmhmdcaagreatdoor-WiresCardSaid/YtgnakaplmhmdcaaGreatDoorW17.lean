import Derived.Test.YtgnakaplmhmdcaaGreatDoorW16
set_option maxRecDepth 100000
set_option maxHeartbeats 8000000
set_option linter.unusedSimpArgs false
open Go.Proofs Go.RowKit Go.W
namespace Go.W
variable {P:Program}
def Zaj:Array Value:=#[.int .u8 0,.int .u8 0,.int .u8 0,.int .u8 0,.int .u8 0,.int .u8 0,.int .u8 0,.int .u8 0,.int .u8 0,.int .u8 0,.int .u8 0,.int .u8 0,.int .u8 0,.int .u8 0,.int .u8 0,.int .u8 0,.int .u8 0,.int .u8 0,.int .u8 0,.int .u8 0,.int .u8 0,.int .u8 0,.int .u8 0,.int .u8 0,.int .u8 0,.int .u8 0,.int .u8 0,.int .u8 0,.int .u8 0,.int .u8 0,.int .u8 0,.int .u8 0]
theorem Znw (n:Nat):Lib.byteCells (List.replicate n 0)=List.replicate n (.int .u8 0):=by simp[Lib.byteCells]
theorem Zs3 (w:World)(sT ty elem:TypeId)(g o n c:Nat)(cur:Array Value)(t:TypeId)(hu:P.underlying sT=some (.slice elem))(hz: ∀ w,(zeroValue elem).run P w= .ok (.int .u8 0) w)(hg:w.heap[g]?=some (.cells cur t (0,0)))(hfit:o+n<=cur.size):
  (Builtin.clear_ #[sT] ty #[.slice (some ⟨g,o,none⟩) n c]).run P w= .ok (.tuple #[]) (w.setRow g (cur.toList.take o++Lib.byteCells (List.replicate n 0)++cur.toList.drop (o+n)).toArray):=by
 have hzc:(Builtin.zeroCells (Value.int .u8 0).cells n).toList=Lib.byteCells (List.replicate n 0):=by
  rw[Znw];simp[Builtin.zeroCells,Value.cells];apply List.ext_getElem
  ·simp
  ·intro i h1 h2;simp[Nat.mod_one]
 have hst:=run_storeCells_at P g o t (Lib.byteCells (List.replicate n 0)) 0 cur w hg (by rw[Lib.byteCells_length];simpa using hfit) (Lib.byteCells_one _);rw[Lib.byteCells_length,List.length_replicate]at hst;simp only[Yeg]at hst;cases n with
 | zero=>
  simp only[List.replicate_zero,Lib.byteCells,List.map_nil,List.append_nil,Yeg,List.take_append_drop,Array.toArray_toList];rw[setRow_self w g cur t (0,0) hg];simp[Builtin.clear_,run_underlying hu]
 | succ m=>
  simp[Builtin.clear_,run_underlying hu,hz,hzc,hst]
theorem Z0s {ops:Array Oper}{o:Oper}{a:Act}{w:World}{K:Act->World->Prop}{Q:Exit->Act->World->Prop}{E:Prop}(hgd:o.guard=none)(d:Operand)(sT:TypeId)(hop:o.op=Op.call {callee:=Callee.builtin Builtin.clear,args:=#[d],argTypes:=#[sT]})
  (elem:TypeId) (g off n c:Nat) (cur:Array Value) (t:TypeId) (hu:P.underlying sT=some (.slice elem)) (hz: ∀ w,(zeroValue elem).run P w= .ok (.int .u8 0) w) (hd:a.eval d= .slice (some ⟨g,off,none⟩) n c) (hg:w.heap[g]?=some (.cells cur t (0,0))) (hfit:off+n<=cur.size) (nv:Array Value) (hnv:(cur.toList.take off++Lib.byteCells (List.replicate n 0)++cur.toList.drop (off+n)).toArray=nv)
  (hK:K (a.put o.dst (.tuple #[])) (w.setRow g nv)):if Region.wanted o (yielded ops a.tmps)=true then Oper.wp P o a w K Q else E:=by
 have hw:Region.wanted o (yielded ops a.tmps)=true:=by simp[Region.wanted,hgd]
 rw[if_pos hw];have hrun:=Zs3 (P:=P) w sT o.type elem g off n c cur t hu hz hg hfit;rw[hnv]at hrun;unfold Oper.wp;simp[execOp,hop,resolve,invoke,builtin,hd,hrun,Result.andThen];exact hK
end Go.W
namespace Go.P
variable {w:World}{b n k:Nat}{ws hs hs':Nat->Int}{m:Int}{s:Ms}
theorem Mx.setHeld (h:Mx w b ws hs n m)(hk:k < 64){x:Int}(hg: ∀ j,j < 64->hs' j=if j=k then x else hs j):Mx (w.setCell ⟨b,8+k,none⟩ (.int .u8 x)) b ws hs' n m:=by
 obtain⟨vs,hb,h74,h8,hh,h72,h73⟩:=h;refine⟨_,hb.set (8+k) _,by simp[h74],fun j hj=>?_,fun j hj=>?_,?_,?_⟩
 ·rw[Ycv,if_neg (by omega),h8 j hj]
 ·rw[Ycv,hg j hj];by_cases hjk:j=k
  ·subst hjk;rw[if_pos rfl,if_pos (by omega),if_pos rfl]
  ·rw[if_neg (by omega),if_neg hjk,hh j hj]
 ·rw[Ycv,if_neg (by omega),h72]
 ·rw[Ycv,if_neg (by omega),h73]
theorem Mx.byte (h:Mx w b ws hs n m)(hk:k < 64):w.cell? ⟨b,8+k,none⟩=some (.int .u8 (hs k)):=by
 obtain⟨vs,hb,_,_,hh,_⟩:=h;rw[hb.cell,hh k hk]
theorem Mx.cleared (h:Mx w b ws hs n m)(p k:Nat)(hk:p+k<=64): ∃ vs nv:Array Value,w.heap[b]?=some (.cells vs 240 (0,0))/\vs.size=74/\(vs.toList.take (8+p)++Lib.byteCells (List.replicate k 0)++vs.toList.drop (8+p+k)).toArray=nv/\Mx (w.setRow b nv) b ws (Zgo hs p (List.replicate k 0)) n m:=by
 obtain⟨vs,hb,h74,h8,hh,h72,h73⟩:=h;exact⟨vs,_,hb,h74,rfl,Mx.laid (setRow_heap _ _ vs _ _ _ hb) h74 h8 hh h72 h73 (by simp) hk rfl⟩
theorem Zaf.setRow {wr:World}(hK:Zaf b w wr)(nv:Array Value):Zaf b w (wr.setRow b nv):=⟨hK.os,hK.tape,hK.output,by rw[setRow_size];exact hK.size,fun j hj hne=>(setRow_other _ _ j nv hne).trans (hK.block j hj hne)⟩
def Ya4 (s:Ms):Nat->Int:=Zgo (fun j=>if j=s.n then 128 else s.hs j) (s.n+1) (List.replicate (63 - s.n) 0)
def Z9z (s:Ms):(Nat->Int)×(Nat->Int):=if s.n+1<=56 then(s.ws,Ya4 s)else(Zje (Ya4 s) s.ws,Zgo (Ya4 s) 0 (List.replicate 64 0))
def Zjn (m:Int) (k:Nat):Int:=IntKind.u64.wrap (m*8) / 2 ^ (8*k) % 256
def Yav (b:Nat) (w:World) (X Y:Nat->Int) (n:Nat) (m:Int) (iv:Value) (wr:World):Prop:= ∃ (k:Nat) (Y':Nat->Int),k<=8/\iv= .int .i64 (k:Int)/\(∀ j,j < 64->Y' j=if 64 - k<=j then Zjn m (63 - j)else Y j)/\Mx wr b X Y' n m/\Zaf b w wr
def Z9m (V:Nat->Int) (j:Nat):Int:=V (j / 4) / 2 ^ (24 - 8*(j % 4)) % 256
theorem Zwp (j:Nat)(h:j < 32):Zaj[j]?=some (.int .u8 0):=by
 have e:Zaj=Array.replicate 32 (.int .u8 0):=rfl;rw[e,Array.getElem?_replicate,if_pos h]
def Zrw (s:Ms) (m:Int):Nat->Int:=Zje (fun j=>if 56<=j then Zjn m (63 - j)else(Z9z s).2 j) (Z9z s).1
def Zwn (s:Ms) (m:Int):List UInt8:=(List.range 32).map fun j=>UInt8.ofNat (Z9m (Zrw s m) j).toNat
def Zlk (bs:List UInt8):Value:= .agg (Lib.byteCells bs).toArray
theorem Mx.congr (h:Mx w b ws hs n m)(k: ∀ j,j < 64->hs j=hs' j):Mx w b ws hs' n m:=by
 obtain⟨vs,hb,h74,h8,hh,r⟩:=h;exact⟨vs,hb,h74,h8,fun j hj=>by rw[hh j hj,k j hj],r⟩
theorem Z6u {V:Nat->Int}(h:Zrw s m=V){vs:Array Value}(hs:vs.size=32)(hv: ∀ j,j < 32->vs[j]?=some (.int .u8 (Z9m V j))):vs=(Lib.byteCells (Zwn s m)).toArray:=by
 have hz:(Zwn s m).length=32:=by simp[Zwn]
 apply Array.ext_getElem?
 intro j;rw[Ydq (xs:=Lib.byteCells (Zwn s m))];by_cases hj:j < 32
 ·rw[hv j hj];have hn:0<=Z9m V j/\Z9m V j < 256:=by unfold Z9m;omega
  simp only[Lib.byteCells,Zwn,h,Ydn,List.getElem?_range hj,Option.map_some,UInt8.toNat_ofNat'];congr 2
  omega
 ·rw[Yei (by omega),List.getElem?_eq_none (by rw[Lib.byteCells_length];omega)]
def Z8s (b L:Nat) (W0:World) (V:Nat->Int) (q:Nat) (wr:World):Prop:= ∃ vs:Array Value,Blk wr L vs 117/\vs.size=32/\(∀ j,j < 32->vs[j]?=some (.int .u8 (if j < q then Z9m V j else 0)))/\Zaf b W0 wr/\W0.heap.size<=L
theorem Z6g {a:Nat->Addr}(Z:Zap a w)(hgb:23<=b)(h:Mx w b s.ws s.hs s.n m)(hn:s.n < 64):Calls Tryz.prog 140 #[.pointer (some ⟨b,0,none⟩)] w fun e w'=>e= .returned (Zlk (Zwn s m))/\Zaf b w w':=by
 have hblt:=h.lt;obtain⟨W0,hW0⟩: ∃ W,w.alloc (.cells Zaj 117)=W:=⟨_,rfl⟩;have H0:Box (Mx W0 b s.ws s.hs s.n m):=⟨h.of (by rw[<- hW0];exact Ycx _ _ _ hblt)⟩;have L0:Box (Blk W0 w.heap.size Zaj 117):=⟨hW0▸Blk.new w _ _⟩;have K0:Box (Zaf b w W0):=⟨hW0▸(Zaf.refl b w).alloc _⟩;obtain⟨c72,c73⟩:=H0.out.nums;have sf:=H0.out.soft;have ch:=H0.out.byte hn;have HW:=Zaa hW0;have ZW:=Zaa Z;clear hW0 h Z;go_enter Tryz.func140,Tryz.ntmps140
 go_wp2_with fail
 change Code.wp _ _ _ _ (w.alloc (.cells Zaj 117));rw[HW.out];go_region
 all_goals
  go_wp2_with fail
  have M1:=H0.out.setHeld (hs':=fun j=>if j=s.n then 128 else s.hs j) hn (fun j _=>rfl);have K1:=Zaa ((Zaf.refl b W0).set (8+s.n) (.int .u8 128));obtain⟨W1,hW1⟩: ∃ W,(W0.setCell ⟨b,8+s.n,none⟩ (.int .u8 128))=W:=⟨_,rfl⟩;rw[hW1]at M1 K1⊢;obtain⟨N,hN⟩: ∃ N,s.n+1=N:=⟨_,rfl⟩;have hN64:(N:Int)<=64:=by omega
  have hwr:IntKind.i64.wrap ((s.n:Int)+1)=(N:Int):=by rw[IntKind.wrap_i64];omega
  obtain⟨vs,nv,g1,g2,g3,M2⟩:=M1.cleared N (64 - N) (by omega);clear c72 c73 sf ch;obtain⟨c72,c73⟩:=M1.nums;have sf:=M1.soft;obtain⟨q,hq,hq1,hq2⟩: ∃ q,(if 64=N then(⟨b,8,none⟩:Addr)else⟨b,8+N,none⟩)=⟨b,q,none⟩/\(vs.toList.take q++Lib.byteCells (List.replicate (64 - N) 0)++vs.toList.drop (q+(64 - N))).toArray=nv/\q+(64 - N)<=74:=by
   by_cases e:64=N
   ·subst e;exact⟨8,if_pos rfl,by rw[<- g3];simp[Lib.byteCells],by omega⟩
   ·exact⟨8+N,if_neg e,g3,by omega⟩
  have V1:=Zaa (Ycs g1 (Ycs hq hq1));clear hq hq1;have M2':=Zaa M2;clear g1 g3 M2 hW1 M1;go_region_law (refine Z0s rfl (.tmp 24) 76 rfl 5 b q (64 - N) (64 - N) vs 240 Tryz.underlying76 (fun w=>by kernel_rfl) (by simp[Act.eval,Act.put,V1.out.2.1]) V1.out.1 (by omega) nv V1.out.2.2 ?_)
  try simp only[Act.put]
  obtain⟨W2,hW2⟩: ∃ W,W1.drew.drew.setRow b nv=W:=⟨_,rfl⟩;have M3:Box (Mx W2 b s.ws (Zgo (fun j=>if j=s.n then 128 else s.hs j) N (List.replicate (64 - N) 0)) s.n m):=⟨M2'.out.of (by rw[<- hW2];rfl)⟩;have K3:Box (Zaf b W0 W2):=⟨by rw[<- hW2];exact(Zaf.setRow (K1.out.drew.drew) nv)⟩;rw[hW2];clear c72 c73 sf hW2 M2' V1;obtain⟨c72,c73⟩:=M3.out.nums;have sf:=M3.out.soft;clear K1 H0;try generalize (if 64=N then(⟨b,8,none⟩:Addr)else⟨b,8+N,none⟩)=AD
  have E2:Box (Zgo (fun j=>if j=s.n then 128 else s.hs j) N (List.replicate (64 - N) 0)=Ya4 s):=⟨by unfold Ya4;rw[hN,show 63 - s.n=64 - N by omega]⟩;rw[E2.out]at M3;clear E2;rcases Yel 56 N with g56 | g56
  case' inr=>
   have g6:((N:Int)<=56):=by omega
   go_wp2_with fail
   have M6:=Zaa M3.out;have K6:=Zaa K3.out;obtain⟨W6,hW6⟩: ∃ W,W2=W:=⟨_,rfl⟩;rw[hW6]at M6 K6 c73 sf⊢;obtain⟨X,Y,E4⟩: ∃ X Y,Box (Z9z s=(X,Y)/\Mx W6 b X Y s.n m):=⟨_,_,⟨by unfold Z9z;rw[if_pos (by omega)],M6.out⟩⟩;clear M3 K3 c72 hW6 M6
  case' inl=>
   have g6: ¬ ((N:Int)<=56):=by omega
   have CM:=Zaa (Zw4 (ZW.out.keeps (K0.out.trans K3.out) hgb) M3.out);go_wp2_with fail
   refine CM.out.mono ?_;rintro e w4 ⟨rfl,hk4,hm4⟩;obtain⟨us,nu,g1',g2',g3',M6⟩:=hm4.cleared 0 64 (by omega);have K6:=Zaa (Zaf.setRow (K3.out.trans hk4) nu);have hcl:(Builtin.clear_ #[76] 0 #[.slice (some ⟨b,8,none⟩) 64 64]).run Tryz.prog w4= .ok (.tuple #[]) (w4.setRow b nu):=by
    rw[<- g3'];exact Zs3 w4 76 0 5 b 8 64 64 us 240 Tryz.underlying76 (fun w=>by kernel_rfl) g1' (by omega)
   obtain⟨W6,hW6⟩: ∃ W,w4.setRow b nu=W:=⟨_,rfl⟩;rw[hW6]at M6 K6 hcl;have HM6:=Zaa M6;clear c72 c73 sf CM hk4 g1' g2' g3' hW6 hm4 M6;have M6:=Zaa HM6.out;have c73:=M6.out.nums.2;have sf:=M6.out.soft;clear HM6 M3 K3;go_wp2_with fail
   clear hcl;obtain⟨X,Y,E4⟩: ∃ X Y,Box (Z9z s=(X,Y)/\Mx W6 b X Y s.n m):=⟨_,_,⟨by unfold Z9z;rw[if_neg (by omega)],M6.out⟩⟩;clear M6
  all_goals
   go_loopw [37] (fun iv wr=>Yav b W0 X Y s.n m iv wr) (fun iv _=>8 - (intOf iv).toNat)
   case atStart=>exact⟨0,Y,by omega,rfl,fun j hj=>by rw[if_neg (by omega)],E4.out.2,K6.out⟩
   case round=>
    obtain⟨k,Y',hk,rfl,hY',hM,hK⟩:=hrel;by_cases hlt:k < 8
    ·have g:(k:Int) < 8:=by omega
     clear c73 sf;have c73:=hM.nums.2;have sf:=hM.soft;have ch:=hM.byte (show 63 - k < 64 by omega);have H:=Zaa (Ycs hM hK);clear hM hK;go_wp2_with fail
     go_region
     all_goals go_wp2_with fail
     all_goals
      refine⟨⟨k+1,fun j=>if j=63 - k then Zjn m k else Y' j,by omega,by simp,fun j hj=>?_,(H.out.1.setHeld (by omega) fun j _=>rfl).of rfl,(H.out.2.set _ _).drew⟩,by simp[intOf];omega⟩;show(if j=63 - k then Zjn m k else Y' j)=_;by_cases hjk:j=63 - k
      ·subst hjk;rw[if_pos rfl,if_pos (by omega),show 63 - (63 - k)=k by omega]
      ·rw[if_neg hjk,hY' j hj];by_cases hj2:64 - k<=j
       ·rw[if_pos hj2,if_pos (by omega)]
       ·rw[if_neg hj2,if_neg (by omega)]
    ·obtain rfl:k=8:=by omega
     have hYf:Box (Zrw s m=Zje (fun j=>if 56<=j then Zjn m (63 - j)else Y j) X):=⟨by unfold Zrw;rw[E4.out.1]⟩;have hM':=hM.congr hY';have HK:=Zaa hK;have CM:=Zaa (Zw4 (ZW.out.keeps (K0.out.trans hK) hgb) hM');clear hM hM' hK c73 sf hY';go_wp2_with fail
     refine CM.out.mono ?_;rintro e w7 ⟨rfl,hk7,hm7⟩;have K7:=Zaa (HK.out.trans hk7);have M7:=Zaa hm7;have hb7:=hm7.lt;have x0:=hm7.word (k:=0) (by decide);have x1:=hm7.word (k:=1) (by decide);have x2:=hm7.word (k:=2) (by decide);have x3:=hm7.word (k:=3) (by decide);have x4:=hm7.word (k:=4) (by decide);have x5:=hm7.word (k:=5) (by decide);have x6:=hm7.word (k:=6) (by decide);have x7:=hm7.word (k:=7) (by decide);have IX:=fun k hk u=>Yb9 (Zje (fun j=>if 64 - 8<=j then Zjn m (63 - j)else Y j) X) k hk u;clear CM hk7 hm7;obtain⟨V,hV⟩: ∃ V,Box (Zje (fun j=>if 64 - 8<=j then Zjn m (63 - j)else Y j) X=V):=⟨_,⟨rfl⟩⟩;have HE:Box (Zrw s m=V):=⟨hYf.out.trans hV.out⟩;rw[hV.out]at M7 x0 x1 x2 x3 x4 x5 x6 x7 IX;go_wp2_with fail
     change Code.wp _ _ _ _ (w7.alloc (.cells Zaj 117));have I0:Box (Z8s b w7.heap.size W0 V 0 (w7.alloc (.cells Zaj 117))):=⟨⟨Zaj,Blk.new _ _ _,rfl,fun j hj=>by rw[if_neg (by omega)];exact Zwp j hj,K7.out.alloc _,K7.out.size⟩⟩;generalize w7.heap.size=L at*;generalize w7.alloc (.cells Zaj 117)=W8 at*;clear x0 x1 x2 x3 x4 x5 x6 x7;go_loopw [62] (fun iv wr=> ∃ i:Nat,i<=8/\iv= .int .i64 (i:Int)/\Z8s b L W0 V (4*i) wr) (fun iv _=>8 - (intOf iv).toNat)
     case atStart=>exact⟨0,by omega,rfl,I0.out⟩
     case round=>
      obtain⟨i,hi,rfl,hS⟩:=hrel;by_cases hlt:i < 8
      ·have g:(i:Int) < 8:=by omega
       have ix:=IX i hlt;have HS:=Zaa hS;clear hS IX;go_wp2_with fail
       go_loopw [66] (fun jv wr=> ∃ k:Nat,k<=4/\jv= .int .i64 (k:Int)/\Z8s b L W0 V (4*i+k) wr) (fun jv _=>4 - (intOf jv).toNat)
       case atStart=>exact⟨0,by omega,rfl,HS.out⟩
       case round=>
        obtain⟨k,hk,rfl,hS⟩:=hrel;by_cases hlk:k < 4
        ·have gk:(k:Int) < 4:=by omega
         obtain⟨vs,hB,hs,hall,hKe,hLe⟩:=hS;have ck:=(hB.cell (4*i+k)).trans (hall _ (by omega));rw[if_neg (by omega)]at ck;have sf:=hB.soft;have H:=Zaa (Ycs hB (Ycs hall (Ycs hKe hLe)));clear hB hall hKe hLe;go_wp2_with fail
         refine⟨⟨k+1,by omega,by simp,⟨_,H.out.1.set _ _,by simp[hs],fun j hj=>?_,H.out.2.2.1.setNew _ _ _ H.out.2.2.2,H.out.2.2.2⟩⟩,by simp[intOf];omega⟩;rw[Ycv];by_cases hjk:4*i+k=j
         ·subst hjk;rw[if_pos rfl,if_pos (by omega),if_pos (by omega)];unfold Z9m;rw[show(4*i+k) / 4=i by omega,show(4*i+k) % 4=k by omega]
         ·rw[if_neg hjk,H.out.2.1 j hj];by_cases hj2:j < 4*i+k
          ·rw[if_pos hj2,if_pos (by omega)]
          ·rw[if_neg hj2,if_neg (by omega)]
        ·obtain rfl:k=4:=by omega
         have HS:=Zaa hS;clear hS;go_wp2_with fail
         exact⟨⟨i+1,by omega,by simp,HS.out⟩,by simp[intOf];omega⟩
      ·obtain rfl:i=8:=by omega
       obtain⟨vs,hB,hs,hall,hKe,hLe⟩:=hS;have HvE:=Zaa (Z6u HE.out hs (fun j hj=>by rw[hall j hj,if_pos (by omega)]));have hone:vs.all (·.oneCell')=true:=by
        rw[HvE.out,List.all_toArray,Yej];exact Lib.byteCells_one _
       have hpi:(Tryz.prog.info? 117).map (·.size)=some vs.size:=by rw[hs];kernel_rfl
       have hsw:W0.heap.size=w.heap.size+1:=by rw[<- HW.out];simp
       have hL0:Blk wr w.heap.size Zaj 117:=L0.out.of (hKe.block _ (by omega) (by omega));go_wp2_with (first
        | (refine wpList_load_row rfl 117 (.tmp 4) rfl L rfl 117 vs (0,0) _ hB Tryz.underlying117 rfl hpi ?_)
        | (refine wpList_store_row rfl 117 (.tmp 2) (.tmp 82) rfl w.heap.size vs rfl rfl 117 Zaj hL0 hpi (by first | exact hs | exact hs.symm) hone ?_))
       refine bodyPost_ret (results_cell_row (p:=2) (ty:=117) rfl _ _ w.heap.size 117 vs (0,0) _ rfl (setRow_heap wr _ Zaj vs _ _ hL0) Tryz.underlying117 rfl hpi) rfl ?_;have hk:=K0.out.trans hKe;exact⟨by rw[HvE.out];rfl,⟨hk.os,hk.tape,hk.output,by rw[setRow_size];exact hk.size,fun j hj hne=>(setRow_other wr _ j vs (by omega)).trans (hk.block j hj hne)⟩⟩
end Go.P
