import Derived.Test.YtmebjfclpalmaaaGreatDoorW02
import Derived.Test.YtmebjfclpalmaaaGreatDoorW04
import Derived.Test.YtmebjfclpalmaaaGreatDoorW10
import Derived.Deep.RegionLaw
import Derived.Lib.Strings
import Derived.Shelf.Unicode.ValidAny
import Derived.Shelf.Strconv.Clone
import Derived.Shelf.Unicode.DecodeAny
import Derived.Shelf.Strings.Prefix
import Derived.Shelf.Utf8.AppendRunePlain
import Derived.Shelf.Small.Utf8
set_option maxRecDepth 100000
set_option maxHeartbeats 8000000
set_option linter.unusedSimpArgs false
open Go.Proofs Go.RowKit Go.W Tryz
namespace Go.W
theorem Z1d {α:Type}(l mid:List α)(o k j:Nat)(hm:mid.length=k)(hf:o+k<=l.length):(l.take o++mid++l.drop (o+k))[j]?=if o<=j/\j < o+k then mid[j - o]? else l[j]?:=by
 have h1:(l.take o).length=o:=by rw[List.length_take];omega
 have h2:(l.take o++mid).length=o+k:=by rw[Yeg,h1,hm]
 by_cases hj:j < o+k
 ·rw[Yd4 (by omega)];by_cases hj2:j < o
  ·rw[Yd4 (by omega),if_neg (by omega),List.getElem?_take,if_pos hj2]
  ·rw[Yd1 (by omega),h1,if_pos (by omega)]
 ·rw[Yd1 (by omega),h2,if_neg (by omega),List.getElem?_drop,show o+k+(j - (o+k))=j by omega]
theorem Zsu {P:Program}{ops:Array Oper}{o:Oper}{a:Act}{w:World}{K:Act->World->Prop}{Q:Exit->Act->World->Prop}{E:Prop}(hgd:o.guard=none)(d x:Operand)(dT sT:TypeId)(hop:o.op=Op.call {callee:=Callee.builtin Builtin.copy,args:=#[d,x],argTypes:=#[dT,sT]})
  (elem:TypeId) (g off dLen dCap n:Nat) (s:ByteArray) (cur:Array Value) (t:TypeId) (hu:P.underlying dT=some (.slice elem)) (hs:(P.info? elem).map (·.size)=some 1) (hd:a.eval d= .slice (some ⟨g,off,none⟩) dLen dCap) (hx:a.eval x= .string s) (hg:w.heap[g]?=some (.cells cur t (0,0))) (hn:Nat.min s.size dLen=n) (hfit:off+n<=cur.size) (nv:Array Value) (hnv:(cur.toList.take off++Lib.byteCells (s.data.toList.take n)++cur.toList.drop (off+n)).toArray=nv)
  (hK:K (a.put o.dst (goInt n)) (w.setRow g nv)):if Region.wanted o (yielded ops a.tmps)=true then Oper.wp P o a w K Q else E:=by
 have hw:Region.wanted o (yielded ops a.tmps)=true:=by simp[Region.wanted,hgd]
 rw[if_pos hw];have hrun:=Zx4 (P:=P) w dT sT o.type elem g off dLen dCap n s cur t hu hs hg hn hfit;rw[hnv]at hrun;unfold Oper.wp;simp[execOp,hop,resolve,invoke,builtin,hd,hx,hrun,Result.andThen];exact hK
end Go.W
namespace Go.P
variable {w:World}{b n:Nat}{ws hs:Nat->Int}{m:Int}
theorem Mx.nums (h:Mx w b ws hs n m):w.cell? ⟨b,72,none⟩=some (.int .i64 (n:Int))/\w.cell? ⟨b,73,none⟩=some (.int .u64 m):=by
 obtain⟨vs,hb,_,_,_,h72,h73⟩:=h;exact⟨(hb.cell 72).trans h72,(hb.cell 73).trans h73⟩
theorem Mx.setLen (h:Mx w b ws hs n m)(x:Int):Mx (w.setCell ⟨b,73,none⟩ (.int .u64 x)) b ws hs n x:=by
 obtain⟨vs,hb,h74,h8,hh,h72,h73⟩:=h;refine⟨_,hb.set 73 _,by simp[h74],fun j hj=>?_,fun j hj=>?_,?_,?_⟩
 ·rw[Ydd,if_neg (by omega),h8 j hj]
 ·rw[Ydd,if_neg (by omega),hh j hj]
 ·rw[Ydd,if_neg (by omega),h72]
 ·rw[Ydd,if_pos rfl,if_pos (by omega)]
theorem Mx.setCount (h:Mx w b ws hs n m)(x:Nat):Mx (w.setCell ⟨b,72,none⟩ (.int .i64 (x:Int))) b ws hs x m:=by
 obtain⟨vs,hb,h74,h8,hh,h72,h73⟩:=h;refine⟨_,hb.set 72 _,by simp[h74],fun j hj=>?_,fun j hj=>?_,?_,?_⟩
 ·rw[Ydd,if_neg (by omega),h8 j hj]
 ·rw[Ydd,if_neg (by omega),hh j hj]
 ·rw[Ydd,if_pos rfl,if_pos (by omega)]
 ·rw[Ydd,if_neg (by omega),h73]
theorem Mx.laid {u:World}{p k:Nat}{vs nv:Array Value}{l:List UInt8}(hu:Blk u b nv 174)(h74:vs.size=74)(h8: ∀ k,k < 8->vs[k]?=some (.int .u32 (ws k)))(hh: ∀ k,k < 64->vs[8+k]?=some (.int .u8 (hs k)))(h72:vs[72]?=some (.int .i64 (n:Int)))(h73:vs[73]?=some (.int .u64 m))(hl:l.length=k)(hk:p+k<=64)(hnv:(vs.toList.take (8+p)++Lib.byteCells l++vs.toList.drop (8+p+k)).toArray=nv):Mx u b ws (Zg6 hs p l) n m:=by
 have g: ∀ j,nv[j]?=if 8+p<=j/\j < 8+p+k then(Lib.byteCells l)[j - (8+p)]? else vs[j]?:=fun j=>by
  rw[<- hnv,Yd8,Z1d _ _ _ _ _ (by rw[Lib.byteCells_length,hl]) (by rw[Yep];omega)];simp only[Yee]
 refine⟨nv,hu,?_,fun j hj=>?_,fun j hj=>?_,?_,?_⟩
 ·rw[<- hnv];simp[Lib.byteCells_length,hl,h74];omega
 ·rw[g,if_neg (by omega),h8 j hj]
 ·rw[g];unfold Zg6;by_cases hc:p<=j/\j < p+l.length
  ·rw[if_pos hc,if_pos (by omega),show 8+j - (8+p)=j - p by omega];have hlt:j - p < l.length:=by omega
   simp[Lib.byteCells,List.getD,Ydi hlt]
  ·rw[if_neg hc,if_neg (by omega),hh j hj]
 ·rw[g,if_neg (by omega),h72]
 ·rw[g,if_neg (by omega),h73]
def Yb0:Value->Nat | .string s=>s.size | _=>0
def Z8f (a:Nat->Addr) (b:Nat) (w:World) (s:Ms) (t:ByteArray) (m:Int) (tv:Value) (wr:World):Prop:= ∃ (s1:Ms) (r:ByteArray),tv= .string r/\r.size<=t.size/\Zgx s1 r.data.toList=Zgx s t.data.toList/\s1.n < 64/\Mx wr b s1.ws s1.hs s1.n m/\Zah b w wr/\Zao a wr
theorem Z6m {a:Nat->Addr}{s:Ms}{t:ByteArray}(Z:Zao a w)(hgb:23<=b)(h:Mx w b s.ws s.hs s.n m)(hn:s.n < 64)(ht:t.size < 1000000000):Calls prog 75 #[.pointer (some ⟨b,0,none⟩),.string t] w fun e w'=>e= .returned (.tuple #[])/\Zah b w w'/\Mx w' b (Zgx s t.data.toList).ws (Zgx s t.data.toList).hs (Zgx s t.data.toList).n (IntKind.u64.wrap (m+(t.size:Int)))/\(Zgx s t.data.toList).n < 64:=by
 obtain⟨c72,c73⟩:=h.nums;have sf:=h.soft;have hblt:=h.lt;have H1:=Zaa (h.setLen (IntKind.u64.wrap (m+(t.size:Int))));have K1:=Zaa ((Zah.refl b w).set 73 (.int .u64 (IntKind.u64.wrap (m+(t.size:Int)))));have Z1:=Zaa (Z.keeps K1.out hgb);have ZW:=Zaa Z;clear h Z;obtain⟨M,hM⟩: ∃ M,IntKind.u64.wrap (m+(t.size:Int))=M:=⟨_,rfl⟩;rw[hM]at H1 K1 Z1⊢;go_in
 go_wp2
 go_loopw [1] (fun tv wr=>Z8f a b w s t M tv wr) (fun tv _=>Yb0 tv)
 case atStart=>exact⟨s,t,rfl,Yec _,rfl,hn,H1.out,K1.out,Z1.out⟩
 case round=>
  clear H1 K1 Z1 c72 c73 sf;obtain⟨s1,r,rfl,hrt,hE,hn1,hM,hK,hZ⟩:=hrel;obtain⟨c72,c73⟩:=hM.nums;have sf:=hM.soft;by_cases hr0:r.size=0
  ·have g0: ¬ (0:Int) < (r.size:Int):=by omega
   have e0:r.data.toList=[]:=Yds (by simpa using hr0);rw[e0]at hE;have R:=Zaa (Yda hE (Yda hn1 (Yda hM hK)));clear hE hM hK hZ;go_wp2_with fail
   refine⟨rfl,_,(by simp[results,results75,go_sem];try rfl),rfl,R.out.2.2.2,?_⟩;rw[<- R.out.1];exact⟨R.out.2.2.1,R.out.2.1⟩
  ·have g0:(0:Int) < (r.size:Int):=by omega
   obtain⟨vs,hb,h74,h8,hh,h72,h73⟩:=hM;obtain⟨k,hk⟩: ∃ k,Nat.min r.size (64 - s1.n)=k:=⟨_,rfl⟩;have hk2:k<=r.size/\k<=64 - s1.n/\0 < k:=by rw[<- hk];exact⟨Nat.min_le_left _ _,Nat.min_le_right _ _,by rw[Nat.lt_min];omega⟩
   have HB:=Zaa hb;obtain⟨nv,hnv⟩: ∃ nv,(vs.toList.take (8+s1.n)++Lib.byteCells (r.data.toList.take k)++vs.toList.drop (8+s1.n+k)).toArray=nv:=⟨_,rfl⟩;have HNV:=Zaa hnv;have gn:(s1.n:Int)<=64:=by omega
   have gne: ¬ 64=s1.n:=by omega
   clear hnv;go_wp2
   go_region_law (refine Zsu rfl (.tmp 25) (.tmp 26) 74 9 rfl 5 b (8+s1.n) (64 - s1.n) (64 - s1.n) k r vs 174 underlying74 (by kernel_rfl) (by simp[Act.eval,Act.put]) (by simp[Act.eval,Act.put]) HB.out hk (by omega) nv HNV.out ?_)
   all_goals
    try simp only[Act.put]
    have hbu:Blk (wr.drew.setRow b nv) b nv 174:=Yfe _ _ vs _ _ _ HB.out;have hll:(r.data.toList.take k).length=k:=by
     rw[List.length_take,Nat.min_eq_left]
     have:=hk2.1
     simpa using this
    have M2:=Zaa (Mx.laid hbu h74 h8 hh h72 h73 hll (by omega) HNV.out);have K2:Box (Zah b w (wr.drew.setRow b nv)):=⟨⟨hK.os,hK.tape,hK.output,by rw[Yfd];exact hK.size,fun j hj hne=>(Ye8 _ _ j nv hne).trans (hK.block j hj hne)⟩⟩;obtain⟨W2,hW2⟩: ∃ W,wr.drew.setRow b nv=W:=⟨_,rfl⟩;rw[hW2]at M2 K2⊢;clear hW2 hbu c72 c73 sf hh h8 h72 h73;obtain⟨c72,c73⟩:=M2.out.nums;have sf:=M2.out.soft;have Z2:=Zaa (ZW.out.keeps K2.out hgb);have hsplit:Box (r.data.toList=r.data.toList.take k++(r.extract k r.size).data.toList):=⟨by
     have e:(r.extract k r.size).data.toList=r.data.toList.drop k:=by
      simp[ByteArray.data_extract,Array.toList_extract,Yd9]
     rw[e,List.take_append_drop]⟩
    have hxs:(r.extract k r.size).size=r.size - k:=by rw[Yeh];omega
    have hEE:=Zaa hE;clear hE hK hZ hM HNV HB;by_cases hfull:s1.n+k=64
    ·have g5:((s1.n:Int)+(k:Int)==64)=true:=by rw[Yfb];omega
     have NE:Box (Zgx (Z6p ⟨s1.ws,Zg6 s1.hs s1.n (r.data.toList.take k),64⟩) (r.extract k r.size).data.toList=Zgx s t.data.toList):=⟨by
      rw[<- hEE.out,hsplit.out,Zl3,<- hsplit.out,Zxw _ s1 (fun z=>by rw[z]at hll;simp at hll;omega) (by omega)]⟩
     have M3:=M2.out.setCount (s1.n+k);rw[Int.natCast_add]at M3;have K3:=K2.out.set 72 (.int .i64 ((s1.n:Int)+(k:Int)));have CM:=Zaa (Zwo (ZW.out.keeps K3 hgb) M3);have K3':=Zaa K3;clear M3 K3;go_wp2_with fail
     refine CM.out.mono ?_;rintro e w5 ⟨rfl,hk5,hm5⟩;have R5:=Zaa (Yda (hm5.setCount 0) ((K3'.out.trans hk5).set 72 (.int .i64 0)));have sf5:=hm5.soft;have c725:=hm5.nums.1;clear hk5 hm5 CM c72 c73 sf;go_wp2
     exact⟨⟨Z6p ⟨s1.ws,Zg6 s1.hs s1.n (r.data.toList.take k),64⟩,r.extract k r.size,rfl,by omega,NE.out,by show(0:Nat) < 64;decide,R5.out.1,R5.out.2,ZW.out.keeps R5.out.2 hgb⟩,by show(r.extract k r.size).size < r.size;omega⟩
    ·have g5:((s1.n:Int)+(k:Int)==64)=false:=by rw[Ye4];omega
     have NE:Box (Zgx ⟨s1.ws,Zg6 s1.hs s1.n (r.data.toList.take k),s1.n+k⟩ (r.extract k r.size).data.toList=Zgx s t.data.toList):=⟨by
      rw[<- hEE.out,hsplit.out,Zl3,<- hsplit.out,Z2b _ s1 (by omega),hll]⟩
     have M3:=M2.out.setCount (s1.n+k);rw[Int.natCast_add]at M3;have K3:=K2.out.set 72 (.int .i64 ((s1.n:Int)+(k:Int)));have R3:=Zaa (Yda M3 K3);clear M3 K3;go_wp2
     exact⟨⟨⟨s1.ws,Zg6 s1.hs s1.n (r.data.toList.take k),s1.n+k⟩,r.extract k r.size,rfl,by omega,NE.out,by show s1.n+k < 64;omega,R3.out.1,R3.out.2,ZW.out.keeps R3.out.2 hgb⟩,by show(r.extract k r.size).size < r.size;omega⟩
end Go.P
namespace Go.W
variable {bs:List Nat}{ok:Nat->Bool}{p:Nat}
theorem Z7f (h:p < bs.length)(k:ok (bs.getD p 0)=true):Zce bs ok p=Zce bs ok (p+1):=by
 unfold Zce;obtain⟨f,hf⟩: ∃ f,bs.length - p=f+1:=⟨bs.length - p - 1,by omega⟩;rw[hf,Zos,if_pos ⟨h,k⟩,show bs.length - (p+1)=f from by omega]
theorem Z7e: ∀ {f p:Nat},p<=bs.length->p<=Zos bs ok f p/\Zos bs ok f p<=bs.length:=by
 intro f;induction f with
 | zero=>intro p h;exact⟨Yec _,h⟩
 | succ f ih=>
  intro p h;rw[Zos];split
  ·rename_i hc
   have:=ih (p:=p+1) (by omega)
   omega
  ·exact⟨Yec _,h⟩
theorem Zkz (h:p<=bs.length):p<=Zce bs ok p/\Zce bs ok p<=bs.length:=Z7e h
theorem Zky {f:Nat}(h:bs.length<=p):Zm1 bs f p=p:=by
 cases f with
 | zero=>rfl
 | succ f=>rw[Zm1,if_neg (by omega),if_neg (by omega)]
theorem Zot (h:p < bs.length)(h47:bs.getD p 0=47):p < Zce bs (fun c=>decide (c≠10)) p/\Zce bs (fun c=>decide (c≠10)) p<=bs.length:=by
 have hb:(fun c=>decide (c≠10)) (bs.getD p 0)=true:=by rw[h47];decide
 rw[Z7f h hb]
 have:=Zkz (bs:=bs) (ok:=fun c=>decide (c≠10)) (p:=p+1) (by omega)
 omega
theorem Zy9: ∀ (n f g p:Nat),bs.length - p<=n->bs.length - p<=f->bs.length - p<=g->Zm1 bs f p=Zm1 bs g p:=by
 intro n;induction n with
 | zero=>intro f g p h _ _;rw[Zky (by omega),Zky (by omega)]
 | succ n ih=>
  intro f g p hn hf hg;by_cases hp:bs.length<=p
  ·rw[Zky hp,Zky hp]
  ·obtain⟨f,rfl⟩: ∃ m,f=m+1:=⟨f - 1,by omega⟩;obtain⟨g,rfl⟩: ∃ m,g=m+1:=⟨g - 1,by omega⟩;rw[Zm1,Zm1];by_cases hb:p < bs.length/\Zi9 (bs.getD p 0)=true
   ·rw[if_pos hb,if_pos hb];exact ih f g (p+1) (by omega) (by omega) (by omega)
   ·rw[if_neg hb,if_neg hb];by_cases hc:p+1 < bs.length/\bs.getD p 0=47/\bs.getD (p+1) 0=47
    ·rw[if_pos hc,if_pos hc]
     have:=Zot (by omega) hc.2.1
     exact ih f g _ (by omega) (by omega) (by omega)
    ·rw[if_neg hc,if_neg hc]
theorem Zxb (h:p < bs.length)(k:Zi9 (bs.getD p 0)=true):Zhc bs p=Zhc bs (p+1):=by
 unfold Zhc;obtain⟨m,hm⟩: ∃ m,bs.length - p=m+1:=⟨bs.length - p - 1,by omega⟩;rw[hm,Zm1,if_pos ⟨h,k⟩];exact Zy9 _ _ _ _ lr (by omega) lr
theorem Z1b (k:Zi9 (bs.getD p 0)=false)(h:p+1 < bs.length/\bs.getD p 0=47/\bs.getD (p+1) 0=47):Zhc bs p=Zhc bs (Zce bs (fun c=>decide (c≠10)) p):=by
 unfold Zhc;obtain⟨m,hm⟩: ∃ m,bs.length - p=m+1:=⟨bs.length - p - 1,by omega⟩;rw[hm,Zm1,if_neg (by rw[k];simp),if_pos h]
 have:=Zot (by omega) h.2.1
 exact Zy9 _ _ _ _ lr (by omega) lr
theorem Z1c (k: ¬ (p < bs.length/\Zi9 (bs.getD p 0)=true))(h: ¬ (p+1 < bs.length/\bs.getD p 0=47/\bs.getD (p+1) 0=47)):Zhc bs p=p:=by
 unfold Zhc;cases bs.length - p with
 | zero=>rfl
 | succ m=>rw[Zm1,if_neg k,if_neg h]
theorem Zw0 {t:ByteArray}(h:p < t.size):Lib.hasPrefix (t.extract p t.size).data.toList (⟨#[47,47]⟩:ByteArray).data.toList=decide (p+1 < t.size/\(Zac t).getD p 0=47/\(Zac t).getD (p+1) 0=47):=by
 have e:(t.extract p t.size).data.toList=t.data.toList.drop p:=by
  simp[ByteArray.data_extract,Array.toList_extract,Yd9]
 rw[e];have hs:t.size=t.data.toList.length:=by simp
 have g: ∀ i,(Zac t).getD (p+i) 0=((t.data.toList.drop p).map (·.toNat)).getD i 0:=fun i=>by simp[Zac,List.getD]
 rw[show(Zac t).getD p 0=_ from g 0,g 1,hs];have hl:(t.data.toList.drop p).length=t.data.toList.length - p:=List.length_drop;rw[hs]at h;generalize t.data.toList.drop p=l at*;match l with
 | []=>simp at hl;omega
 | [c]=>rw[Yfg (by simp at hl;omega)];simp[Lib.hasPrefix,List.isPrefixOf]
 | c::d::r=>
  rw[Bool.eq_iff_iff];simp at hl;simp[Lib.hasPrefix,List.isPrefixOf];constructor
  ·rintro⟨rfl,rfl⟩;exact⟨by omega,rfl,rfl⟩
  ·rintro⟨_,h1,h2⟩;exact⟨(UInt8.toNat_inj.1 h1).symm,(UInt8.toNat_inj.1 h2).symm⟩
end Go.W
namespace Go.Proofs
open Go.RowKit Go.Shelf Go.Lib
def Tryz.laysValid_ren:Go.Shelf.Ren:=⟨fun | 196=>239 | 259=>260 | n=>n,fun | 9=>9 | 4=>4 | 3=>3 | 5=>5 | 12=>12 | 119=>351 | 0=>0 | 46=>262 | 139=>354 | 138=>353 | 53=>172 | n=>n,fun | 3=>15 | 4=>16 | n=>n⟩
theorem Tryz.laysValid:Go.Proofs.Lays.n196 prog Tryz.laysValid_ren where
 mixed:=by kernel_rfl
 f196:=func239.trans (congrArg some (by kernel_rfl))
 f259:=func260.trans (congrArg some (by kernel_rfl))
 t0:=underlying0
 a0:=isAgg0
 z0:=sizeOf0
 v0:=zeroValue0
 t3:=underlying3
 a3:=isAgg3
 z3:=sizeOf3
 v3:=zeroValue3
 t4:=underlying4
 a4:=isAgg4
 z4:=sizeOf4
 v4:=zeroValue4
 t5:=underlying5
 a5:=isAgg5
 z5:=sizeOf5
 v5:=zeroValue5
 t9:=underlying9
 a9:=isAgg9
 z9:=sizeOf9
 v9:=zeroValue9
 t12:=underlying12
 a12:=isAgg12
 z12:=sizeOf12
 v12:=zeroValue12
 t46:=underlying262
 a46:=isAgg262
 z46:=sizeOf262
 v46:=zeroValue262
 t53:=underlying172
 a53:=isAgg172
 z53:=sizeOf172
 v53:=zeroValue172
 t119:=underlying351
 a119:=isAgg351
 z119:=sizeOf351
 t138:=underlying353
 a138:=isAgg353
 z138:=sizeOf353
 v138:=zeroValue353
 t139:=underlying354
 a139:=isAgg354
 z139:=sizeOf354
 v139:=zeroValue354
 g3:=by kernel_rfl
 g4:=by kernel_rfl
def Tryz.laysClone_ren:Go.Shelf.Ren:=⟨fun | 316=>200 | n=>n,fun | 9=>9 | 3=>3 | 4=>4 | 37=>74 | 0=>0 | 127=>208 | 5=>5 | n=>n,fun | n=>n⟩
theorem Tryz.laysClone:Go.Proofs.LaysM.n316 prog Tryz.laysClone_ren where
 mixed:=by kernel_rfl
 f316:=func200.trans (congrArg some (by kernel_rfl))
 t0:=underlying0
 a0:=isAgg0
 z0:=sizeOf0
 v0:=zeroValue0
 t3:=underlying3
 a3:=isAgg3
 z3:=sizeOf3
 v3:=zeroValue3
 t4:=underlying4
 a4:=isAgg4
 z4:=sizeOf4
 v4:=zeroValue4
 t9:=underlying9
 a9:=isAgg9
 z9:=sizeOf9
 v9:=zeroValue9
 t37:=underlying74
 a37:=isAgg74
 z37:=sizeOf74
 v37:=zeroValue74
 t127:=underlying208
 a127:=isAgg208
 z127:=sizeOf208
 v127:=zeroValue208
 t5:=underlying5
 a5:=isAgg5
 z5:=sizeOf5
 v5:=zeroValue5
 i0:=by kernel_rfl
 i3:=by kernel_rfl
 i4:=by kernel_rfl
 i5:=by kernel_rfl
 i9:=by kernel_rfl
 i37:=by kernel_rfl
 i127:=by kernel_rfl
def Tryz.laysRune_ren:Go.Shelf.Ren:=⟨fun | 197=>170 | 260=>203 | n=>n,fun | 9=>9 | 21=>21 | 3=>3 | 4=>4 | 5=>5 | 105=>272 | 119=>351 | 0=>0 | 46=>262 | 139=>354 | 138=>353 | n=>n,fun | 3=>15 | 4=>16 | n=>n⟩
theorem Tryz.laysRune:Go.Proofs.Lays.n197 prog Tryz.laysRune_ren where
 mixed:=by kernel_rfl
 f197:=func170.trans (congrArg some (by kernel_rfl))
 f260:=func203.trans (congrArg some (by kernel_rfl))
 t0:=underlying0
 a0:=isAgg0
 z0:=sizeOf0
 v0:=zeroValue0
 t3:=underlying3
 a3:=isAgg3
 z3:=sizeOf3
 v3:=zeroValue3
 t4:=underlying4
 a4:=isAgg4
 z4:=sizeOf4
 v4:=zeroValue4
 t5:=underlying5
 a5:=isAgg5
 z5:=sizeOf5
 v5:=zeroValue5
 t9:=underlying9
 a9:=isAgg9
 z9:=sizeOf9
 v9:=zeroValue9
 t21:=underlying21
 a21:=isAgg21
 z21:=sizeOf21
 v21:=zeroValue21
 t46:=underlying262
 a46:=isAgg262
 z46:=sizeOf262
 v46:=zeroValue262
 t105:=underlying272
 a105:=isAgg272
 z105:=sizeOf272
 v105:=zeroValue272
 t119:=underlying351
 a119:=isAgg351
 z119:=sizeOf351
 t138:=underlying353
 a138:=isAgg353
 z138:=sizeOf353
 v138:=zeroValue353
 t139:=underlying354
 a139:=isAgg354
 z139:=sizeOf354
 v139:=zeroValue354
 g3:=by kernel_rfl
 g4:=by kernel_rfl
def Tryz.laysPrefix_ren:Go.Shelf.Ren:=⟨fun | 99=>160 | 206=>197 | n=>n,fun | 9=>9 | 4=>4 | 3=>3 | n=>n,fun | n=>n⟩
theorem Tryz.laysPrefix:Go.Proofs.Lays.n99 prog Tryz.laysPrefix_ren where
 mixed:=by kernel_rfl
 f99:=func160.trans (congrArg some (by kernel_rfl))
 f206:=func197.trans (congrArg some (by kernel_rfl))
 t3:=underlying3
 a3:=isAgg3
 z3:=sizeOf3
 v3:=zeroValue3
 t4:=underlying4
 a4:=isAgg4
 z4:=sizeOf4
 v4:=zeroValue4
 t9:=underlying9
 a9:=isAgg9
 z9:=sizeOf9
 v9:=zeroValue9
def Tryz.laysAppend_ren:Go.Shelf.Ren:=⟨fun | 242=>168 | 278=>201 | n=>n,fun | 37=>74 | 21=>21 | 51=>169 | 4=>4 | 5=>5 | 46=>262 | n=>n,fun | n=>n⟩
theorem Tryz.laysAppend:Go.Proofs.Lays.n242 prog Tryz.laysAppend_ren where
 mixed:=by kernel_rfl
 f242:=func168.trans (congrArg some (by kernel_rfl))
 f278:=func201.trans (congrArg some (by kernel_rfl))
 t4:=underlying4
 a4:=isAgg4
 z4:=sizeOf4
 v4:=zeroValue4
 t5:=underlying5
 a5:=isAgg5
 z5:=sizeOf5
 v5:=zeroValue5
 t21:=underlying21
 a21:=isAgg21
 z21:=sizeOf21
 v21:=zeroValue21
 t37:=underlying74
 a37:=isAgg74
 z37:=sizeOf74
 v37:=zeroValue74
 t46:=underlying262
 a46:=isAgg262
 z46:=sizeOf262
 v46:=zeroValue262
 t51:=underlying169
 a51:=isAgg169
 z51:=sizeOf169
 v51:=zeroValue169
def Tryz.laysValidRune_ren:Go.Shelf.Ren:=⟨fun | 119=>230 | n=>n,fun | 21=>21 | 4=>4 | n=>n,fun | n=>n⟩
theorem Tryz.laysValidRune:Go.Proofs.Lays.n119 prog Tryz.laysValidRune_ren where
 mixed:=by kernel_rfl
 f119:=func230.trans (congrArg some (by kernel_rfl))
 t4:=underlying4
 a4:=isAgg4
 z4:=sizeOf4
 v4:=zeroValue4
 t21:=underlying21
 a21:=isAgg21
 z21:=sizeOf21
 v21:=zeroValue21
end Go.Proofs
namespace Go.P
open Go.RowKit Go.Shelf Go.Lib Go.W
theorem Z7q:Zav:=fun a s w Z hs=>Any.utf8_ValidString Tryz.laysValid s w (by omega) Z.utf
theorem Zrv:Zbh:=by
 intro s w hs;have C:=Zaa (fun u=>Any.stringslite_Clone Tryz.laysClone s u (by omega));go_in
 go_wp2_with fail
 refine(C.out _).mono ?_;rintro e w' ⟨rfl,hb⟩;go_wp2_with fail
 all_goals go_ret
 all_goals exact⟨rfl,hb⟩
theorem Zq8 (s p:ByteArray)(w:World):Calls prog 160 #[.string s,.string p] w fun e w'=>e= .returned (.bool (hasPrefix s.data.toList p.data.toList))/\w'=w:=
 Any.strings_HasPrefix Tryz.laysPrefix s p w
theorem Z7a {a:Nat->Addr}{w:World}(Z:Zao a w)(s:ByteArray):Calls prog 170 #[.string s] w fun e w'=>e= .returned (.tuple #[.int .i32 ((decodeGo s).1:Nat),.int .i64 ((decodeGo s).2:Nat)])/\Below w.heap.size w w':=
 Any.utf8_DecodeRuneInString Tryz.laysRune s w Z.utf
theorem Zsw (r:Int)(w:World):Calls prog 230 #[.int .i32 r] w fun e w'=>e= .returned (.bool (Lib.validRune r))/\w'=w:=
 Any.utf8_ValidRune Tryz.laysValidRune r w
theorem Zjk (B:Nat)(v:Value)(n:Nat)(xs:List Value)(r:Int)(h1: -2147483648<=r)(h2:r<=2147483647)(w:World)(h:w.ownsRow B 5 1 v n xs)(hn:n+4<=140737488355328)(hB:B<=w.heap.size):
  Calls prog 168 #[v,.int .i32 r] w fun e w'=> ∃ v',e= .returned v'/\w'.ownsRow B 5 1 v' (n+(runeCells r).length) (xs++runeCells r)/\ ∃ o,(w.alloc o).grownBy w' v.ownBlock:=
 Any.utf8_AppendRune_plain Tryz.laysAppend Zkp B v n xs r h1 h2 w h hn hB
end Go.P
namespace Go.P
variable {w:World}{b p:Nat}{t:ByteArray}{x:Tk}{n:Int}
theorem Zd6 {P:Program}{f:FuncId}{args:Array Value}{n k:Nat}{v:Value}(h: ∀ w,Calls P f args w fun e w'=>e= .returned v/\w'=w):
  Calls P f args (w.drewN (n+k)) fun e w''=>e= .returned v/\ ∃ m,w''=w.drewN (n+m):=(h _).mono fun _ _ ⟨a,b⟩=>⟨a,k,b⟩
theorem Rd.next (h:Rd w b t p x)(hq:p < t.size):Rd (w.setCell ⟨b,1,none⟩ (.int .i64 ((p:Int)+1))) b t (p+1) x:=h.goes (q:=p+1) hq
def Zfv (a:Nat->Addr) (n:Int) (at_ N:Nat) (e:Ending) (w:World):Prop:= ∃ L,N<=L/\e= .panicked [{v:= .iface 97 (.pointer (some ⟨L,0,none⟩)),recovered:=false}]/\Blk w L #[.int .i64 (at_:Int),Zcm a n] 101
theorem Ze3 (a:Nat->Addr)(hn:n≠0)(p:Nat)(w:World):Calls prog 133 #[.int .i64 (p:Int),Zcm a n] w fun e w'=>Zfv a n p w.heap.size e w'/\Below w.heap.size w w':=by
 unfold Zfv;rw[Zaf _ hn];go_in
 go_wp2_with fail
 exact⟨rfl,⟨_,Yec _,rfl,Blk.new _ _ _⟩,(Ydb _ w).alloc lr _⟩
theorem Zbf (a:Nat->Addr)(hn:n≠0)(h:Rd w b t p x):Calls prog 84 #[.pointer (some ⟨b,0,none⟩),Zcm a n] w fun e w'=>Zfv a n x.at_ w.heap.size e w'/\Below w.heap.size w w':=by
 obtain⟨-,-,c2,-,-,-,-,-,sf⟩:=h.1.eight;have C:=Zaa (Ze3 a hn x.at_);clear h;generalize Zcm a n=v at*;go_in
 go_wp2_with fail
 refine(C.out _).mono ?_;rintro e w' ⟨⟨L,hL,rfl,hb⟩,hw⟩;exact⟨rfl,⟨L,hL,rfl,hb⟩,hw⟩
theorem Zlt:Yaj 162 (fun c=>decide (c≠10)):=⟨Zam func162 (by kernel_rfl) rfl,Zmz⟩
theorem Zg5:Yaj 163 Zb2:=⟨Zam func163 (by kernel_rfl) rfl,Zhz⟩
theorem Zt8:Yaj 127 Za1:=⟨Zam func127 (by kernel_rfl) rfl,Zj1⟩
theorem Z0q:Yaj 198 Zdk:=⟨Zam func198 (by kernel_rfl) rfl,Zua⟩
def Z8p (b:Nat) (w:World) (t:ByteArray) (p:Nat) (x:Tk) (wr:World):Prop:= ∃ q,p<=q/\Rd wr b t q x/\Zah b w wr/\Zhc (Zac t) q=Zhc (Zac t) p
theorem Z7d (h:Rd w b t p x):
  Calls prog 122 #[.pointer (some ⟨b,0,none⟩)] w fun e w'=>e= .returned (.tuple #[])/\Zah b w w'/\Rd w' b t (Zhc (Zac t) p) x:=by
 go_in
 go_wp2
 go_loopw [5] (fun _ wr=>Z8p b w t p x wr) (fun _ wr=>t.size - Zoj b wr)
 case atStart=>exact⟨p,Yec _,h,Zah.refl _ _,rfl⟩
 case round=>
  obtain⟨q,hq,hR,hK,hE⟩:=hrel;clear h;have h3:=hR.2.2.1;have ht:=hR.2.1;have hM:=Zeb hR;obtain⟨c0,c1,-,-,-,-,-,-,sf⟩:=hR.1.eight;have HR:=Zaa hR;have HK:=Zaa hK;have HE:=Zaa hE;have hl:=Zbm t;have S3:= @Z1c (Zac t) q;clear hR hK hE;by_cases hlt:q < t.size
  ·have g:(q:Int) < (t.size:Int):=by omega
   have hx:=Zhm t q hlt;have C:=Zaa (Zwj ((Zac t).getD q 0));have P:=Zaa (fun u=>Zq8 (t.extract q t.size) ⟨#[47,47]⟩ u);rw[Zw0 hlt]at P;have S1:=Zaa (Zxb (bs:=Zac t) (p:=q) (by omega));have S2:=Zaa (Z1b (bs:=Zac t) (p:=q));cases hb:Z2g ((Zac t).getD q 0)
   ·rw[hb]at C;by_cases hn:q+1 < t.size/\(Zac t).getD q 0=47/\(Zac t).getD (q+1) 0=47
    ·rw[Yfj hn]at P;have S:=Zaa (S2.out hb (by rw[hl];exact hn));have hs:=Zaa (Zot (bs:=Zac t) (p:=q) (by omega) hn.2.1);have CR:=Zaa (fun u (hu:Rd u b t q x)=>Zoq Zlt hu);clear S1 S2 S3 hn hb;generalize (Zac t).getD q 0=c at*;go_wp2
     go_quiet (fail)
     go_wp2
     go_quiet ((go_at_call 159;first | exact Calls.quiet_of_same (C.out _) | exact Zd6 C.out))
     go_wp2
     go_quiet ((go_at_call 160;first | exact Calls.quiet_of_same (P.out _) | exact Zd6 P.out))
     go_wp2_with fail
     refine(CR.out _ (HR.out.dr _)).mono ?_;rintro e w1 ⟨rfl,hk,hr⟩;have hM1:=Zeb hr;have HR1:=Zaa hr;have HK1:=Zaa ((HK.out.dr _).trans hk);clear hk hr;go_wp2
     go_roundw
     case rel=>exact⟨_,by have:=hs.out;omega,HR1.out,HK1.out,S.out.symm.trans HE.out⟩
     case measure=>
      have:=hs.out
      rw[hM,hM1];omega
    ·rw[Yfg hn]at P;have E:Box (Zhc (Zac t) p=q):=⟨HE.out.symm.trans (S3 (fun z=>by rw[show Zi9 ((Zac t).getD q 0)=false from hb]at z;cases z.2) (by rw[hl];exact hn))⟩;clear S1 S2 S3 hn hb;generalize (Zac t).getD q 0=c at*;go_wp2
     go_quiet (fail)
     go_wp2
     go_quiet ((go_at_call 159;first | exact Calls.quiet_of_same (C.out _) | exact Zd6 C.out))
     go_wp2
     go_quiet ((go_at_call 160;first | exact Calls.quiet_of_same (P.out _) | exact Zd6 P.out))
     go_wp2
     refine Ye6 (by simp[results,results122,go_sem];try rfl) rfl ?_;rw[E.out];exact⟨rfl,((HK.out.dr _).dr _).dr _,HR.out⟩
   ·rw[hb]at C;have S:=Zaa (S1.out hb);clear S1 S2 S3 P hb;generalize (Zac t).getD q 0=c at*;go_wp2
    go_quiet (fail)
    go_wp2
    go_quiet ((go_at_call 159;first | exact Calls.quiet_of_same (C.out _) | exact Zd6 C.out))
    go_wp2
    go_roundw
    case rel=>exact⟨q+1,by omega,(HR.out.dr _).next hlt,(HK.out.dr _).set _ _,S.out.symm.trans HE.out⟩
    case measure=>
     rw[hM,Zeb ((HR.out.dr _).next hlt)];omega
  ·obtain rfl:q=t.size:=by omega
   have E:Box (Zhc (Zac t) p=t.size):=⟨HE.out.symm.trans (S3 (by omega) (by omega))⟩;go_wp2
   go_quiet (fail)
   go_wp2_with fail
   rw[E.out];exact⟨rfl,_,(by simp[results,results122,go_sem];try rfl),rfl,HK.out.dr _,HR.out.dr _⟩
end Go.P
namespace Go.W
def Zfb (t:ByteArray) (x:Tk) (p:Nat):Except (Int×Nat) (Unit×Tk×Nat):=
 let q:=Zce (Zac t) Zb2 (p+1)
 if 16 < q - (p+1)then .error (4,x.at_)else if Zdm (t.extract (p+1) q)=false then .error (1,x.at_)else .ok ((),{x with k:=1,i:=0,s:=t.extract (p+1) q},q)
end Go.W
namespace Go.P
variable {w:World}{b p:Nat}{t:ByteArray}{x:Tk}
theorem Rd.term (h:Rd w b t p x)(k i:Int)(s:ByteArray):Rd ((((w.setCell ⟨b,4,none⟩ (.int .i64 k)).setCell ⟨b,5,none⟩ (.int .i64 i)).setCell ⟨b,6,none⟩ (.string s)).setCell ⟨b,7,none⟩ (.slice none 0 0)) b t p {x with k:=k,i:=i,s:=s}:=⟨(((h.1.set 4 _).set 5 _).set 6 _).set 7 _,h.2⟩
theorem Rd.text (h:Rd w b t p x)(s:ByteArray):Rd (w.setCell ⟨b,3,none⟩ (.string s)) b t p {x with text:=s}:=⟨h.1.set 3 _,h.2⟩
theorem _root_.Go.W.Zah.term {w0:World}{v4 v5 v6 v7:Value}(h:Zah b w0 w):Zah b w0 ((((w.setCell ⟨b,4,none⟩ v4).setCell ⟨b,5,none⟩ v5).setCell ⟨b,6,none⟩ v6).setCell ⟨b,7,none⟩ v7):=(((h.set _ _).set _ _).set _ _).set _ _
def Ze6 {α:Type} (a:Nat->Addr) (b:Nat) (t:ByteArray) (V:World->Value->α->Prop) (w:World) (Y:Except (Int×Nat) (α×Tk×Nat)) (e:Ending) (w':World):Prop:=
 Zah b w w'/\((∃ n p,Y= .error (n,p)/\n≠0/\Zfv a n p w.heap.size e w')\/ ∃ v y x q,Y= .ok (y,x,q)/\e= .returned v/\V w' v y/\Rd w' b t q x)
def VU (_:World) (v:Value) (_:Unit):Prop:=v= .tuple #[]
theorem Zm0 {a:Nat->Addr}(Z:Zao a w)(h:Rd w b t p x)(hp:p < t.size):
  Calls prog 125 #[.pointer (some ⟨b,0,none⟩)] w (Ze6 a b t VU w (Zfb t x p)):=by
 have ht:=h.2.1;have hg:=h.2.2.2;obtain⟨c0,c1,-,-,-,-,-,-,sf⟩:=h.1.eight;have HN:=Zaa (h.next hp);have CR:=Zaa (Zoq Zg5 (h.next hp));have hl:=Zbm t;have hs:=Zkz (bs:=Zac t) (ok:=Zb2) (p:=p+1) (by omega);have F:Box (Zfb t x p=if 16 < Zce (Zac t) Zb2 (p+1) - (p+1)then .error (4,x.at_)else if Zdm (t.extract (p+1) (Zce (Zac t) Zb2 (p+1)))=false then .error (1,x.at_)else .ok ((),{x with k:=1,i:=0,s:=t.extract (p+1) (Zce (Zac t) Zb2 (p+1))},Zce (Zac t) Zb2 (p+1))):=⟨rfl⟩;generalize Zce (Zac t) Zb2 (p+1)=q at*;have hz:(t.extract (p+1) q).size=q - (p+1):=by rw[Yeh];omega
 generalize t.extract (p+1) q=s at*;have ZZ:=Zaa Z;have HK0:=Zaa ((Zah.refl b w).set 1 (.int .i64 ((p:Int)+1)));clear h Z;go_in
 go_wp2_with fail
 refine CR.out.mono ?_;rintro e w1 ⟨rfl,hk,hr⟩;have ZA:=Zaa (ZZ.out.keeps (HK0.out.trans hk) hg);have HK:=Zaa (HK0.out.trans hk);have HR:=Zaa hr;obtain⟨d0,d1,-,-,-,-,-,-,sf1⟩:=hr.1.eight;have C1:=Zaa (fun n (hn:n≠0)=>Zbf a hn hr);have C2:=Zaa (fun u=>Zls s u (by omega));have C3:=Zaa (fun u=>Zrv s u (by omega));have z4:=ZA.out.c4;have z1:=ZA.out.c1;clear hk hr CR HN c0 c1 sf ZZ HK0;by_cases h16:16 < s.size
 ·have g:(16:Int) < (s.size:Int):=by omega
  have Y:Box (Zfb t x p= .error (4,x.at_)):=⟨by rw[F.out,if_pos (by omega)]⟩;go_wp2_with fail
  refine(C1.out 4 (by decide)).mono ?_;rintro e w2 ⟨⟨L,hL,rfl,hB⟩,hb⟩;exact⟨rfl,HK.out.ofBelow hb,Or.inl ⟨4,_,Y.out,by decide,L,Ydc HK.out.size hL,rfl,hB⟩⟩
 ·have g: ¬ (16:Int) < (s.size:Int):=by omega
  clear C1 z4;go_wp2_with fail
  refine(C2.out _).mono ?_;rintro e w2 ⟨rfl,hb⟩;have hr2:=HR.out.of hb;have z1:=Zab z1 hb;have HK2:=Zaa (HK.out.ofBelow hb);have HR2:=Zaa hr2;have C1:=Zaa (Zbf a (n:=1) (by decide) hr2);obtain⟨d0,d1,-,-,-,-,-,-,sf2⟩:=hr2.1.eight;clear sf1 hr2 hb;cases hn:Zdm s
  ·have Y:Box (Zfb t x p= .error (1,x.at_)):=⟨by rw[F.out,if_neg (by omega),if_pos hn]⟩;go_wp2_with fail
   refine C1.out.mono ?_;rintro e w3 ⟨⟨L,hL,rfl,hB⟩,hb⟩;exact⟨rfl,HK2.out.ofBelow hb,Or.inl ⟨1,_,Y.out,by decide,L,Ydc HK2.out.size hL,rfl,hB⟩⟩
  ·have Y:Box (Zfb t x p= .ok ((),{x with k:=1,i:=0,s:=s},q)):=⟨by rw[F.out,if_neg (by omega),if_neg (by rw[hn];simp)]⟩;clear C1 z1;go_wp2_with fail
   refine(C3.out _).mono ?_;rintro e w3 ⟨rfl,hb⟩;have hr3:=HR2.out.of hb;have HK3:=Zaa (HK2.out.ofBelow hb);have HR3:=Zaa hr3;obtain⟨e0,e1,-,-,e4,e5,e6,e7,sf3⟩:=hr3.1.eight;clear sf2 hr3 hb d0 d1;go_wp2_with fail
   exact⟨rfl,_,(by simp[results,results125,go_sem];try rfl),HK3.out.term,Or.inr ⟨_,_,_,_,Y.out,rfl,rfl,HR3.out.term 1 0 s⟩⟩
end Go.P
namespace Go.W
def Zpw (bs:List Nat):Nat->Nat->List UInt8
 | 0,_=>[]
 | n+1,p=>UInt8.ofNat (16*Zdj (bs.getD p 0)+Zdj (bs.getD (p+1) 0))::Zpw bs n (p+2)
def Zii (t:ByteArray) (x:Tk) (p:Nat):Except (Int×Nat) (Unit×Tk×Nat):=
 let q:=Zce (Zac t) Zdk p
 if(q - p) % 2≠0 then .error (1,x.at_)else if 64 < (q - p) / 2 then .error (4,x.at_)else .ok ((),{x with k:=4,i:=0,s:=⟨(Zpw (Zac t) ((q - p) / 2) p).toArray⟩},q)
def Zsx (t:ByteArray) (x:Tk) (p:Nat):Except (Int×Nat) (Unit×Tk×Nat):=
 let q:=Zce (Zac t) Zb2 p
 if 16 < q - p then .error (4,x.at_)else if(t.extract p q).toList=[104,101,120]/\(Zac t).getD q 0=58 then Zii t x (q+1)else .ok ((),{x with text:=t.extract p q},q)
theorem Z9d {t:ByteArray}{q:Nat}(h:(Zac t).getD q 0=58):q < t.size:=by
 rcases Ye3 q t.size with g | g
 ·exact g
 ·simp[List.getD,Zbm,g]at h
end Go.W
namespace Go.P
def Znb:Prop:= ∀ {a:Nat->Addr} {w:World} {b:Nat} {t:ByteArray} {p:Nat} {x:Tk},Zao a w->Rd w b t p x->Calls prog 165 #[.pointer (some ⟨b,0,none⟩)] w (Ze6 a b t VU w (Zii t x p))
theorem Zuy (RB:Znb){a:Nat->Addr}{w:World}{b:Nat}{t:ByteArray}{p:Nat}{x:Tk}(Z:Zao a w)(h:Rd w b t p x):
  Calls prog 124 #[.pointer (some ⟨b,0,none⟩)] w (Ze6 a b t VU w (Zsx t x p)):=by
 have ht:=h.2.1;have hg:=h.2.2.2;have hp:=h.2.2.1;have CR:=Zaa (Zoq Zg5 h);have hl:=Zbm t;have hs:=Zkz (bs:=Zac t) (ok:=Zb2) (p:=p) (by omega);have F:Box (Zsx t x p=if 16 < Zce (Zac t) Zb2 p - p then .error (4,x.at_)else if(t.extract p (Zce (Zac t) Zb2 p)).toList=[104,101,120]/\(Zac t).getD (Zce (Zac t) Zb2 p) 0=58 then Zii t x (Zce (Zac t) Zb2 p+1)else .ok ((),{x with text:=t.extract p (Zce (Zac t) Zb2 p)},Zce (Zac t) Zb2 p)):=⟨rfl⟩;generalize Zce (Zac t) Zb2 p=q at*;have hz:(t.extract p q).size=q - p:=by rw[Yeh];omega
 generalize t.extract p q=s at*;have ZZ:=Zaa Z;clear h Z;go_in
 go_wp2_with fail
 refine CR.out.mono ?_;rintro e w1 ⟨rfl,hk,hr⟩;have ZA:=Zaa (ZZ.out.keeps hk hg);have HK:=Zaa hk;have HR:=Zaa hr;have C1:=Zaa (fun n (hn:n≠0)=>Zbf a hn hr);have C2:=Zaa (fun u (hu:Rd u b t q x)=>Zku hu);have C3:=Zaa (fun u=>Zrv s u (by omega));have z4:=ZA.out.c4;clear hk hr CR ZZ;by_cases h16:16 < s.size
 ·have g:(16:Int) < (s.size:Int):=by omega
  have Y:Box (Zsx t x p= .error (4,x.at_)):=⟨by rw[F.out,if_pos (by omega)]⟩;go_wp2_with fail
  refine(C1.out 4 (by decide)).mono ?_;rintro e w2 ⟨⟨L,hL,rfl,hB⟩,hb⟩;exact⟨rfl,HK.out.ofBelow hb,Or.inl ⟨4,_,Y.out,by decide,L,Ydc HK.out.size hL,rfl,hB⟩⟩
 ·have g: ¬ (16:Int) < (s.size:Int):=by omega
  clear C1 z4;by_cases hx:s.toList=[104,101,120]
  ·go_wp2_with fail
   refine(C2.out _ HR.out).mono ?_;rintro e w2 ⟨rfl,hb⟩;have hr2:=HR.out.of hb;have ZB:=Zaa (ZA.out.below hb);have HK2:=Zaa (HK.out.ofBelow hb);have HR2:=Zaa hr2;obtain⟨d0,d1,-,d3,-,-,-,-,sf2⟩:=hr2.1.eight;clear hr2 hb;have LT:=Zaa (Z9d (t:=t) (q:=q));generalize (Zac t).getD q 0=c at*;by_cases hc:c=58
   ·have Y:Box (Zsx t x p=Zii t x (q+1)):=⟨by rw[F.out,if_neg (by omega),if_pos ⟨hx,hc⟩]⟩;have hq:=LT.out hc;have g2:((c:Int)==58)=true:=by rw[Yfb];omega
    have RB':=Zaa (fun u (h1:Zao a u) (h2:Rd u b t (q+1) x)=>RB h1 h2);clear hc F LT RB;go_wp2_with fail
    refine(RB'.out _ (ZB.out.keeps ((Zah.refl b w2).set _ _) hg) (HR2.out.next hq)).mono ?_;rintro e w3 ⟨hk3,⟨n,r,hy,hn,L,hL,rfl,hB⟩ | ⟨v,y,x2,r,hy,rfl,hv,hr3⟩⟩
    ·exact⟨rfl,(HK2.out.set _ _).trans hk3,Or.inl ⟨n,r,Y.out.trans hy,hn,L,by have:=HK2.out.size;simp at hL;omega,rfl,hB⟩⟩
    ·obtain rfl:v= .tuple #[]:=hv;have R:=Zaa (Yda ((HK2.out.set 1 (.int .i64 ((q:Int)+1))).trans hk3) (Yda (Y.out.trans hy) hr3));clear hk3 hy hr3;go_wp2
     refine Ye6 (by simp[results,results124,go_sem];try rfl) rfl ?_;exact⟨R.out.1,Or.inr ⟨_,_,_,_,R.out.2.1,rfl,rfl,R.out.2.2⟩⟩
   ·have Y:Box (Zsx t x p= .ok ((),{x with text:=s},q)):=⟨by rw[F.out,if_neg (by omega),if_neg (fun z=>hc z.2)]⟩;have g2:((c:Int)==58)=false:=by rw[Ye4];omega
    clear hc F LT RB;go_wp2_with fail
    refine(C3.out _).mono ?_;rintro e w3 ⟨rfl,hb⟩;have hr3:=HR2.out.of hb;have HK3:=Zaa (HK2.out.ofBelow hb);have HR3:=Zaa hr3;clear d0 d1 d3 sf2;obtain⟨d0,d1,-,d3,-,-,-,-,sf3⟩:=hr3.1.eight;clear hr3 hb;go_wp2_with fail
    exact⟨rfl,_,(by simp[results,results124,go_sem];try rfl),HK3.out.set _ _,Or.inr ⟨_,_,_,_,Y.out,rfl,rfl,HR3.out.text s⟩⟩
  ·have Y:Box (Zsx t x p= .ok ((),{x with text:=s},q)):=⟨by rw[F.out,if_neg (by omega),if_neg (fun z=>hx z.1)]⟩;go_wp2_with fail
   refine(C3.out _).mono ?_;rintro e w3 ⟨rfl,hb⟩;have hr3:=HR.out.of hb;have HK3:=Zaa (HK.out.ofBelow hb);have HR3:=Zaa hr3;obtain⟨d0,d1,-,d3,-,-,-,-,sf3⟩:=hr3.1.eight;clear hr3 hb;go_wp2_with fail
   exact⟨rfl,_,(by simp[results,results124,go_sem];try rfl),HK3.out.set _ _,Or.inr ⟨_,_,_,_,Y.out,rfl,rfl,HR3.out.text s⟩⟩
end Go.P
namespace Go.W
def Zkm (bs:List Nat) (at_:Nat):Nat->Nat->Nat->Except (Int×Nat) (Nat×Nat)
 | 0,v,p=> .ok (v,p)
 | f+1,v,p=>if Zdk (bs.getD p 0)=true then Zkm bs at_ f (16*v+Zdj (bs.getD p 0)) (p+1)else .error (1,at_)
def Zmr (t:ByteArray) (x:Tk) (p:Nat):Except (Int×Nat) (Nat×Tk×Nat):=match Zkm (Zac t) x.at_ 4 0 p with
 | .error e=> .error e
 | .ok (v,q)=>if Lib.validRune (v:Int)=true then .ok (v,x,q)else .error (1,x.at_)
theorem Zz0 {bs:List Nat}{at_ f v p:Nat}:(Zdk (bs.getD p 0)=true->Zkm bs at_ (f+1) v p=Zkm bs at_ f (16*v+Zdj (bs.getD p 0)) (p+1))/\(Zdk (bs.getD p 0)=false->Zkm bs at_ (f+1) v p= .error (1,at_)):=
 ⟨fun h=>by rw[Zkm,if_pos h],fun h=>by rw[Zkm,if_neg (by rw[h];simp)]⟩
theorem Ybg (a b:Nat)(ha:a < 2147483648)(hb:b < 2147483648):bits .or .i32 (a:Int) (b:Int)=((a ||| b:Nat):Int):=by
 have hx:a ||| b < 2 ^ 31:=Nat.or_lt_two_pow (by omega) (by omega);show IntKind.i32.wrap ((BitVec.ofInt 32 (a:Int) ||| BitVec.ofInt 32 (b:Int)).toNat:Int)=_;rw[BitVec.toNat_or,ofInt_u32 a (by omega),ofInt_u32 b (by omega),IntKind.wrap_i32];omega
theorem Z2t (v h:Nat)(hv:v < 4096)(hh:h < 16):bits .or .i32 ((v:Int)*16) (h:Int)=((16*v+h:Nat):Int):=by
 have e:((v:Int)*16)=((16*v:Nat):Int):=by omega
 rw[e,Ybg _ _ (by omega) (by omega),nat_join 4 (16*v) h (by omega) (by omega)]
theorem Zit {c:Nat}(h:Zdk c=true):Zdj c < 16:=by
 simp[Zdk,Za1]at h;unfold Zdj Za1;split <;> simp_all <;> omega
end Go.W
namespace Go.P
def Z8j (b:Nat) (w:World) (t:ByteArray) (p:Nat) (x:Tk) (cv iv:Value) (wr:World):Prop:= ∃ k v q:Nat,k<=4/\v < 16 ^ k/\cv= .int .i32 (v:Int)/\iv= .int .i64 ((k:Nat):Int)/\Rd wr b t q x/\Zah b w wr/\Zkm (Zac t) x.at_ (4 - k) v q=Zkm (Zac t) x.at_ 4 0 p
def Zyz (v:Value):Nat:=match v with
 | .int _ i=>i.toNat
 | _=>0
theorem Zly {a:Nat->Addr}{w:World}{b:Nat}{t:ByteArray}{p:Nat}{x:Tk}(Z:Zao a w)(h:Rd w b t p x):
  Calls prog 202 #[.pointer (some ⟨b,0,none⟩)] w (Ze6 a b t (fun _ v (y:Nat)=>v= .int .i32 (y:Int)/\Lib.validRune (y:Int)=true/\y < 65536) w (Zmr t x p)):=by
 have hg:=h.2.2.2;go_in
 go_wp2
 go_loopw [3,4] (fun cv iv wr=>Z8j b w t p x cv iv wr) (fun _ iv _=>4 - Zyz iv)
 case atStart=>exact⟨0,0,p,by omega,by decide,rfl,rfl,h,Zah.refl _ _,rfl⟩
 case round=>
  obtain⟨k,v,q,hk,hv,rfl,rfl,hR,hK,hE⟩:=hrel;have ZA:=Zaa (Z.keeps hK hg);have HR:=Zaa hR;have HK:=Zaa hK;have HE:=Zaa hE;by_cases hlt:k < 4
  ·have g:(k:Int) < 4:=by omega
   have hv3:v < 4096:=by
    have:16 ^ k<=16 ^ 3:=Nat.pow_le_pow_right (by omega) (by omega)
    omega
   have hv4:16*v < 16 ^ (k+1):=by rw[Nat.pow_succ];omega
   have CP:=Zaa (fun u (hu:Rd u b t q x)=>Zku hu);have S:=Zz0 (bs:=Zac t) (at_:=x.at_) (f:=4 - (k+1)) (v:=v) (p:=q);rw[show 4 - (k+1)+1=4 - k by omega]at S;have h3:=hR.2.2.1;have hp0:Zdk ((Zac t).getD q 0)=true->q < t.size:=fun hh=>by
    rcases Ye3 q t.size with g | g
    ·exact g
    ·rw[show(Zac t).getD q 0=0 by simp[List.getD,Zbm,g]]at hh;cases hh
   have SS:=Zaa S;have HX:=Zaa (fun h=>Zit (c:=(Zac t).getD q 0) h);have CH:=Zaa (Zua ((Zac t).getD q 0));have CV:=Zaa (Zmb ((Zac t).getD q 0));have hp1:=Zaa hp0;clear hp0 S hR hK hE Z h;generalize (Zac t).getD q 0=c at*;go_wp2_with fail
   refine(CP.out _ HR.out).mono ?_;rintro e w1 ⟨rfl,hb1⟩;have HR1:=Zaa (HR.out.of hb1);have HK1:=Zaa (HK.out.ofBelow hb1);have ZB:=Zaa (ZA.out.below hb1);clear hb1;cases hh:Zdk c
   ·rw[hh]at CH;have Y:Box (Zmr t x p= .error (1,x.at_)):=⟨by unfold Zmr;rw[<- HE.out,SS.out.2 hh]⟩;have z1:=ZB.out.c1;have C1:=Zaa (Zbf a (n:=1) (by decide) HR1.out);go_wp2_with (go_at_call 198;refine(CH.out _).mono ?_;rintro e w' ⟨rfl,rfl⟩)
    refine C1.out.mono ?_;rintro e w2 ⟨⟨L,hL,rfl,hB⟩,hb⟩;exact⟨rfl,HK1.out.ofBelow hb,Or.inl ⟨1,_,Y.out,by decide,L,Ydc HK1.out.size hL,rfl,hB⟩⟩
   ·rw[hh]at CH;have hx:=HX.out hh;have hq:=hp1.out hh;have CV1:=Zaa (fun u=>CV.out hh u);have E1:=Zaa (SS.out.1 hh);have J:=Zaa (Z2t v (Zdj c) hv3 hx);have hts:=HR1.out.2.1;have hq8:q < 8000:=by omega
    clear SS HX CV hh hp1;go_wp2_with (go_at_call 198;refine(CH.out _).mono ?_;rintro e w' ⟨rfl,rfl⟩)
    refine(CP.out _ HR1.out).mono ?_;rintro e w2 ⟨rfl,hb2⟩;have hr2:=HR1.out.of hb2;have HR2:=Zaa hr2;have HK2:=Zaa (HK1.out.ofBelow hb2);obtain⟨d0,d1,-,-,-,-,-,-,sf2⟩:=hr2.1.eight;clear hr2 hb2;generalize Zdj c=d at*;go_wp2_with (go_at_call 199;refine(CV1.out _).mono ?_;rintro e w' ⟨rfl,rfl⟩)
    refine⟨⟨k+1,16*v+d,q+1,by omega,by rw[Nat.pow_succ]at hv4⊢;omega,by rw[J.out],by simp,HR2.out.next hq,HK2.out.set _ _,E1.out.symm.trans HE.out⟩,by simp[Zyz];omega⟩
  ·obtain rfl:k=4:=by omega
   have C0:=Zaa (fun u=>Zsw (v:Int) u);have z1:=ZA.out.c1;have C1:=Zaa (Zbf a (n:=1) (by decide) HR.out);have hv4:v < 65536:=hv;have E:Box (Zkm (Zac t) x.at_ 4 0 p= .ok (v,q)):=⟨HE.out.symm⟩;clear hR hK hE HE Z h hv;cases hr:Lib.validRune (v:Int)
   ·rw[hr]at C0;have Y:Box (Zmr t x p= .error (1,x.at_)):=⟨by unfold Zmr;rw[E.out];simp[hr]⟩;go_wp2_with (go_at_call 230;refine(C0.out _).mono ?_;rintro e w' ⟨rfl,rfl⟩)
    refine C1.out.mono ?_;rintro e w2 ⟨⟨L,hL,rfl,hB⟩,hb⟩;exact⟨rfl,HK.out.ofBelow hb,Or.inl ⟨1,_,Y.out,by decide,L,Ydc HK.out.size hL,rfl,hB⟩⟩
   ·rw[hr]at C0;have Y:Box (Zmr t x p= .ok (v,x,q)):=⟨by unfold Zmr;rw[E.out];simp[hr]⟩;go_wp2_with (go_at_call 230;refine(C0.out _).mono ?_;rintro e w' ⟨rfl,rfl⟩)
    go_ret
    exact⟨HK.out,Or.inr ⟨_,v,x,q,Y.out,rfl,⟨by simp,hr,hv4⟩,HR.out⟩⟩
end Go.P
namespace Go.W
variable {t:ByteArray}{x:Tk}{p:Nat}
def Zfm:List (Nat×Nat):=[(34,34),(92,92),(110,10),(116,9),(114,13)]
def Z13 (t:ByteArray) (x:Tk) (p:Nat):Except (Int×Nat) (Nat×Tk×Nat):=match Zfm.find? (fun y=>decide (y.1=(Zac t).getD p 0))with
 | some y=> .ok (y.2,x,p+1)
 | none=>if(Zac t).getD p 0=117 then Zmr t x (p+1)else .error (1,x.at_)
theorem Ybc {k:Nat}{y:Nat×Nat}(hk:Zfm[k]?=some y)(h0: ∀ j y',j < k->Zfm[j]?=some y'->y'.1≠(Zac t).getD p 0)(h1:y.1=(Zac t).getD p 0):Z13 t x p= .ok (y.2,x,p+1):=by
 have:Zfm.find? (fun y=>decide (y.1=(Zac t).getD p 0))=some y:=by
  rw[List.find?_eq_some_iff_getElem];refine⟨Yfj h1,k,(Ydl.1 hk).1,(Ydl.1 hk).2,?_⟩;intro j hj;rw[Yfg (h0 j _ hj (Ydi _))];rfl
 unfold Z13;rw[this]
theorem Ybd (h0: ∀ j y',j < 5->Zfm[j]?=some y'->y'.1≠(Zac t).getD p 0):Z13 t x p=if(Zac t).getD p 0=117 then Zmr t x (p+1)else .error (1,x.at_):=by
 have:Zfm.find? (fun y=>decide (y.1=(Zac t).getD p 0))=none:=by
  rw[List.find?_eq_none];intro m hm;obtain⟨j,hj,rfl⟩:=List.getElem_of_mem hm;rw[Yfg (h0 j _ hj (Ydi _))];simp
 unfold Z13;rw[this]
theorem Z09 {m:Nat}(h:m < 128):Lib.validRune (m:Int)=true:=by
 simp[Lib.validRune];omega
theorem Zr6 {q:Nat}(h:(Zac t).getD q 0≠0):q < t.size:=by
 rcases Ye3 q t.size with g | g
 ·exact g
 ·exact absurd (by simp[List.getD,Zbm,g]) h
end Go.W
namespace Go.P
variable {a:Nat->Addr}{w:World}{b p:Nat}{t:ByteArray}{x:Tk}
theorem Zao.esc (h:Zao a w)(i:Nat)(c:Nat)(hs:Ycd[i]?=some c):w.cell? ⟨14,i,none⟩=some (.int .u8 (c:Int)):=by
 obtain⟨_,h0,h1⟩:=h;exact(h1 _ _ (by decide)).2.trans (h0.esc i c hs)
theorem Z6c (k:Nat)(h:k < 5): ∃ y:Nat×Nat,Zfm[k]?=some y/\y.1≠0/\y.1 < 128/\y.2 < 128/\ ∀ w,(Instr.index 300 (.agg #[.int .u8 34,.int .u8 34,.int .u8 92,.int .u8 92,.int .u8 110,.int .u8 10,.int .u8 116,.int .u8 9,.int .u8 114,.int .u8 13]) (.int .i64 (k:Int))).run prog w= .ok (.agg #[.int .u8 (y.1:Int),.int .u8 (y.2:Int)]) w:=by
 have g:k=0\/k=1\/k=2\/k=3\/k=4:=by omega
 rcases g with rfl | rfl | rfl | rfl | rfl;all_goals exact⟨_,rfl,by decide,by decide,by decide,fun _=>by kernel_rfl⟩
theorem Rd.alloc (h:Rd w b t p x)(o:Obj):Rd (w.alloc o) b t p x:=⟨h.1.alloc o,h.2⟩
def Yai (b:Nat) (w:World) (t:ByteArray) (p:Nat) (x:Tk) (iv:Value) (wr:World):Prop:= ∃ k:Nat,k<=5/\iv= .int .i64 (k:Int)/\Rd wr b t p x/\Zah b w wr/\ ∀ j y',j < k->Zfm[j]?=some y'->y'.1≠(Zac t).getD p 0
theorem Zp2 (Z:Zao a w)(h:Rd w b t p x):
  Calls prog 169 #[.pointer (some ⟨b,0,none⟩)] w (Ze6 a b t (fun _ v (y:Nat)=>v= .int .i32 (y:Int)/\Lib.validRune (y:Int)=true/\y < 65536) w (Z13 t x p)):=by
 have hg:=h.2.2.2;have m0:=Z.esc 0 _ rfl;have m1:=Z.esc 1 _ rfl;have m2:=Z.esc 2 _ rfl;have m3:=Z.esc 3 _ rfl;have m4:=Z.esc 4 _ rfl;have m5:=Z.esc 5 _ rfl;have m6:=Z.esc 6 _ rfl;have m7:=Z.esc 7 _ rfl;have m8:=Z.esc 8 _ rfl;have m9:=Z.esc 9 _ rfl;go_in
 go_wp2_with fail
 clear m0 m1 m2 m3 m4 m5 m6 m7 m8 m9;go_loopw [6] (fun iv wr=>Yai b w t p x iv wr) (fun iv _=>5 - Zyz iv)
 case atStart=>exact⟨0,by omega,rfl,h,Zah.refl _ _,fun j _ hj=>absurd hj (by omega)⟩
 case round=>
  obtain⟨k,hk,rfl,hR,hK,hall⟩:=hrel;have HR:=Zaa hR;have HK:=Zaa hK;have ZA:=Zaa (Z.keeps hK hg);have A:=Zaa hall;have hbl:=hR.1.lt;clear hall hR hK Z h;by_cases hlt:k < 5
  ·obtain⟨y,hy,y0,y1,y2,ik⟩:=Z6c k hlt;have g:(k:Int) < 5:=by omega
   have CP:=Zaa (fun n=>Zwy ((HR.out.alloc (.cells #[.int .u8 (y.1:Int),.int .u8 (y.2:Int)] 299)).dr n));have BL:=Zaa (Blk.new wr #[.int .u8 (y.1:Int),.int .u8 (y.2:Int)] 299);have l0:(wr.alloc (.cells #[.int .u8 (y.1:Int),.int .u8 (y.2:Int)] 299)).cell? ⟨wr.heap.size,0,none⟩=some (.int .u8 (y.1:Int)):=BL.out.two.1;have l1:(wr.alloc (.cells #[.int .u8 (y.1:Int),.int .u8 (y.2:Int)] 299)).cell? ⟨wr.heap.size,1,none⟩=some (.int .u8 (y.2:Int)):=BL.out.two.2.1;have HRa:=Zaa (HR.out.alloc (.cells #[.int .u8 (y.1:Int),.int .u8 (y.2:Int)] 299));obtain⟨c0,c1,-,-,-,-,-,-,sf⟩:=HRa.out.1.eight;have hb8:=HR.out.2.1;have GI:=Zaa (Zr6 (t:=t) (q:=p));have E:=Zaa (fun(h1:y.1=(Zac t).getD p 0)=>Ybc (x:=x) hy A.out h1);have NX:=Zaa (fun(h1:y.1≠(Zac t).getD p 0)=>(fun j y' hj hy'=>by
    by_cases hjk:j=k
    ·subst hjk;rw[hy]at hy';cases hy';exact h1
    ·exact A.out j y' (by omega) hy': ∀ j y',j < k+1->Zfm[j]?=some y'->y'.1≠(Zac t).getD p 0))
   clear A hy;obtain⟨l,m⟩:=y;simp only at y0 y1 y2 ik CP BL l0 l1 HRa c0 c1 sf E NX;generalize hc:(Zac t).getD p 0=c at*;by_cases he:l=c
   ·have g2:((l:Int)==(c:Int))=true:=by rw[Yfb];omega
    have Y:=Zaa (E.out he);have hp:=GI.out (by omega);clear E NX GI he hc;go_wp2
    go_quiet ((go_at_call 164;exact Calls.quiet_of (CP.out _)))
    go_wp2
    go_ret
    exact⟨((HK.out.alloc _).dr _).set _ _,Or.inr ⟨_,m,x,p+1,Y.out,rfl,⟨by simp,Z09 y2,by omega⟩,(HRa.out.dr _).next hp⟩⟩
   ·have g2:((l:Int)==(c:Int))=false:=by rw[Ye4];omega
    have NN:=Zaa (NX.out he);clear E NX GI he;go_wp2
    go_quiet ((go_at_call 164;exact Calls.quiet_of (CP.out _)))
    go_wp2
    exact⟨⟨k+1,by omega,by simp,HRa.out.dr _,(HK.out.alloc _).dr _,by rw[hc];exact NN.out⟩,by simp[Zyz];omega⟩
  ·obtain rfl:k=5:=by omega
   have Y:=Zaa (Ybd (x:=x) A.out);have CP:=Zaa (Zku HR.out);have GI:=Zaa (Zr6 (t:=t) (q:=p));generalize (Zac t).getD p 0=c at*;clear A;go_wp2_with fail
   refine mq CP.out ?_;rintro w1 hb;have hr1:=HR.out.of hb;have HR1:=Zaa hr1;have HK1:=Zaa (HK.out.ofBelow hb);have ZB:=Zaa (ZA.out.below hb);obtain⟨c0,c1,-,-,-,-,-,-,sf⟩:=hr1.1.eight;clear hb hr1;by_cases hu:c=117
   ·have g2:((c:Int) != 117)=false:=by rw[bne_eq_false_iff_eq];omega
    have Y2:=Zaa (Y.out.trans (if_pos hu));have hp:=GI.out (by omega);have hb8:=HR1.out.2.1;have CC:=Zaa (fun u (h1:Zao a u) (h2:Rd u b t (p+1) x)=>Zly h1 h2);clear Y GI hu;go_wp2_with fail
    refine(CC.out _ (ZB.out.keeps ((Zah.refl b w1).set _ _) hg) (HR1.out.next hp)).mono ?_;rintro e w3 ⟨hk3,⟨n,r,hy,hn,L,hL,rfl,hB⟩ | ⟨v,y,x2,r,hy,rfl,⟨rfl,hv⟩,hr3⟩⟩
    ·exact⟨rfl,(HK1.out.set _ _).trans hk3,Or.inl ⟨n,r,Y2.out.trans hy,hn,L,by have:=HK1.out.size;simp at hL;omega,rfl,hB⟩⟩
    ·have R:=Zaa (Yda ((HK1.out.set 1 (.int .i64 ((p:Int)+1))).trans hk3) (Yda (Y2.out.trans hy) hr3));clear hk3 hy hr3;go_wp2
     go_ret
     exact⟨R.out.1,Or.inr ⟨_,_,_,_,R.out.2.1,rfl,⟨by simp,hv⟩,R.out.2.2⟩⟩
   ·have g2:((c:Int) != 117)=true:=by rw[bne_iff_ne];omega
    have Y2:=Zaa (Y.out.trans (if_neg hu));have z1:=ZB.out.c1;have C1:=Zaa (Zbf a (n:=1) (by decide) HR1.out);clear Y GI hu;go_wp2_with fail
    refine C1.out.mono ?_;rintro e w2 ⟨⟨L,hL,rfl,hB⟩,hb⟩;exact⟨rfl,HK1.out.ofBelow hb,Or.inl ⟨1,_,Y2.out,by decide,L,Ydc HK1.out.size hL,rfl,hB⟩⟩
end Go.P
