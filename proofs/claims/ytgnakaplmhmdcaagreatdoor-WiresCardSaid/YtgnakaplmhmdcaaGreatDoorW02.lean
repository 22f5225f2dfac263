import Derived.Test.YtgnakaplmhmdcaaGreatDoorW01
import Derived.Lib.AppendZerosOnto
set_option maxRecDepth 100000
set_option maxHeartbeats 8000000
open Go.Proofs Go.RowKit Go.W
namespace Go.W
variable {s n y k:Nat}{w:World}{v:Value}{cs:List Value}{P:Program}{tx:TypeId}{z:Option Value}{xs:List (Nat×List Value)}{x:Nat×List Value}
def Ztr (s:Nat) (w:World) (v:Value) (n:Nat) (cs:List Value):Prop:= ∃ p c,v= .slice p n c/\n < 1000000/\cs.length=n*s/\(∀ u∈cs,u.oneCell'=true)/\(∀ a,p=some a-> ∀ j u,cs[j]?=some u->a.block < w.heap.size/\w.cell? (a.add j)=some u)/\(p=none->n=0)
theorem Ztr.below {u:World}(h:Ztr s w v n cs)(hb:Below w.heap.size w u):Ztr s u v n cs:=by
 obtain⟨p,c,h0,h1,h2,h3,h4,h5⟩:=h;refine⟨p,c,h0,h1,h2,h3,fun a ha j u hj=>⟨Ycz (h4 a ha j u hj).1 hb.size,?_⟩,h5⟩;have e:(a.add j).block=a.block:=by unfold Addr.add;split <;> rfl
 exact(hb.cell (p:=a.add j) (by rw[e];exact(h4 a ha j u hj).1)).trans (h4 a ha j u hj).2
theorem Ztr.src {e':TypeId}(h:Ztr s w v n cs)(hk:P.underlying tx=some (.slice e')):Src P s tx v n cs w:=by
 obtain⟨p,c,rfl,h1,h2,h3,h4,h5⟩:=h;cases p with
 | none=>
  obtain rfl:=h5 rfl;obtain rfl:cs=[]:=Yda (by simpa using h2);exact Src.ofNil w hk c
 | some a=>exact Src.ofSlice w hk a n c cs h2 (fun j u hj=>(h4 a rfl j u hj).2) h3
theorem Z2o {e:TypeId}(h:(P.info? e).map (fun i=>(i.zero,i.size,i.bytes))=some (z,s,y)): ∃ i,P.info? e=some i/\i.zero=z/\i.size=s/\i.bytes=y:=by
 obtain⟨i,hi,he⟩:=Ydi.1 h;simp at he;exact⟨i,hi,he.1,he.2.1,he.2.2⟩
theorem Zsb (w:World)(t tn e:TypeId)(z:Value)(s y:Nat)(ht:P.underlying t=some (.slice e))(htn:P.underlying tn=some (.int .i64))(hi:(P.info? e).map (fun i=>(i.zero,i.size,i.bytes))=some (some z,s,y))(hzs:z.cells.size=s)(hs:0 < s)(hb:y<=1000)(n:Nat)(h0:0 < n)(hn:n < 1000000000):
  ∃ cap cells,n<=cap/\cells.size=cap*s/\ ∀ ty,(Builtin.append_ #[t,tn] ty #[.slice none 0 0,.int .i64 (n:Int)]).run P w= .ok (.slice (some ⟨w.heap.size,0,none⟩) n cap) (w.drew.alloc (.cells cells e)):=by
 obtain⟨i,h9,hz,rfl,rfl⟩:=Z2o hi;clear hi;have hi:=h9;have hge:=grownCap_ge w (0+n) 0 e;refine⟨grownCap w (0+n) 0 e,Builtin.zeroCells z.cells n++Builtin.zeroCells z.cells (grownCap w (0+n) 0 e - (0+n)),by omega,?_,fun ty=>?_⟩
 ·rw[Array.size_append,size_zeroCells,size_zeroCells,hzs,<- Nat.add_mul];congr 1
  omega
 ·have:=Lib.run_append_grow_zeros (P:=P) w t tn ty e i z .i64 .i64 ht htn hi hz none 0 0 [] (run_firstCells_none w.drew i.size 0 0 0) n h0 hs (by omega) (by omega) (by have:=Nat.mul_le_mul (Nat.le_of_lt hn) hb;omega) (growslice_fits (by omega) (by have:=Nat.mul_le_mul (show 0+n<=1000000000 by omega) hb;omega))
  simpa using this
theorem Z6y (w:World)(t tx e:TypeId)(i:TypeInfo)(ht:P.underlying t=some (.slice e))(hi:P.info? e=some i)(g sLen sCap:Nat)(cur:Array Value)(hg:w.heap[g]?=some (.cells cur e (0,0)))(x:Value)(n:Nat)(news:List Value)(hs:Src P i.size tx x n news w)(hroom:sLen+n<=sCap)(hfit:sLen*i.size+news.length<=cur.size)(ty:TypeId):
  (Builtin.append_ #[t,tx] ty #[.slice (some ⟨g,0,none⟩) sLen sCap,x]).run P w= .ok (.slice (some ⟨g,0,none⟩) (sLen+n) sCap) (w.setRow g (cur.toList.take (sLen*i.size)++news++cur.toList.drop (sLen*i.size+news.length)).toArray):=by
 have hst:=run_storeCells_at P g (sLen*i.size) e news 0 cur w hg (by simpa using hfit) hs.one;simp only[Yeg]at hst;rcases hs.kind with⟨e',hk⟩ | hk <;> simp[Builtin.append_,run_underlying ht,run_underlying hk,sizeOf,typeInfo,hi,hs.len,hroom,hs.cells,Addr.add_lit,hst]
def Zfv (xs:List (Nat×List Value)):Nat:=xs.foldr (fun x s=>x.1+s) 0
def Zpu (xs:List (Nat×List Value)):List Value:=xs.flatMap (·.2)
theorem Zm4 (xs ys:List (Nat×List Value)):Zfv (xs++ys)=Zfv xs+Zfv ys:=by
 induction xs with
 | nil=>simp[Zfv]
 | cons x xs ih=>simp only[Zfv,Ydd,List.foldr_cons]at ih⊢;omega
theorem Zd9 (h:xs[k]?=some x):Zfv (xs.take (k+1))=Zfv (xs.take k)+x.1/\Zfv (xs.take k)+x.1<=Zfv xs:=by
 have e1:xs.take (k+1)=xs.take k++[x]:=by rw[Yea,h];rfl
 have e2:Zfv (xs.take (k+1))=Zfv (xs.take k)+x.1:=by rw[e1,Zm4];simp[Zfv]
 refine⟨e2,?_⟩;rw[<- e2]
 have:=Zm4 (xs.take (k+1)) (xs.drop (k+1))
 rw[List.take_append_drop]at this;omega
theorem Zlj (h:xs[k]?=some x):Zpu (xs.take (k+1))=Zpu (xs.take k)++x.2:=by
 have e1:xs.take (k+1)=xs.take k++[x]:=by rw[Yea,h];rfl
 rw[e1];simp[Zpu]
def Zin (E s:Nat) (w:World) (nv:Value) (done:List Value) (m total:Nat) (wr:World):Prop:=Below w.heap.size w wr/\done.length=m*s/\((total=0/\m=0/\nv= .slice none 0 0/\done=[])\/ ∃ cap vs,total<=cap/\nv= .slice (some ⟨w.heap.size,0,none⟩) m cap/\Blk wr w.heap.size vs E/\vs.size=cap*s/\vs.toList.take done.length=done)
theorem Zin.step {E m total:Nat}{wr:World}{nv x:Value}{done news:List Value}{t:TypeId}(ht:P.underlying t=some (.slice E))(hi:(P.info? E).map (fun i=>(i.zero,i.size,i.bytes))=some (z,s,y))(h:Zin E s w nv done m total wr)(hs:Src P s tx x n news wr)(hle:m+n<=total): ∃ nv' wr',(∀ ty,(Builtin.append_ #[t,tx] ty #[nv,x]).run P wr= .ok nv' wr')/\Zin E s w nv' (done++news) (m+n) total wr':=by
 obtain⟨i,h9,_,rfl,_⟩:=Z2o hi;clear hi;have hi:=h9;obtain⟨hb,hd,h⟩:=h;have hnl:=hs.newsLen;rcases h with⟨rfl,rfl,rfl,rfl⟩ | ⟨cap,vs,hc,rfl,hB,hvs,htk⟩
 ·obtain rfl:n=0:=by omega
  obtain rfl:news=[]:=Yda (by simpa using hnl);exact⟨_,_,fun ty=>by rcases hs.kind with⟨e',hk⟩ | hk <;> simp[Builtin.append_,run_underlying ht,run_underlying hk,sizeOf,typeInfo,hi,hs.len,hs.cells],hb,by simp,Or.inl ⟨rfl,rfl,rfl,rfl⟩⟩
 ·have hfit:m*i.size+news.length<=vs.size:=by
   rw[hvs,hnl,<- Nat.add_mul];exact Nat.mul_le_mul_right _ (by omega)
  refine⟨_,_,fun ty=>Z6y wr t tx E i ht hi w.heap.size m cap vs hB x n news hs (by omega) hfit ty,?_,by rw[Ydy,hd,hnl,Nat.add_mul],Or.inr ⟨cap,_,hc,rfl,setRow_heap wr _ vs _ _ _ hB,?_,?_⟩⟩
  ·exact⟨hb.os,hb.tape,hb.output,by rw[setRow_size];exact hb.size,fun j hj=>(setRow_other _ _ j _ (by omega)).trans (hb.block j hj)⟩
  ·simp[<- hvs];omega
  ·have:m*i.size=done.length:=hd.symm
   rw[this,htk];show List.take (done++news).length ((done++news)++_)=_;exact List.take_left
end Go.W
namespace Go.P
variable {w:World}{b o c:Nat}{xs:List (Nat×List Value)}
theorem Zsn:(Tryz.prog.info? 9).map (fun i=>(i.zero,i.size,i.bytes))=some (some (.string ⟨#[]⟩),1,16):=by kernel_rfl
def Zxd (w:World) (xs:List (Nat×List Value)) (iv sv:Value) (wr:World):Prop:= ∃ k:Nat,k<=xs.length/\iv= .int .i64 (k:Int)/\sv= .int .i64 (Zfv (xs.take k):Int)/\wr=w
def Z1y (E s:Nat) (w:World) (xs:List (Nat×List Value)) (iv nv:Value) (wr:World):Prop:= ∃ k:Nat,k<=xs.length/\iv= .int .i64 (k:Int)/\Zin E s w nv (Zpu (xs.take k)) (Zfv (xs.take k)) (Zfv xs) wr
theorem Z54 (n:Nat)(hn:n < 1000000000)(w:World):Calls Tryz.prog 141 #[.slice none 0 0,.int .i64 (n:Int)] w fun e w'=> ∃ nv,e= .returned nv/\Zin 9 1 w nv [] 0 n w':=by
 have h1: ¬ ((n:Int) < 0):=by omega
 by_cases h0:n=0
 ·subst h0;go_enter Tryz.func141,Tryz.ntmps141
  go_wp2_with fail
  go_ret
  exact⟨_,rfl,Yct _ w,rfl,Or.inl ⟨rfl,rfl,rfl,rfl⟩⟩
 ·have h3:wrap64 ((n:Int) - 0)=(n:Int):=by unfold wrap64;omega
  have h4:(n:Int) > 0:=by omega
  obtain⟨cap,cells,hc,hs,hrun⟩:=Zsb (P:=Tryz.prog) w 29 3 9 _ 1 16 Tryz.underlying29 Tryz.underlying3 Zsn rfl (by decide) (by decide) n (by omega) hn;have H:=Zaa (Ycs hc hs);clear hc hs;go_enter Tryz.func141,Tryz.ntmps141
  go_wp2_with (at_builtin;refine Lib.wpList_append_run _ rfl _ _ _ _ rfl _ _ rfl rfl _ _ (hrun _) ?_)
  go_ret
  exact⟨_,rfl,(Yct _ w).drew.alloc lr _,rfl,Or.inr ⟨cap,cells,H.out.1,rfl,Blk.new _ _ _,H.out.2,rfl⟩⟩
theorem Z00 (hX: ∀ i x,xs[i]?=some x->b < w.heap.size/\ ∃ v,w.cell? ⟨b,o+i,none⟩=some v/\Ztr 1 w v x.1 x.2)(hl:xs.length < 1000000)(hs:Zfv xs < 1000000000):Calls Tryz.prog 86 #[.slice (some ⟨b,o,none⟩) xs.length c] w fun e w'=> ∃ nv,e= .returned nv/\Zin 9 1 w nv (Zpu xs) (Zfv xs) (Zfv xs) w':=by
 obtain⟨n,hn⟩: ∃ n,xs.length=n:=⟨_,rfl⟩;rw[hn];have HX:=Zaa hX;have HN:=Zaa hn;have HS:=Zaa hs;have CG:=Zaa (Z54 (Zfv xs) hs w);clear hX hn hs;go_enter Tryz.func86,Tryz.ntmps86
 go_wp2_with fail
 go_loopw [11,3] (fun iv sv wr=>Zxd w xs iv sv wr) (fun iv _ _=>xs.length - (intOf iv).toNat)
 case atStart=>exact⟨0,by omega,rfl,rfl,rfl⟩
 case round=>
  obtain⟨k,hk,rfl,rfl,hw⟩:=hrel;obtain rfl:=hw.symm;by_cases hlt:k < n
  ·have g:(k:Int) < (n:Int):=by omega
   obtain⟨x,hx⟩: ∃ x,xs[k]?=some x:=⟨xs[k]'(by have:=HN.out;omega),Yc0 _⟩;obtain⟨hbw,v,hc,hv⟩:=HX.out k x hx;obtain⟨p,c1,rfl,hn1,hr⟩:=hv;have ht:=Zd9 hx;have hS:=HS.out;have E:=Zaa ht;have e1:wrap64 ((Zfv (xs.take k):Int)+(x.1:Int))=((Zfv (xs.take k)+x.1:Nat):Int):=by unfold wrap64;omega
   have e2: ¬ (((Zfv (xs.take k)+x.1:Nat):Int) < 0):=Int.not_lt.2 (Int.natCast_nonneg _);clear hx ht hS hr;go_wp2_with fail
   rw[e1,<- E.out.1];exact⟨⟨k+1,by have:=HN.out;omega,by simp,rfl,rfl⟩,by simp[intOf];have:=HN.out;omega⟩
  ·obtain rfl:k=n:=by have:=HN.out;omega
   rw[<- HN.out,Yd2,HN.out];go_wp2_with fail
   refine CG.out.mono ?_;rintro e w2 ⟨nv,rfl,hC⟩;have H2:=Zaa hC;clear hC CG;obtain⟨tot,htot⟩: ∃ tot,Zfv xs=tot:=⟨_,rfl⟩;rw[htot]at H2⊢;go_wp2_with fail
   go_loopw [27,6] (fun iv nv wr=>Z1y 9 1 w xs iv nv wr) (fun iv _ _=>xs.length - (intOf iv).toNat)
   case atStart=>exact⟨0,by omega,rfl,by rw[htot];exact H2.out⟩
   case round=>
    clear H2;obtain⟨j,hj,rfl,hC⟩:=hrel;by_cases hlt:j < k
    ·have g:(j:Int) < (k:Int):=by omega
     obtain⟨x,hx⟩: ∃ x,xs[j]?=some x:=⟨xs[j]'(by have:=HN.out;omega),Yc0 _⟩;obtain⟨hbw,v,hc,hv⟩:=HX.out j x hx;have hc':=(hC.1.cell hbw).trans hc;obtain⟨nv',w4,hrun,hC'⟩:=hC.step (t:=29) (tx:=29) Tryz.underlying29 Zsn ((hv.below hC.1).src Tryz.underlying29) (Zd9 hx).2;rw[<- (Zd9 hx).1,<- Zlj hx]at hC';obtain⟨p,c1,rfl,hn1,hr⟩:=hv;have H4:=Zaa hC';have hrun:=Zaa hrun;clear hC hc hC' hx hr;go_wp2_with (at_builtin;refine Lib.wpList_append_run _ rfl _ _ _ _ rfl _ _ rfl rfl _ _ (hrun.out _) ?_)
     exact⟨⟨j+1,by have:=HN.out;omega,by simp,H4.out⟩,by simp[intOf];have:=HN.out;omega⟩
    ·obtain rfl:j=k:=by have:=HN.out;omega
     have H4:=Zaa hC;clear hC;go_wp2_with fail
     go_ret
     have:=H4.out
     rw[<- HN.out,Yd2]at this;exact⟨u6,rfl,this⟩
theorem Z4c (n:Nat)(hn:n < 1000000000)(w:World):Calls Tryz.prog 217 #[.slice none 0 0,.int .i64 (n:Int)] w fun e w'=> ∃ nv,e= .returned nv/\Zin 98 2 w nv [] 0 n w':=by
 have h1: ¬ ((n:Int) < 0):=by omega
 by_cases h0:n=0
 ·subst h0;go_enter Tryz.func217,Tryz.ntmps217
  go_wp2_with fail
  go_ret
  exact⟨_,rfl,Yct _ w,rfl,Or.inl ⟨rfl,rfl,rfl,rfl⟩⟩
 ·have h3:wrap64 ((n:Int) - 0)=(n:Int):=by unfold wrap64;omega
  have h4:(n:Int) > 0:=by omega
  obtain⟨cap,cells,hc,hs,hrun⟩:=Zsb (P:=Tryz.prog) w 34 3 98 _ 2 40 Tryz.underlying34 Tryz.underlying3 Zm8 rfl (by decide) (by decide) n (by omega) hn;have H:=Zaa (Ycs hc hs);clear hc hs;go_enter Tryz.func217,Tryz.ntmps217
  go_wp2_with (at_builtin;refine Lib.wpList_append_run _ rfl _ _ _ _ rfl _ _ rfl rfl _ _ (hrun _) ?_)
  go_ret
  exact⟨_,rfl,(Yct _ w).drew.alloc lr _,rfl,Or.inr ⟨cap,cells,H.out.1,rfl,Blk.new _ _ _,H.out.2,rfl⟩⟩
theorem Zwm (hX: ∀ i x,xs[i]?=some x->b < w.heap.size/\ ∃ v,w.cell? ⟨b,o+i,none⟩=some v/\Ztr 2 w v x.1 x.2)(hl:xs.length < 1000000)(hs:Zfv xs < 1000000000):Calls Tryz.prog 192 #[.slice (some ⟨b,o,none⟩) xs.length c] w fun e w'=> ∃ nv,e= .returned nv/\Zin 98 2 w nv (Zpu xs) (Zfv xs) (Zfv xs) w':=by
 obtain⟨n,hn⟩: ∃ n,xs.length=n:=⟨_,rfl⟩;rw[hn];have HX:=Zaa hX;have HN:=Zaa hn;have HS:=Zaa hs;have CG:=Zaa (Z4c (Zfv xs) hs w);clear hX hn hs;go_enter Tryz.func192,Tryz.ntmps192
 go_wp2_with fail
 go_loopw [11,3] (fun iv sv wr=>Zxd w xs iv sv wr) (fun iv _ _=>xs.length - (intOf iv).toNat)
 case atStart=>exact⟨0,by omega,rfl,rfl,rfl⟩
 case round=>
  obtain⟨k,hk,rfl,rfl,hw⟩:=hrel;obtain rfl:=hw.symm;by_cases hlt:k < n
  ·have g:(k:Int) < (n:Int):=by omega
   obtain⟨x,hx⟩: ∃ x,xs[k]?=some x:=⟨xs[k]'(by have:=HN.out;omega),Yc0 _⟩;obtain⟨hbw,v,hc,hv⟩:=HX.out k x hx;obtain⟨p,c1,rfl,hn1,hr⟩:=hv;have ht:=Zd9 hx;have hS:=HS.out;have E:=Zaa ht;have e1:wrap64 ((Zfv (xs.take k):Int)+(x.1:Int))=((Zfv (xs.take k)+x.1:Nat):Int):=by unfold wrap64;omega
   have e2: ¬ (((Zfv (xs.take k)+x.1:Nat):Int) < 0):=Int.not_lt.2 (Int.natCast_nonneg _);clear hx ht hS hr;go_wp2_with fail
   rw[e1,<- E.out.1];exact⟨⟨k+1,by have:=HN.out;omega,by simp,rfl,rfl⟩,by simp[intOf];have:=HN.out;omega⟩
  ·obtain rfl:k=n:=by have:=HN.out;omega
   rw[<- HN.out,Yd2,HN.out];go_wp2_with fail
   refine CG.out.mono ?_;rintro e w2 ⟨nv,rfl,hC⟩;have H2:=Zaa hC;clear hC CG;obtain⟨tot,htot⟩: ∃ tot,Zfv xs=tot:=⟨_,rfl⟩;rw[htot]at H2⊢;go_wp2_with fail
   go_loopw [27,6] (fun iv nv wr=>Z1y 98 2 w xs iv nv wr) (fun iv _ _=>xs.length - (intOf iv).toNat)
   case atStart=>exact⟨0,by omega,rfl,by rw[htot];exact H2.out⟩
   case round=>
    clear H2;obtain⟨j,hj,rfl,hC⟩:=hrel;by_cases hlt:j < k
    ·have g:(j:Int) < (k:Int):=by omega
     obtain⟨x,hx⟩: ∃ x,xs[j]?=some x:=⟨xs[j]'(by have:=HN.out;omega),Yc0 _⟩;obtain⟨hbw,v,hc,hv⟩:=HX.out j x hx;have hc':=(hC.1.cell hbw).trans hc;obtain⟨nv',w4,hrun,hC'⟩:=hC.step (t:=34) (tx:=34) Tryz.underlying34 Zm8 ((hv.below hC.1).src Tryz.underlying34) (Zd9 hx).2;rw[<- (Zd9 hx).1,<- Zlj hx]at hC';obtain⟨p,c1,rfl,hn1,hr⟩:=hv;have H4:=Zaa hC';have hrun:=Zaa hrun;clear hC hc hC' hx hr;go_wp2_with (at_builtin;refine Lib.wpList_append_run _ rfl _ _ _ _ rfl _ _ rfl rfl _ _ (hrun.out _) ?_)
     exact⟨⟨j+1,by have:=HN.out;omega,by simp,H4.out⟩,by simp[intOf];have:=HN.out;omega⟩
    ·obtain rfl:j=k:=by have:=HN.out;omega
     have H4:=Zaa hC;clear hC;go_wp2_with fail
     go_ret
     have:=H4.out
     rw[<- HN.out,Yd2]at this;exact⟨u6,rfl,this⟩
theorem Z3g (n:Nat)(hn:n < 1000000000)(w:World):Calls Tryz.prog 218 #[.slice none 0 0,.int .i64 (n:Int)] w fun e w'=> ∃ nv,e= .returned nv/\Zin 101 4 w nv [] 0 n w':=by
 have h1: ¬ ((n:Int) < 0):=by omega
 by_cases h0:n=0
 ·subst h0;go_enter Tryz.func218,Tryz.ntmps218
  go_wp2_with fail
  go_ret
  exact⟨_,rfl,Yct _ w,rfl,Or.inl ⟨rfl,rfl,rfl,rfl⟩⟩
 ·have h3:wrap64 ((n:Int) - 0)=(n:Int):=by unfold wrap64;omega
  have h4:(n:Int) > 0:=by omega
  obtain⟨cap,cells,hc,hs,hrun⟩:=Zsb (P:=Tryz.prog) w 35 3 101 _ 4 88 Tryz.underlying35 Tryz.underlying3 Zon rfl (by decide) (by decide) n (by omega) hn;have H:=Zaa (Ycs hc hs);clear hc hs;go_enter Tryz.func218,Tryz.ntmps218
  go_wp2_with (at_builtin;refine Lib.wpList_append_run _ rfl _ _ _ _ rfl _ _ rfl rfl _ _ (hrun _) ?_)
  go_ret
  exact⟨_,rfl,(Yct _ w).drew.alloc lr _,rfl,Or.inr ⟨cap,cells,H.out.1,rfl,Blk.new _ _ _,H.out.2,rfl⟩⟩
theorem Zxc (hX: ∀ i x,xs[i]?=some x->b < w.heap.size/\ ∃ v,w.cell? ⟨b,o+i,none⟩=some v/\Ztr 4 w v x.1 x.2)(hl:xs.length < 1000000)(hs:Zfv xs < 1000000000):Calls Tryz.prog 193 #[.slice (some ⟨b,o,none⟩) xs.length c] w fun e w'=> ∃ nv,e= .returned nv/\Zin 101 4 w nv (Zpu xs) (Zfv xs) (Zfv xs) w':=by
 obtain⟨n,hn⟩: ∃ n,xs.length=n:=⟨_,rfl⟩;rw[hn];have HX:=Zaa hX;have HN:=Zaa hn;have HS:=Zaa hs;have CG:=Zaa (Z3g (Zfv xs) hs w);clear hX hn hs;go_enter Tryz.func193,Tryz.ntmps193
 go_wp2_with fail
 go_loopw [11,3] (fun iv sv wr=>Zxd w xs iv sv wr) (fun iv _ _=>xs.length - (intOf iv).toNat)
 case atStart=>exact⟨0,by omega,rfl,rfl,rfl⟩
 case round=>
  obtain⟨k,hk,rfl,rfl,hw⟩:=hrel;obtain rfl:=hw.symm;by_cases hlt:k < n
  ·have g:(k:Int) < (n:Int):=by omega
   obtain⟨x,hx⟩: ∃ x,xs[k]?=some x:=⟨xs[k]'(by have:=HN.out;omega),Yc0 _⟩;obtain⟨hbw,v,hc,hv⟩:=HX.out k x hx;obtain⟨p,c1,rfl,hn1,hr⟩:=hv;have ht:=Zd9 hx;have hS:=HS.out;have E:=Zaa ht;have e1:wrap64 ((Zfv (xs.take k):Int)+(x.1:Int))=((Zfv (xs.take k)+x.1:Nat):Int):=by unfold wrap64;omega
   have e2: ¬ (((Zfv (xs.take k)+x.1:Nat):Int) < 0):=Int.not_lt.2 (Int.natCast_nonneg _);clear hx ht hS hr;go_wp2_with fail
   rw[e1,<- E.out.1];exact⟨⟨k+1,by have:=HN.out;omega,by simp,rfl,rfl⟩,by simp[intOf];have:=HN.out;omega⟩
  ·obtain rfl:k=n:=by have:=HN.out;omega
   rw[<- HN.out,Yd2,HN.out];go_wp2_with fail
   refine CG.out.mono ?_;rintro e w2 ⟨nv,rfl,hC⟩;have H2:=Zaa hC;clear hC CG;obtain⟨tot,htot⟩: ∃ tot,Zfv xs=tot:=⟨_,rfl⟩;rw[htot]at H2⊢;go_wp2_with fail
   go_loopw [27,6] (fun iv nv wr=>Z1y 101 4 w xs iv nv wr) (fun iv _ _=>xs.length - (intOf iv).toNat)
   case atStart=>exact⟨0,by omega,rfl,by rw[htot];exact H2.out⟩
   case round=>
    clear H2;obtain⟨j,hj,rfl,hC⟩:=hrel;by_cases hlt:j < k
    ·have g:(j:Int) < (k:Int):=by omega
     obtain⟨x,hx⟩: ∃ x,xs[j]?=some x:=⟨xs[j]'(by have:=HN.out;omega),Yc0 _⟩;obtain⟨hbw,v,hc,hv⟩:=HX.out j x hx;have hc':=(hC.1.cell hbw).trans hc;obtain⟨nv',w4,hrun,hC'⟩:=hC.step (t:=35) (tx:=35) Tryz.underlying35 Zon ((hv.below hC.1).src Tryz.underlying35) (Zd9 hx).2;rw[<- (Zd9 hx).1,<- Zlj hx]at hC';obtain⟨p,c1,rfl,hn1,hr⟩:=hv;have H4:=Zaa hC';have hrun:=Zaa hrun;clear hC hc hC' hx hr;go_wp2_with (at_builtin;refine Lib.wpList_append_run _ rfl _ _ _ _ rfl _ _ rfl rfl _ _ (hrun.out _) ?_)
     exact⟨⟨j+1,by have:=HN.out;omega,by simp,H4.out⟩,by simp[intOf];have:=HN.out;omega⟩
    ·obtain rfl:j=k:=by have:=HN.out;omega
     have H4:=Zaa hC;clear hC;go_wp2_with fail
     go_ret
     have:=H4.out
     rw[<- HN.out,Yd2]at this;exact⟨u6,rfl,this⟩
end Go.P
namespace Go.W
variable {s:Nat}
theorem Zyt: ∀ (vss:List (List Value)),(∀ v,v∈vss->v.length=s)-> ∀ j u,vss.flatten[j]?=some u-> ∃ i r v,j=i*s+r/\vss[i]?=some v/\v[r]?=some u
 | [],_,j,u,h=>by simp at h
 | v::l,hv,j,u,h=>by
  have h0:=hv v (by simp);rw[List.flatten_cons]at h;by_cases hj:j < v.length
  ·rw[Ydm hj]at h;exact⟨0,j,v,by simp,by simp,h⟩
  ·rw[Ydj (by omega)]at h;obtain⟨i,r,v',e,h1,h2⟩:=Zyt l (fun v hm=>hv v (by simp[hm])) _ _ h;exact⟨i+1,r,v',by rw[Nat.succ_mul];omega,by simpa using h1,h2⟩
theorem Zxx: ∀ (vss:List (List Value)),(∀ v,v∈vss->v.length=s)-> ∀ i v r u,vss[i]?=some v->v[r]?=some u->vss.flatten[i*s+r]?=some u
 | [],_,i,v,r,u,h,_=>by simp at h
 | v0::l,hv,0,v,r,u,h,h2=>by
  simp at h;subst h;rw[List.flatten_cons,Yef,Ydp,Ydm (Yc3.1 h2).1];exact h2
 | v0::l,hv,i+1,v,r,u,h,h2=>by
  have h0:=hv v0 (by simp);rw[List.flatten_cons,Ydj (by rw[Nat.succ_mul];omega),show(i+1)*s+r - v0.length=i*s+r by rw[Nat.succ_mul];omega];exact Zxx l (fun v hm=>hv v (by simp[hm])) i v r u (by simpa using h) h2
theorem Zyk: ∀ (vss:List (List Value)),(∀ v,v∈vss->v.length=s)->vss.flatten.length=vss.length*s
 | [],_=>by simp
 | v::l,hv=>by rw[List.flatten_cons,Ydy,hv v (by simp),Zyk l fun v hm=>hv v (by simp[hm])];simp[Nat.succ_mul];omega
theorem Zu5 {α β:Type}{R:α->β->Prop}: ∀ (xs:List α),(∀ (i:Nat) x,xs[i]?=some x-> ∃ y,R x y)-> ∃ ys:List β,ys.length=xs.length/\ ∀ (i:Nat) x,xs[i]?=some x-> ∃ y,ys[i]?=some y/\R x y
 | [],_=>⟨[],rfl,fun i x h=>by simp at h⟩
 | x::l,h=>by
  obtain⟨y,hy⟩:=h 0 x rfl;obtain⟨ys,h1,h2⟩:=Zu5 l fun i z hz=>h (i+1) z (by simpa using hz);refine⟨y::ys,by simp[h1],fun i z hz=>?_⟩;cases i with
  | zero=>simp at hz;subst hz;exact⟨y,rfl,hy⟩
  | succ i=>simpa using h2 i z (by simpa using hz)
theorem Zao.sl {α:Type}{c:Nat}{w:World}{p:Option Addr}{Q:Nat->Nat->α->Prop}{S:List Value->α->Prop}{xs:List α}(h:Zao s Q p xs)(hv: ∀ b o x,Q b o x->b < w.heap.size/\ ∃ vs:List Value,(vs.length=s/\(∀ u,u∈vs->u.oneCell'=true)/\S vs x)/\ ∀ j u,vs[j]?=some u->w.cell? ⟨b,o+j,none⟩=some u)(hl:xs.length < 1000000)(hp:p=none->xs=[]): ∃ vss:List (List Value),vss.length=xs.length/\(∀ v,v∈vss->v.length=s)/\(∀ (i:Nat) x,xs[i]?=some x-> ∃ vs,vss[i]?=some vs/\S vs x)/\Ztr s w (.slice p xs.length c) xs.length vss.flatten:=by
 cases p with
 | none=>
  obtain rfl:=hp rfl;exact⟨[],rfl,fun _ h=>(by cases h),fun i x h=>(by simp at h),none,c,rfl,by simp,by simp,fun _ h=>(by simp at h),fun _ h=>(by cases h),fun _=>rfl⟩
 | some a=>
  by_cases h0:xs=[]
  ·subst h0;exact⟨[],rfl,fun _ h=>(by cases h),fun i x h=>(by simp at h),some a,c,rfl,by simp,by simp,fun _ h=>(by simp at h),fun _ _ j u h=>(by simp at h),fun h=>(by cases h)⟩
  ·obtain⟨x0,hx0⟩: ∃ x0,xs[0]?=some x0:=⟨_,Yc0 (List.length_pos_iff.2 h0)⟩;obtain⟨b,o,e,hq0⟩:=h.at_ 0 x0 hx0;injection e with e;subst e;have hb:=(hv _ _ _ hq0).1;obtain⟨ps,h1,h2⟩:=Zu5 (R:=fun(ix:Nat×α) (vs:List Value)=>(vs.length=s/\(∀ u,u∈vs->u.oneCell'=true)/\S vs ix.2)/\ ∀ j u,vs[j]?=some u->w.cell? ⟨b,o+ix.1*s+j,none⟩=some u) ((List.range xs.length).zip xs) fun i ix hix=>by
    obtain⟨h3,h4⟩:=List.getElem?_zip_eq_some.1 hix;obtain⟨b',o',e,hq⟩:=h.at_ i ix.2 h4;injection e with e;injection e with e1 e2;subst e1 e2
    have:ix.1=i:=by rw[List.getElem?_range (by have:=(Yc3.1 h4).1;omega)]at h3;injection h3 with h3;exact h3.symm
    rw[this];exact(hv _ _ _ hq).2
   have hps:ps.length=xs.length:=by rw[h1];simp
   have key: ∀ i v,ps[i]?=some v-> ∃ x,xs[i]?=some x/\(v.length=s/\(∀ u,u∈v->u.oneCell'=true)/\S v x)/\ ∀ j u,v[j]?=some u->w.cell? ⟨b,o+i*s+j,none⟩=some u:=fun i v hi=>by
    have hlt:i < xs.length:=by have:=(Yc3.1 hi).1;omega
    obtain⟨v',hv',hR,hcell⟩:=h2 i (i,xs[i]) (List.getElem?_zip_eq_some.2 ⟨List.getElem?_range hlt,Yc0 hlt⟩);rw[hi]at hv';injection hv' with hv';subst hv';exact⟨xs[i],Yc0 hlt,hR,hcell⟩
   have hlen: ∀ v,v∈ps->v.length=s:=fun v hm=>by
    obtain⟨i,hi⟩:=List.getElem?_of_mem hm;obtain⟨_,_,h3,_⟩:=key i v hi;exact h3.1
   refine⟨ps,hps,hlen,fun i x hx=>?_,some ⟨b,o,none⟩,c,rfl,hl,by rw[Zyk ps hlen,hps],fun u hu=>?_,fun a' e j u hj=>?_,fun h=>(by cases h)⟩
   ·have hlt:i < ps.length:=by have:=(Yc3.1 hx).1;omega
    obtain⟨x',hx',h3,_⟩:=key i _ (Yc0 hlt);rw[hx]at hx';injection hx' with hx';subst hx';exact⟨_,Yc0 hlt,h3.2.2⟩
   ·obtain⟨v,hv1,hv2⟩:=List.mem_flatten.1 hu;obtain⟨i,hi⟩:=List.getElem?_of_mem hv1;obtain⟨_,_,h3,_⟩:=key i v hi;exact h3.2.1 u hv2
   ·injection e with e;subst e;obtain⟨i,r,v,rfl,h3,h4⟩:=Zyt ps hlen j u hj;obtain⟨_,_,_,h5⟩:=key i v h3;refine⟨hb,?_⟩
    have:=h5 r u h4
    rwa [show(Addr.mk b o none).add (i*s+r)=⟨b,o+i*s+r,none⟩from by simp[Addr.add_lit,Nat.add_assoc]]
end Go.W
namespace Go.P
theorem Zrz (w:World):(Instr.makeMap 310 none).run Tryz.prog w= .ok (.map (some w.heap.size)) (w.alloc (.map #[] 0)):=by kernel_rfl
theorem Zio (w:World):(Instr.makeMap 311 none).run Tryz.prog w= .ok (.map (some w.heap.size)) (w.alloc (.map #[] 0)):=by kernel_rfl
theorem Zsy (w:World):Calls Tryz.prog 194 #[] w fun e w'=>e= .returned (.pointer (some ⟨w.heap.size+2,0,none⟩))/\w'=((w.alloc (.map #[] 0)).alloc (.map #[] 0)).alloc (.cells #[.slice none 0 0,.map (some w.heap.size),.slice none 0 0,.map (some (w.heap.size+1))] 314):=by
 have h1:=Zrz w;have h2:=fun o=>Zio (w.alloc o);go_enter Tryz.func194,Tryz.ntmps194
 go_wp2_with fail
 go_ret
 exact⟨rfl,rfl⟩
theorem Zhy (n:Nat)(hn:n<=60)(w:World):Calls Tryz.prog 244 #[.int .i64 (n:Int)] w fun e w'=>e= .returned (.int .u64 ((2 ^ n - 1:Nat):Int))/\w'=w:=by
 have h0:(1:Nat)<=2 ^ n:=Nat.one_le_two_pow;have h1:(2:Nat) ^ n<=2 ^ 60:=Nat.pow_le_pow_right (by decide) hn;have e0:((2:Int) ^ n)=((2 ^ n:Nat):Int):=by simp
 have e1:IntKind.u64.wrap ((2:Int) ^ n)=((2 ^ n:Nat):Int):=by
  rw[e0];generalize (2:Nat) ^ n=m at*;rw[IntKind.wrap_u64];omega
 have e2:IntKind.u64.wrap (((2 ^ n:Nat):Int) - 1)=((2 ^ n - 1:Nat):Int):=by
  clear e0 e1;generalize (2:Nat) ^ n=m at*;rw[IntKind.wrap_u64];omega
 have E:=Zaa (Ycs e1 e2);clear e0 e1 e2;go_enter Tryz.func244,Tryz.ntmps244
 go_wp2_with fail
 go_ret
 exact⟨by rw[<- E.out.2,<- E.out.1];rfl,rfl⟩
end Go.P
namespace Go.W
def Zgm (w:World) (r:Nat) (bs:List ByteArray):Prop:= ∃ es clock,w.heap[r]?=some (.map es clock)/\es.toList.map (fun e=>(e.key,e.val))=bs.mapIdx fun i b=>(Value.string b,Value.int .i64 (i:Int))
def Zjm (s:ByteArray):List ByteArray->Nat->Option Nat
 | [],_=>none
 | b::bs,i=>if s=b then some i else Zjm s bs (i+1)
theorem Zjr (s:ByteArray): ∀ (l:List MapEntry) (bs:List ByteArray) (i:Nat),l.map (fun e=>(e.key,e.val))=bs.mapIdx (fun j b=>(Value.string b,Value.int .i64 ((j+i:Nat):Int)))->Instr.findNow .string (.string s) l i=some ((Zjm s bs i).map fun(k:Nat)=>(k,Value.int .i64 (k:Int)))
 | [],bs,i,h=>by
  have:bs=[]:=by
   have:=congrArg List.length h
   simp at this;exact Yda this.symm
  subst this;rfl
 | e::l,[],i,h=>by simp at h
 | e::l,b::bs,i,h=>by
  rw[List.map_cons,List.mapIdx_cons]at h;injection h with h1 h2;injection h1 with hk hv;have ih:=Zjr s l bs (i+1) (by rw[h2];congr 1;funext j b;congr 3;omega);obtain⟨r,hr,hiff⟩:=Go.MapKept.sameNow_of_keys (d:= .string) (a:= .string s) (b:= .string b) trivial trivial;unfold Instr.findNow Zjm;rw[hk,hr];cases r with
  | true=>
   obtain rfl:s=b:=by injection hiff.1 rfl
   rw[if_pos rfl,hv];simp
  | false=>
   rw[if_neg (fun e=>by have:=hiff.2 (by rw[e]);cases this)];exact ih
end Go.W
namespace Go.P
variable {w:World}{r:Nat}{bs:List ByteArray}
theorem Z0i (h:Zgm w r bs)(s:ByteArray):(Instr.lookup 311 (.map (some r)) (.string s) true).run Tryz.prog w= .ok (.tuple #[.int .i64 (((Zjm s bs 0).getD 0:Nat):Int),.bool (Zjm s bs 0).isSome]) w:=by
 obtain⟨es,clock,hb,hm⟩:=h;have hf:=Zjr s es.toList bs 0 (by simpa using hm);have hz:(zeroValue 3).run Tryz.prog w= .ok (.int .i64 0) w:=by kernel_rfl
 have hck:=Go.MapKept.run_checkKey (P:=Tryz.prog) (w:=w) Tryz.underlying9 (k:= .string s) trivial es.isEmpty 9999;have hgo:=Ydx (P:=Tryz.prog) hb;have hfk:=Go.MapKept.run_findKey (P:=Tryz.prog) (w:=w) Tryz.underlying9 hf;have hck:(Instr.checkKey es.isEmpty 10000 9 (.string s)).run Tryz.prog w= .ok () w:=hck;cases hp:Zjm s bs 0 with
 | none=>
  rw[hp]at hfk;simp only[Option.map_none]at hfk;simp[Instr.lookup,run_underlying Tryz.underlying311,hgo,hfk,hz,hck]
 | some k=>
  rw[hp]at hfk;simp only[Option.map_some]at hfk;simp[Instr.lookup,run_underlying Tryz.underlying311,hgo,hfk,hck]
theorem Z0y (h:Zgm w r bs)(s:ByteArray)(hp:Zjm s bs 0=none): ∃ o,(Instr.mapUpdate 311 (.map (some r)) (.string s) (.int .i64 (bs.length:Int))).run Tryz.prog w= .ok () {w with heap:=w.heap.setIfInBounds r o}/\Zgm {w with heap:=w.heap.setIfInBounds r o} r (bs++[s]):=by
 obtain⟨es,clock,hb,hm⟩:=h;have hf:=Zjr s es.toList bs 0 (by simpa using hm);rw[hp]at hf;have hck:=Go.MapKept.run_checkKey (P:=Tryz.prog) (w:=w) Tryz.underlying9 (k:= .string s) trivial false 9999;replace hck:(Instr.checkKey false 10000 9 (.string s)).run Tryz.prog w= .ok () w:=hck
 have hgo:=Ydx (P:=Tryz.prog) hb;have hfk:=Go.MapKept.run_findKey (P:=Tryz.prog) (w:=w) Tryz.underlying9 hf;simp only[Option.map_none]at hfk;have hso:=Go.MapKept.run_setObj_map (P:=Tryz.prog) (.map (es.push {key:= .string s,val:= .int .i64 (bs.length:Int),born:=clock}) (clock+1)) hb;refine⟨.map (es.push {key:= .string s,val:= .int .i64 (bs.length:Int),born:=clock}) (clock+1),?_,es.push {key:= .string s,val:= .int .i64 (bs.length:Int),born:=clock},clock+1,(Go.MapKept.heap_set hb).1,?_⟩
 ·simp[Instr.mapUpdate,run_underlying Tryz.underlying311,hgo,hck,hfk,hso]
 ·simp[hm]
end Go.P
namespace Go.P
variable {t:ByteArray}{q:Nat}
theorem Zj0 (c:Nat)(w:World):Calls Tryz.prog 125 #[.int .u8 (c:Int)] w fun e w'=>e= .returned (.bool (Zce c))/\w'=w:=by
 go_enter Tryz.func125,Tryz.ntmps125
 go_wp2
 all_goals (go_ret;exact⟨Zb3 (by rw[Bool.eq_iff_iff];simp[Zce];omega),rfl⟩)
theorem Zjz (c:Nat)(w:World):Calls Tryz.prog 129 #[.int .u8 (c:Int)] w fun e w'=>e= .returned (.bool (Zaz c))/\w'=w:=by
 go_enter Tryz.func129,Tryz.ntmps129
 go_wp2
 all_goals (go_ret;exact⟨Zb3 (by rw[Bool.eq_iff_iff];simp[Zaz];omega),rfl⟩)
theorem Zhv (c:Nat)(w:World):Calls Tryz.prog 174 #[.int .u8 (c:Int)] w fun e w'=>e= .returned (.bool (Zav c))/\w'=w:=by
 go_enter Tryz.func174,Tryz.ntmps174
 go_wp2
 all_goals (go_ret;exact⟨Zb3 (by rw[Bool.eq_iff_iff];simp[Zav,Zce,Zaz];omega),rfl⟩)
theorem Z5h (h:q < t.size)(hq:Z47 (Zab t) q=false):false=Zcp t:=by
 unfold Zcp;rw[decide_eq_false (fun hall=>by rw[hall q h]at hq;cases hq)];rfl
def Zrn (w:World) (t:ByteArray) (wr:World):Prop:= ∃ q,q<=t.size/\wr=w.iter t q/\ ∀ i,i < q->Z47 (Zab t) i=true
theorem Zrn.next {w:World}{ok:Bool}(hall: ∀ i,i < q->Z47 (Zab t) i=true)(hlt:q < t.size)(h:Z47 (Zab t) q=ok)(hok:ok=true):Zrn w t (w.iter t (q+1)):=
 ⟨q+1,hlt,rfl,fun i hi=>by
  by_cases hiq:i=q
  ·rw[hiq,h,hok]
  ·exact hall i (by omega)⟩
theorem Zlq (t:ByteArray)(w:World)(ht:t.size < 1000000000):Calls Tryz.prog 151 #[.string t] w (fun e w'=>e= .returned (.bool (Zcp t))/\Below w.heap.size w w'):=by
 have E0:=Zd0 t;by_cases h0:t.size=0
 ·have h:t.toList=[]:=Yda ((Zdy t).trans h0);clear E0;go_enter Tryz.func151,Tryz.ntmps151
  go_wp2
  go_ret
  exact⟨Zb3 (by simp[Zcp,h0]),Yct _ _⟩
 have h: ¬ t.toList=[]:=fun q=>h0 ((Zdy t).symm.trans (by rw[q];rfl));clear E0;by_cases h16:t.size<=16
 ·have g1:t.toList.isEmpty=false:=by simp[h]
  have g2:decide ((16:Int) < (t.size:Int))=false:=by simp;omega
  go_enter Tryz.func151,Tryz.ntmps151
  go_wp2
  go_loopw [3] (fun _ wr=>Zrn w t wr) (fun _ wr=>t.size - wr.iterPos w.heap.size)
  case atStart=>exact⟨0,by omega,rfl,fun i hi=>absurd hi (by omega)⟩
  case round=>
   obtain⟨q,hq,rfl,hall⟩:=hrel;by_cases hlt:q < t.size
   ·have hx:=Zhp t q hlt;have HN:=Zaa (fun h=>Z5h (q:=q) hlt h);have HO:Box (Z47 (Zab t) q=(Zce ((Zab t).getD q 0) || (decide (q≠0) && (Zaz ((Zab t).getD q 0) || decide ((Zab t).getD q 0=95))))):=⟨rfl⟩;have hn:=fun ty=>run_next_any (P:=Tryz.prog) w t q ty hlt;have h256:=Zrj t q;have FI:=Zaa (fun ok (h:Z47 (Zab t) q=ok) (hk:ok=true)=>Zrn.next (w:=w) hall hlt h hk);by_cases h128:(Zab t).getD q 0 < 128
    ·have e:Utf8.decode t q=((Zab t).getD q 0,1):=by
      rw[<- hx]at h128⊢;simp only[Utf8.decode,get_at t q hlt,if_pos h128]
     rw[e]at hn;clear e hx;generalize (Zab t).getD q 0=x at*;have S:Box (Zav x=(Zce x || Zaz x || decide (x=95))):=⟨rfl⟩;have n128: ¬ (128:Int)<=(x:Int):=by omega
     generalize Z47 (Zab t) q=ok at*;have C1:=Zaa (Zhv x);have C2:=Zaa (Zj0 x);generalize Zce x=b1 at*;generalize Zaz x=b2 at*;generalize Zav x=b3 at*;clear hall;by_cases hq0:q=0
     ·have q0:((q:Int)==0)=true:=by rw[beq_iff_eq];omega
      have HO1:Box (ok=b1):=⟨by rw[HO.out];simp[hq0]⟩;clear HO hq0;cases b1 with
      | true=>
       obtain rfl:b3=true:=by rw[S.out];rfl
       go_wp2_with (first | (go_at_call 174;refine(C1.out _).mono ?_;rintro e w' ⟨rfl,rfl⟩) | (go_at_call 125;refine(C2.out _).mono ?_;rintro e w' ⟨rfl,rfl⟩))
       go_roundw
       case rel=>exact FI.out _ rfl HO1.out
       case measure=>simp;omega
      | false=>
       clear S;cases b3;all_goals
        go_wp2_with (first | (go_at_call 174;refine(C1.out _).mono ?_;rintro e w' ⟨rfl,rfl⟩) | (go_at_call 125;refine(C2.out _).mono ?_;rintro e w' ⟨rfl,rfl⟩))
        go_ret
        exact⟨Zb3 (HN.out HO1.out),Zi1 _ _ _⟩
     ·have q0:((q:Int)==0)=false:=by rw[beq_eq_false_iff_ne];omega
      have HO1:Box (ok=b3):=⟨by rw[HO.out,S.out];simp[hq0,Bool.or_assoc]⟩;clear HO hq0 S;cases b3 with
      | true=>
       go_wp2_with (go_at_call 174;refine(C1.out _).mono ?_;rintro e w' ⟨rfl,rfl⟩)
       go_roundw
       case rel=>exact FI.out _ rfl HO1.out
       case measure=>simp;omega
      | false=>
       go_wp2_with (go_at_call 174;refine(C1.out _).mono ?_;rintro e w' ⟨rfl,rfl⟩)
       go_ret
       exact⟨Zb3 (HN.out HO1.out),Zi1 _ _ _⟩
    ·have e:=(decode_high t q hlt (by rw[hx];omega)).1;have e2:(128:Int)<=((Utf8.decode t q).1:Int):=by omega
     have NO:Box (Z47 (Zab t) q=false):=⟨by
      rw[HO.out];generalize (Zab t).getD q 0=x at*;simp[Zce,Zaz]
      omega⟩
     go_wp2_with fail
     go_ret
     exact⟨Zb3 (HN.out NO.out),Zi1 _ _ _⟩
   ·obtain rfl:q=t.size:=by omega
    have hn:=fun ty=>run_next_end (P:=Tryz.prog) w t t.size ty (by omega);have HY:Box (true=Zcp t):=⟨by unfold Zcp;rw[decide_eq_true hall,decide_eq_true (by omega:1<=t.size),decide_eq_true h16];rfl⟩;go_wp2_with fail
    go_ret
    exact⟨Zb3 HY.out,Zi1 _ _ _⟩
 ·have g2:(16:Int) < (t.size:Int):=by omega
  have g1:t.toList.isEmpty=false:=by simp[h]
  go_enter Tryz.func151,Tryz.ntmps151
  go_wp2
  go_ret
  exact⟨Zb3 (by unfold Zcp;rw[decide_eq_false h16];simp),Yct _ _⟩
end Go.P
namespace Go.W
def Z3i (c:Nat):Bool:=decide (c=32) || decide (c=9) || decide (c=10) || decide (c=13)
def Zdd (c:Nat):Nat:=if Zaz c then c - 48 else c - 87
def Zjq (s:ByteArray):Bool:=s.toList==[116,114,117,101] || s.toList==[102,97,108,115,101]
def Zzc (s:ByteArray):Bool:=s.toList==[99,104,101,99,107] || s.toList==[97,108,108,111,119] || s.toList==[100,101,110,121] || s.toList==[105,102] || s.toList==[111,114] || s.toList==[116,114,117,101] || s.toList==[102,97,108,115,101] || s.toList==[104,101,120]
end Go.W
namespace Go.P
theorem Zxm (c:Nat)(w:World):Calls Tryz.prog 170 #[.int .u8 (c:Int)] w fun e w'=>e= .returned (.bool (Z3i c))/\w'=w:=by
 go_enter Tryz.func170,Tryz.ntmps170
 go_wp2
 all_goals (go_ret;exact⟨Zb3 (by rw[Bool.eq_iff_iff];simp[Z3i];omega),rfl⟩)
theorem Zmk (c:Nat)(w:World):Calls Tryz.prog 173 #[.int .u8 (c:Int)] w fun e w'=>e= .returned (.bool (decide (c≠10)))/\w'=w:=by
 go_enter Tryz.func173,Tryz.ntmps173
 go_wp2
 all_goals (go_ret;exact⟨Zb3 (by rw[Bool.eq_iff_iff];simp;omega),rfl⟩)
theorem Zt0 (c:Nat)(w:World):Calls Tryz.prog 204 #[.int .u8 (c:Int)] w fun e w'=>e= .returned (.bool (Zdh c))/\w'=w:=by
 go_enter Tryz.func204,Tryz.ntmps204
 go_wp2
 all_goals (go_ret;exact⟨Zb3 (by rw[Bool.eq_iff_iff];simp[Zdh,Zaz];omega),rfl⟩)
theorem Zlz (c:Nat)(h:Zdh c=true)(w:World):Calls Tryz.prog 205 #[.int .u8 (c:Int)] w fun e w'=>e= .returned (.int .u8 (Zdd c:Nat))/\w'=w:=by
 have C:=Zaa (Zjz c);have hc:Zdd c < 16:=by
  simp[Zdh,Zaz]at h;unfold Zdd Zaz;split <;> simp_all <;> omega
 cases hd:Zaz c;all_goals
  rw[hd]at C;go_enter Tryz.func205,Tryz.ntmps205
  go_wp2_with (first | (go_at_call 129;refine(C.out _).mono ?_;rintro e w' ⟨rfl,rfl⟩))
  go_ret
  refine⟨?_,rfl⟩;have hh:Zdd c=c - (if Zaz c then 48 else 87):=by unfold Zdd;split <;> rfl
  rw[hd]at hh;simp only[Zdh,hd]at h;simp[Zaz]at h hd hh;simp[hh];omega
theorem Zrc (s:ByteArray)(w:World):Calls Tryz.prog 184 #[.string s] w fun e w'=>e= .returned (.bool (Zjq s))/\w'=w:=by
 go_enter Tryz.func184,Tryz.ntmps184
 go_wp2
 all_goals go_ret
 all_goals exact⟨Zb3 (by simp_all [Zjq]),rfl⟩
theorem Z1f (s:ByteArray)(w:World):Calls Tryz.prog 182 #[.string s] w fun e w'=>e= .returned (.bool (Zzc s))/\w'=w:=by
 go_enter Tryz.func182,Tryz.ntmps182
 go_wp2
 all_goals go_ret
 all_goals exact⟨Zb3 (by simp_all [Zzc]),rfl⟩
theorem Zu6 (b:Bool)(w:World):Calls Tryz.prog 236 #[.bool b] w fun e w'=>e= .returned (.agg #[.int .i64 6,.int .i64 (if b then 1 else 0),.string ⟨#[]⟩,.slice none 0 0])/\Below w.heap.size w w':=by
 cases b;all_goals
  go_enter Tryz.func236,Tryz.ntmps236
  go_wp2_with fail
  all_goals refine bodyPost_ret (by simp[results,Tryz.results236,go_sem];try rfl) rfl ?_
  all_goals exact⟨rfl,(Yct _ w).alloc lr _⟩
end Go.P
