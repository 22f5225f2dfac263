import Derived.Test.YtaoiihbjdonaoaaGreatDoorW00
import Derived.Lib.AppendZerosOnto
set_option linter.defProp false
set_option maxRecDepth 100000
set_option maxHeartbeats 8000000
set_option linter.unusedSimpArgs false
open Go.Proofs Go.RowKit Go.W Tryz
namespace Go.W
variable {s n y k:Nat}{w:World}{v:Value}{cs:List Value}{P:Program}{tx:TypeId}{z:Option Value}{xs:List (Nat×List Value)}{x:Nat×List Value}
def P8 (s:Nat) (w:World) (v:Value) (n:Nat) (cs:List Value):Prop:= ∃ p c,v= .slice p n c/\n<1000000/\cs.length=n*s/\(∀ u∈cs,u.oneCell'=true)/\(∀ a,p=some a-> ∀ j u,cs[j]?=some u->a.block<w.heap.size/\w.cell? (a.add j)=some u)/\(p=none->n=0)
def P8.below {u:World}(h:P8 s w v n cs)(hb:Bl w u):P8 s u v n cs:=by
 obtain⟨p,c,h0,h1,h2,h3,h4,h5⟩:=h;refine⟨p,c,h0,h1,h2,h3,fun a ha j u hj=>⟨BK (h4 a ha j u hj).1 hb.size,?_⟩,h5⟩;have e:(a.add j).block=a.block:=by unfold Addr.add;split <;> rfl
 exact(hb.cell (p:=a.add j) (by rw[e];exact(h4 a ha j u hj).1)).trans (h4 a ha j u hj).2
def P8.src {e':TypeId}(h:P8 s w v n cs)(hk:P.underlying tx=some (.slice e')):Src P s tx v n cs w:=by
 obtain⟨p,c,rfl,h1,h2,h3,h4,h5⟩:=h;cases p with
 | none=>
  obtain rfl:=h5 rfl;obtain rfl:cs=[]:=M9 (by simpa using h2);exact Src.ofNil w hk c
 | some a=>exact Src.ofSlice w hk a n c cs h2 (fun j u hj=>(h4 a rfl j u hj).2) h3
def Z9b {e:TypeId}(h:(P.info? e).map (fun i=>(i.zero,i.size,i.bytes))=some (z,s,y)): ∃ i,P.info? e=some i/\i.zero=z/\i.size=s/\i.bytes=y:=by
 obtain⟨i,hi,he⟩:=QP.1 h;simp at he;exact⟨i,hi,he.1,he.2.1,he.2.2⟩
def Zvi (w:World)(t tn e:TypeId)(z:Value)(s y:Nat)(ht:P.underlying t=some (.slice e))(yV:P.underlying tn=some (.int .i64))(hi:(P.info? e).map (fun i=>(i.zero,i.size,i.bytes))=some (some z,s,y))(hzs:z.cells.size=s)(hs:0<s)(hb:y<=1000)(n:Nat)(h0:0<n)(hn:n<1000000000):
  ∃ cap cells,n<=cap/\cells.size=cap*s/\ ∀ ty,(Builtin.append_ #[t,tn] ty #[zn,zo (n:Int)]).run P w= .ok (.slice (Qb w.heap.size 0) n cap) (w.drew.alloc<|.cells cells e):=by
 obtain⟨i,h9,hz,rfl,rfl⟩:=Z9b hi;clear hi;have hi:=h9;have VN:=grownCap_ge w (0+n) 0 e;refine⟨grownCap w (0+n) 0 e,Builtin.zeroCells z.cells n++Builtin.zeroCells z.cells (grownCap w (0+n) 0 e-(0+n)),zx,?_,fun ty=>?_⟩
 ·rw[Array.size_append,size_zeroCells,size_zeroCells,hzs,<- Nat.add_mul];congr 1
  omega
 ·have:=Lib.run_append_grow_zeros (P:=P) w t tn ty e i z .i64 .i64 ht yV hi hz none 0 0 [] (run_firstCells_none w.drew i.size 0 0 0) n h0 hs zx zx (by have:=Nat.mul_le_mul (Nat.le_of_lt hn) hb;omega)<|growslice_fits zx (by have:=Nat.mul_le_mul (show 0+n<=1000000000 by omega) hb;omega)
  simpa using this
def Ybq (w:World)(t tx e:TypeId)(i:TypeInfo)(ht:P.underlying t=some (.slice e))(hi:P.info? e=some i)(g Qz bi:Nat)(cur:Array Value)(hg:w.heap[g]?=some (.cells cur e (0,0)))(x:Value)(n:Nat)(news:List Value)(hs:Src P i.size tx x n news w)(hroom:Qz+n<=bi)(Fj:Qz*i.size+news.length<=cur.size)(ty:TypeId):
  (Builtin.append_ #[t,tx] ty #[.slice (Qb g 0) Qz bi,x]).run P w= .ok (.slice (Qb g 0) (Qz+n) bi) (w.setRow g (cur.toList.take (Qz*i.size)++news++cur.toList.drop (Qz*i.size+news.length)).toArray):=by
 have hst:=run_storeCells_at P g (Qz*i.size) e news 0 cur w hg (by simpa using Fj) hs.one;simp only[Qs]at hst;rcases hs.kind with⟨e',hk⟩ | hk <;> simp[Builtin.append_,J5 ht,J5 hk,sizeOf,typeInfo,hi,hs.len,hroom,hs.cells,Addr.add_lit,hst]
def Dv (xs:List (Nat×List Value)):Nat:=xs.foldr (fun x s=>x.1+s) 0
def Xj (xs:List (Nat×List Value)):List Value:=xs.flatMap (·.2)
def Zrt (xs ys:List (Nat×List Value)):Dv (xs++ys)=Dv xs+Dv ys:=by
 induction xs with
 | nil=>simp[Dv]
 | cons x xs ih=>simp only[Dv,EC,List.foldr_cons]at ih⊢;omega
def ZY (h:xs[k]?=some x):Dv (xs.take<|k+1)=Dv (xs.take k)+x.1/\Dv (xs.take k)+x.1<=Dv xs:=by
 have e1:xs.take (k+1)=xs.take k++[x]:=by rw[PM,h];rfl
 have e2:Dv (xs.take<|k+1)=Dv (xs.take k)+x.1:=by rw[e1,Zrt];simp[Dv]
 refine⟨e2,?_⟩;rw[<- e2]
 have:=Zrt (xs.take<|k+1)<|xs.drop<|k+1
 rw[List.take_append_drop]at this;omega
def Znb (h:xs[k]?=some x):Xj (xs.take<|k+1)=Xj (xs.take k)++x.2:=by
 have e1:xs.take (k+1)=xs.take k++[x]:=by rw[PM,h];rfl
 rw[e1];simp[Xj]
def QD (E s:Nat) (w:World) (nv:Value) (done:List Value) (m total:Nat) (wr:World):Prop:=Bl w wr/\done.length=m*s/\((total=0/\m=0/\nv= zn/\done=[])\/ ∃ cap vs,total<=cap/\nv= .slice (Qb w.heap.size 0) m cap/\AO wr w.heap.size vs E/\vs.size=cap*s/\vs.toList.take done.length=done)
def QD.step {E m total:Nat}{wr:World}{nv x:Value}{done news:List Value}{t:TypeId}(ht:P.underlying t=some (.slice E))(hi:(P.info? E).map (fun i=>(i.zero,i.size,i.bytes))=some (z,s,y))(h:QD E s w nv done m total wr)(hs:Src P s tx x n news wr)(hle:m+n<=total): ∃ ll wr',(∀ ty,(Builtin.append_ #[t,tx] ty #[nv,x]).run P wr= .ok ll wr')/\QD E s w ll (done++news) (m+n) total wr':=by
 obtain⟨i,h9,_,rfl,_⟩:=Z9b hi;clear hi;have hi:=h9;obtain⟨hb,hd,h⟩:=h;have L8:=hs.newsLen;rcases h with⟨rfl,rfl,rfl,rfl⟩ | ⟨cap,vs,hc,rfl,hB,UI,Kv⟩
 ·obtain rfl:n=0:=zx
  obtain rfl:news=[]:=M9 (by simpa using L8);exact⟨_,_,fun ty=>by rcases hs.kind with⟨e',hk⟩ | hk <;> simp[Builtin.append_,J5 ht,J5 hk,sizeOf,typeInfo,hi,hs.len,hs.cells],hb,zw,Or.inl ⟨rfl,rfl,rfl,rfl⟩⟩
 ·have Fj:m*i.size+news.length<=vs.size:=by
   rw[UI,L8,<- Nat.add_mul];exact Nat.mul_le_mul_right _ zx
  refine⟨_,_,fun ty=>Ybq wr t tx E i ht hi w.heap.size m cap vs hB x n news hs zx Fj ty,?_,by rw[JS,hd,L8,Nat.add_mul],Or.inr ⟨cap,_,hc,rfl,GM wr _ vs _ _ _ hB,?_,?_⟩⟩
  ·exact⟨hb.os,hb.tape,hb.output,by rw[Ef];exact hb.size,fun j hj=>(Db _ _ j _ zx).trans (hb.block j hj)⟩
  ·simp[<- UI];omega
  ·have:m*i.size=done.length:=hd.symm
   rw[this,Kv];show List.take (done++news).length ((done++news)++_)=_;exact List.take_left
end Go.W
namespace Go.P
variable {w:World}{b o c:Nat}{xs:List (Nat×List Value)}
def Zvo:(prog.info? 9).map (fun i=>(i.zero,i.size,i.bytes))=some (some<|.string ⟨#[]⟩,1,16):=zt
def Zzr (w:World) (xs:List (Nat×List Value)) (iv sv:Value) (wr:World):Prop:= ∃ k:Nat,k<=xs.length/\iv= zo (k:Int)/\sv= zo (Dv (xs.take k):Int)/\wr=w
def Z7h (E s:Nat) (w:World) (xs:List (Nat×List Value)) (iv nv:Value) (wr:World):Prop:= ∃ k:Nat,k<=xs.length/\iv= zo (k:Int)/\QD E s w nv (Xj<|xs.take k) (Dv<|xs.take k) (Dv xs) wr
def Ycd (n:Nat)(hn:n<1000000000)(w:World):Calls prog 127 #[zn,zo (n:Int)] w fun e w'=> ∃ nv,e= .returned nv/\QD 9 1 w nv [] 0 n w':=by
 have h1: ¬ ((n:Int)<0):=zx
 by_cases h0:n=0
 ·subst h0;go_in
  go_wp2
  go_ret
  exact⟨_,rfl,AR _ w,rfl,Or.inl ⟨rfl,rfl,rfl,rfl⟩⟩
 ·have h3:wrap64 ((n:Int)-0)=(n:Int):=by unfold wrap64;omega
  have h4:(n:Int) > 0:=zx
  obtain⟨cap,cells,hc,hs,hrun⟩:=Zvi (P:=prog) w 36 3 9 _ 1 16 underlying36 underlying3 Zvo rfl zu zu n zx hn;have H:=AC<|AJ hc hs;clear hc hs;go_in
  go_wp2_with (at_builtin;refine Lib.wpList_append_run _ rfl _ _ _ _ rfl _ _ rfl rfl _ _ (hrun _) ?_)
  go_ret
  exact⟨_,rfl,(AR _ w).drew.alloc lr _,rfl,Or.inr ⟨cap,cells,H.out.1,rfl,AO.new _ _ _,H.out.2,rfl⟩⟩
def Z4w (hX: ∀ i x,xs[i]?=some x->b<w.heap.size/\ ∃ v,w.cell? (zm b (o+i))=some v/\P8 1 w v x.1 x.2)(hl:xs.length<1000000)(hs:Dv xs<1000000000):Calls prog 82 #[.slice (Qb b o) xs.length c] w fun e w'=> ∃ nv,e= .returned nv/\QD 9 1 w nv (Xj xs) (Dv xs) (Dv xs) w':=by
 obtain⟨n,hn⟩: ∃ n,xs.length=n:=⟨_,rfl⟩;rw[hn];have HX:=AC hX;have HN:=AC hn;have HS:=AC hs;have CG:=AC<|Ycd (Dv xs) hs w;clear hX hn hs;go_in
 go_wp2
 go_loopw [11,3] (fun iv sv wr=>Zzr w xs iv sv wr) (fun iv _ _=>xs.length-(intOf iv).toNat)
 case atStart=>exact⟨0,zx,rfl,rfl,rfl⟩
 case round=>
  obtain⟨k,hk,rfl,rfl,hw⟩:=hrel;obtain rfl:=hw.symm;by_cases hlt:k<n
  ·have g:(k:Int)<(n:Int):=zx
   obtain⟨x,hx⟩: ∃ x,xs[k]?=some x:=⟨xs[k]'(by have:=HN.out;omega),A8 _⟩;obtain⟨Af,v,hc,hv⟩:=HX.out k x hx;obtain⟨p,c1,rfl,NM,hr⟩:=hv;have ht:=ZY hx;have hS:=HS.out;have E:=AC ht;have e1:wrap64 ((Dv (xs.take k):Int)+(x.1:Int))=((Dv (xs.take k)+x.1:Nat):Int):=by unfold wrap64;omega
   have e2: ¬ (((Dv (xs.take k)+x.1:Nat):Int)<0):=Int.not_lt.2<|Int.natCast_nonneg _;clear hx ht hS hr;go_wp2_with fail
   rw[e1,<- E.out.1];exact⟨⟨k+1,by have:=HN.out;omega,zw,rfl,rfl⟩,by simp[intOf];have:=HN.out;omega⟩
  ·obtain rfl:k=n:=by have:=HN.out;omega
   rw[<- HN.out,On,HN.out];go_wp2_with fail
   refine CG.out.mono ?_;rintro e w2 ⟨nv,rfl,hC⟩;have H2:=AC hC;clear hC CG;obtain⟨Zx,htot⟩: ∃ Zx,Dv xs=Zx:=⟨_,rfl⟩;rw[htot]at H2⊢;go_wp2
   go_loopw [27,6] (fun iv nv wr=>Z7h 9 1 w xs iv nv wr) (fun iv _ _=>xs.length-(intOf iv).toNat)
   case atStart=>exact⟨0,zx,rfl,by rw[htot];exact H2.out⟩
   case round=>
    clear H2;obtain⟨j,hj,rfl,hC⟩:=hrel;by_cases hlt:j<k
    ·have g:(j:Int)<(k:Int):=zx
     obtain⟨x,hx⟩: ∃ x,xs[j]?=some x:=⟨xs[j]'(by have:=HN.out;omega),A8 _⟩;obtain⟨Af,v,hc,hv⟩:=HX.out j x hx;have hc':=(hC.1.cell Af).trans hc;obtain⟨ll,w4,hrun,WN⟩:=hC.step (t:=36) (tx:=36) underlying36 Zvo ((hv.below hC.1).src underlying36) (ZY hx).2;rw[<- (ZY hx).1,<- Znb hx]at WN;obtain⟨p,c1,rfl,NM,hr⟩:=hv;have H4:=AC WN;have hrun:=AC hrun;clear hC hc WN hx hr;go_wp2_with (at_builtin;refine Lib.wpList_append_run _ rfl _ _ _ _ rfl _ _ rfl rfl _ _ (hrun.out _) ?_)
     exact⟨⟨j+1,by have:=HN.out;omega,zw,H4.out⟩,by simp[intOf];have:=HN.out;omega⟩
    ·obtain rfl:j=k:=by have:=HN.out;omega
     have H4:=AC hC;clear hC;go_wp2
     go_ret
     have:=H4.out
     rw[<- HN.out,On]at this;exact⟨u6,rfl,this⟩
def Z80 (n:Nat)(hn:n<1000000000)(w:World):Calls prog 176 #[zn,zo (n:Int)] w fun e w'=> ∃ nv,e= .returned nv/\QD 41 2 w nv [] 0 n w':=by
 have h1: ¬ ((n:Int)<0):=zx
 by_cases h0:n=0
 ·subst h0;go_in
  go_wp2
  go_ret
  exact⟨_,rfl,AR _ w,rfl,Or.inl ⟨rfl,rfl,rfl,rfl⟩⟩
 ·have h3:wrap64 ((n:Int)-0)=(n:Int):=by unfold wrap64;omega
  have h4:(n:Int) > 0:=zx
  obtain⟨cap,cells,hc,hs,hrun⟩:=Zvi (P:=prog) w 29 3 41 _ 2 40 underlying29 underlying3 Zq0 rfl zu zu n zx hn;have H:=AC<|AJ hc hs;clear hc hs;go_in
  go_wp2_with (at_builtin;refine Lib.wpList_append_run _ rfl _ _ _ _ rfl _ _ rfl rfl _ _ (hrun _) ?_)
  go_ret
  exact⟨_,rfl,(AR _ w).drew.alloc lr _,rfl,Or.inr ⟨cap,cells,H.out.1,rfl,AO.new _ _ _,H.out.2,rfl⟩⟩
def Zz5 (hX: ∀ i x,xs[i]?=some x->b<w.heap.size/\ ∃ v,w.cell? (zm b (o+i))=some v/\P8 2 w v x.1 x.2)(hl:xs.length<1000000)(hs:Dv xs<1000000000):Calls prog 143 #[.slice (Qb b o) xs.length c] w fun e w'=> ∃ nv,e= .returned nv/\QD 41 2 w nv (Xj xs) (Dv xs) (Dv xs) w':=by
 obtain⟨n,hn⟩: ∃ n,xs.length=n:=⟨_,rfl⟩;rw[hn];have HX:=AC hX;have HN:=AC hn;have HS:=AC hs;have CG:=AC<|Z80 (Dv xs) hs w;clear hX hn hs;go_in
 go_wp2
 go_loopw [11,3] (fun iv sv wr=>Zzr w xs iv sv wr) (fun iv _ _=>xs.length-(intOf iv).toNat)
 case atStart=>exact⟨0,zx,rfl,rfl,rfl⟩
 case round=>
  obtain⟨k,hk,rfl,rfl,hw⟩:=hrel;obtain rfl:=hw.symm;by_cases hlt:k<n
  ·have g:(k:Int)<(n:Int):=zx
   obtain⟨x,hx⟩: ∃ x,xs[k]?=some x:=⟨xs[k]'(by have:=HN.out;omega),A8 _⟩;obtain⟨Af,v,hc,hv⟩:=HX.out k x hx;obtain⟨p,c1,rfl,NM,hr⟩:=hv;have ht:=ZY hx;have hS:=HS.out;have E:=AC ht;have e1:wrap64 ((Dv (xs.take k):Int)+(x.1:Int))=((Dv (xs.take k)+x.1:Nat):Int):=by unfold wrap64;omega
   have e2: ¬ (((Dv (xs.take k)+x.1:Nat):Int)<0):=Int.not_lt.2<|Int.natCast_nonneg _;clear hx ht hS hr;go_wp2_with fail
   rw[e1,<- E.out.1];exact⟨⟨k+1,by have:=HN.out;omega,zw,rfl,rfl⟩,by simp[intOf];have:=HN.out;omega⟩
  ·obtain rfl:k=n:=by have:=HN.out;omega
   rw[<- HN.out,On,HN.out];go_wp2_with fail
   refine CG.out.mono ?_;rintro e w2 ⟨nv,rfl,hC⟩;have H2:=AC hC;clear hC CG;obtain⟨Zx,htot⟩: ∃ Zx,Dv xs=Zx:=⟨_,rfl⟩;rw[htot]at H2⊢;go_wp2
   go_loopw [27,6] (fun iv nv wr=>Z7h 41 2 w xs iv nv wr) (fun iv _ _=>xs.length-(intOf iv).toNat)
   case atStart=>exact⟨0,zx,rfl,by rw[htot];exact H2.out⟩
   case round=>
    clear H2;obtain⟨j,hj,rfl,hC⟩:=hrel;by_cases hlt:j<k
    ·have g:(j:Int)<(k:Int):=zx
     obtain⟨x,hx⟩: ∃ x,xs[j]?=some x:=⟨xs[j]'(by have:=HN.out;omega),A8 _⟩;obtain⟨Af,v,hc,hv⟩:=HX.out j x hx;have hc':=(hC.1.cell Af).trans hc;obtain⟨ll,w4,hrun,WN⟩:=hC.step (t:=29) (tx:=29) underlying29 Zq0 ((hv.below hC.1).src underlying29) (ZY hx).2;rw[<- (ZY hx).1,<- Znb hx]at WN;obtain⟨p,c1,rfl,NM,hr⟩:=hv;have H4:=AC WN;have hrun:=AC hrun;clear hC hc WN hx hr;go_wp2_with (at_builtin;refine Lib.wpList_append_run _ rfl _ _ _ _ rfl _ _ rfl rfl _ _ (hrun.out _) ?_)
     exact⟨⟨j+1,by have:=HN.out;omega,zw,H4.out⟩,by simp[intOf];have:=HN.out;omega⟩
    ·obtain rfl:j=k:=by have:=HN.out;omega
     have H4:=AC hC;clear hC;go_wp2
     go_ret
     have:=H4.out
     rw[<- HN.out,On]at this;exact⟨u6,rfl,this⟩
def Z81 (n:Nat)(hn:n<1000000000)(w:World):Calls prog 177 #[zn,zo (n:Int)] w fun e w'=> ∃ nv,e= .returned nv/\QD 44 4 w nv [] 0 n w':=by
 have h1: ¬ ((n:Int)<0):=zx
 by_cases h0:n=0
 ·subst h0;go_in
  go_wp2
  go_ret
  exact⟨_,rfl,AR _ w,rfl,Or.inl ⟨rfl,rfl,rfl,rfl⟩⟩
 ·have h3:wrap64 ((n:Int)-0)=(n:Int):=by unfold wrap64;omega
  have h4:(n:Int) > 0:=zx
  obtain⟨cap,cells,hc,hs,hrun⟩:=Zvi (P:=prog) w 30 3 44 _ 4 88 underlying30 underlying3 Zq1 rfl zu zu n zx hn;have H:=AC<|AJ hc hs;clear hc hs;go_in
  go_wp2_with (at_builtin;refine Lib.wpList_append_run _ rfl _ _ _ _ rfl _ _ rfl rfl _ _ (hrun _) ?_)
  go_ret
  exact⟨_,rfl,(AR _ w).drew.alloc lr _,rfl,Or.inr ⟨cap,cells,H.out.1,rfl,AO.new _ _ _,H.out.2,rfl⟩⟩
def Zz6 (hX: ∀ i x,xs[i]?=some x->b<w.heap.size/\ ∃ v,w.cell? (zm b (o+i))=some v/\P8 4 w v x.1 x.2)(hl:xs.length<1000000)(hs:Dv xs<1000000000):Calls prog 144 #[.slice (Qb b o) xs.length c] w fun e w'=> ∃ nv,e= .returned nv/\QD 44 4 w nv (Xj xs) (Dv xs) (Dv xs) w':=by
 obtain⟨n,hn⟩: ∃ n,xs.length=n:=⟨_,rfl⟩;rw[hn];have HX:=AC hX;have HN:=AC hn;have HS:=AC hs;have CG:=AC<|Z81 (Dv xs) hs w;clear hX hn hs;go_in
 go_wp2
 go_loopw [11,3] (fun iv sv wr=>Zzr w xs iv sv wr) (fun iv _ _=>xs.length-(intOf iv).toNat)
 case atStart=>exact⟨0,zx,rfl,rfl,rfl⟩
 case round=>
  obtain⟨k,hk,rfl,rfl,hw⟩:=hrel;obtain rfl:=hw.symm;by_cases hlt:k<n
  ·have g:(k:Int)<(n:Int):=zx
   obtain⟨x,hx⟩: ∃ x,xs[k]?=some x:=⟨xs[k]'(by have:=HN.out;omega),A8 _⟩;obtain⟨Af,v,hc,hv⟩:=HX.out k x hx;obtain⟨p,c1,rfl,NM,hr⟩:=hv;have ht:=ZY hx;have hS:=HS.out;have E:=AC ht;have e1:wrap64 ((Dv (xs.take k):Int)+(x.1:Int))=((Dv (xs.take k)+x.1:Nat):Int):=by unfold wrap64;omega
   have e2: ¬ (((Dv (xs.take k)+x.1:Nat):Int)<0):=Int.not_lt.2<|Int.natCast_nonneg _;clear hx ht hS hr;go_wp2_with fail
   rw[e1,<- E.out.1];exact⟨⟨k+1,by have:=HN.out;omega,zw,rfl,rfl⟩,by simp[intOf];have:=HN.out;omega⟩
  ·obtain rfl:k=n:=by have:=HN.out;omega
   rw[<- HN.out,On,HN.out];go_wp2_with fail
   refine CG.out.mono ?_;rintro e w2 ⟨nv,rfl,hC⟩;have H2:=AC hC;clear hC CG;obtain⟨Zx,htot⟩: ∃ Zx,Dv xs=Zx:=⟨_,rfl⟩;rw[htot]at H2⊢;go_wp2
   go_loopw [27,6] (fun iv nv wr=>Z7h 44 4 w xs iv nv wr) (fun iv _ _=>xs.length-(intOf iv).toNat)
   case atStart=>exact⟨0,zx,rfl,by rw[htot];exact H2.out⟩
   case round=>
    clear H2;obtain⟨j,hj,rfl,hC⟩:=hrel;by_cases hlt:j<k
    ·have g:(j:Int)<(k:Int):=zx
     obtain⟨x,hx⟩: ∃ x,xs[j]?=some x:=⟨xs[j]'(by have:=HN.out;omega),A8 _⟩;obtain⟨Af,v,hc,hv⟩:=HX.out j x hx;have hc':=(hC.1.cell Af).trans hc;obtain⟨ll,w4,hrun,WN⟩:=hC.step (t:=30) (tx:=30) underlying30 Zq1 ((hv.below hC.1).src underlying30) (ZY hx).2;rw[<- (ZY hx).1,<- Znb hx]at WN;obtain⟨p,c1,rfl,NM,hr⟩:=hv;have H4:=AC WN;have hrun:=AC hrun;clear hC hc WN hx hr;go_wp2_with (at_builtin;refine Lib.wpList_append_run _ rfl _ _ _ _ rfl _ _ rfl rfl _ _ (hrun.out _) ?_)
     exact⟨⟨j+1,by have:=HN.out;omega,zw,H4.out⟩,by simp[intOf];have:=HN.out;omega⟩
    ·obtain rfl:j=k:=by have:=HN.out;omega
     have H4:=AC hC;clear hC;go_wp2
     go_ret
     have:=H4.out
     rw[<- HN.out,On]at this;exact⟨u6,rfl,this⟩
end Go.P
