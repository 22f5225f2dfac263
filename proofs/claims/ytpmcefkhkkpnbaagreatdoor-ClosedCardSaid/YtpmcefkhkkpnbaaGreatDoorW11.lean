import Derived.Test.YtpmcefkhkkpnbaaGreatDoorW00
import Derived.Lib.AppendZerosOnto
set_option linter.all false
set_option maxRecDepth 100000
set_option maxHeartbeats 8000000
open Go.Proofs Go.RowKit Go.W Tryz
namespace Go.W
variable {s n y k:Nat}{w:Bb}{v:Value}{cs:Bu}{P:Program}{tx:TypeId}{z:Option Value}{xs:List (Nat×Bu)}{x:Nat×Bu}
def P8 (s:Nat) (w:Bb) (v:Value) (n:Nat) (cs:Bu):Prop:= ∃ p c,v= sP p n c/\n<1000000/\cs.length=n*s/\(∀ u∈cs,u.oneCell'=true)/\(∀ a,p=some a-> ∀ j u,cs[j]?=some u->a.block<w.heap.size/\w.cell? (a.add j)=some u)/\(p=none->n=0)
def P8.be {u:Bb}(h:P8 s w v n cs)(hb:Bl w u):P8 s u v n cs:=by
 obtain⟨p,c,h0,h1,h2,h3,h4,h5⟩:=h;refine⟨p,c,h0,h1,h2,h3,fun a ha j u hj=>⟨BK (h4 a ha j u hj).1 hb.size,?_⟩,h5⟩;have e:(a.add j).block=a.block:=by unfold Addr.add;split <;> rfl
 exact(hb.cell (p:=a.add j) (by rw[e];exact(h4 a ha j u hj).1)).trans (h4 a ha j u hj).2
def P8.src {e':TypeId}(h:P8 s w v n cs)(hk:P.underlying tx=some (.slice e')):Src P s tx v n cs w:=by
 obtain⟨p,c,rfl,h1,h2,h3,h4,h5⟩:=h;cases p with
 | none=>
  obtain rfl:=h5 rfl;obtain rfl:cs=[]:=M9 (by simpa using h2);exact Src.ofNil w hk c
 | some a=>exact Src.ofSlice w hk a n c cs h2 (fun j u hj=>(h4 a rfl j u hj).2) h3
def Z9b {e:TypeId}(h:(P.info? e).map (fun i=>(i.zero,i.size,i.bytes))=some (z,s,y)): ∃ i,P.info? e=some i/\i.zero=z/\i.size=s/\i.bytes=y:=by
 obtain⟨i,hi,he⟩:=QP.1 h;simp at he;exact⟨i,hi,he.1,he.2.1,he.2.2⟩
def Zvi (w:Bb)(t tn e:TypeId)(z:Value)(s y:Nat)(ht:P.underlying t=some (.slice e))(yV:P.underlying tn=some (.int .i64))(hi:(P.info? e).map (fun i=>(i.zero,i.size,i.bytes))=some (some z,s,y))(hzs:z.cells.size=s)(hs:0<s)(hb:y<=1000)(n:Nat)(h0:0<n)(hn:n<1000000000):
  ∃ cap cells,n<=cap/\cells.size=cap*s/\ ∀ ty,(Builtin.append_ #[t,tn] ty #[zn,zo (n:Int)]).run P w= .ok (sP (Qb w.heap.size 0) n cap) (w.drew.alloc<|.cells cells e):=by
 obtain⟨i,h9,hz,rfl,rfl⟩:=Z9b hi;clear hi;have hi:=h9;have VN:=grownCap_ge w (0+n) 0 e;refine⟨grownCap w (0+n) 0 e,Builtin.zeroCells z.cells n++Builtin.zeroCells z.cells (grownCap w (0+n) 0 e-(0+n)),zx,?_,fun ty=>?_⟩
 .rw[Array.size_append,size_zeroCells,size_zeroCells,hzs,<- Nat.add_mul];congr 1
  omega
 .have:=Lib.run_append_grow_zeros (P:=P) w t tn ty e i z .i64 .i64 ht yV hi hz none 0 0 [] (run_firstCells_none w.drew i.size 0 0 0) n h0 hs zx zx (fw (Nat.mul_le_mul (Nat.le_of_lt hn) hb))<|growslice_fits zx (fw (Nat.mul_le_mul (show 0+n<=1000000000 by omega) hb))
  simpa using this
def Ybq (w:Bb)(t tx e:TypeId)(i:TypeInfo)(ht:P.underlying t=some (.slice e))(hi:P.info? e=some i)(g Qz bi:Nat)(cur:Ca)(hg:w.heap[g]?=some (.cells cur e (0,0)))(x:Value)(n:Nat)(news:Bu)(hs:Src P i.size tx x n news w)(hroom:Qz+n<=bi)(Fj:Qz*i.size+news.length<=cur.size)(ty:TypeId):
  (Builtin.append_ #[t,tx] ty #[sP (Qb g 0) Qz bi,x]).run P w= .ok (sP (Qb g 0) (Qz+n) bi) (w.setRow g (cur.toList.take (Qz*i.size)++news++cur.toList.drop (Qz*i.size+news.length)).toArray):=by
 have hst:=run_storeCells_at P g (Qz*i.size) e news 0 cur w hg (by simpa using Fj) hs.one;simp only[Qs]at hst;rcases hs.kind with⟨e',hk⟩ | hk <;> simp[Builtin.append_,J5 ht,J5 hk,sizeOf,typeInfo,hi,hs.len,hroom,hs.cells,Addr.add_lit,hst]
def Dv (xs:List (Nat×Bu)):Nat:=xs.foldr (fun x s=>x.1+s) 0
def Xj (xs:List (Nat×Bu)):Bu:=xs.flatMap (·.2)
def Zrt (xs ys:List (Nat×Bu)):Dv (xs++ys)=Dv xs+Dv ys:=by
 induction xs with
 | nil=>simp[Dv]
 | cons x xs ih=>simp only[Dv,EC,List.foldr_cons]at ih⊢;omega
def ZY (h:xs[k]?=some x):Dv (xs.take<|k+1)=Dv (xs.take k)+x.1/\Dv (xs.take k)+x.1<=Dv xs:=by
 have e1:xs.take (k+1)=xs.take k++[x]:=by rw[PM,h];rfl
 have e2:Dv (xs.take<|k+1)=Dv (xs.take k)+x.1:=by rw[e1,Zrt];simp[Dv]
 refine⟨e2,?_⟩;rw[<- e2]
 have:=Zrt (xs.take<|k+1)<|xs.drop<|k+1
 rw[List.take_append_drop]at this;omega
def Znb (h:xs[k]?=some x):Xj (xs.take<|k+1)=Xj (xs.take k)++x.2:=by
 have e1:xs.take (k+1)=xs.take k++[x]:=by rw[PM,h];rfl
 rw[e1];simp[Xj]
def QD (E s:Nat) (w:Bb) (nv:Value) (done:Bu) (m total:Nat) (wr:Bb):Prop:=Bl w wr/\done.length=m*s/\((total=0/\m=0/\nv= zn/\done=[])\/ ∃ cap vs,total<=cap/\nv= sP (Qb w.heap.size 0) m cap/\AO wr w.heap.size vs E/\vs.size=cap*s/\vs.toList.take done.length=done)
def QD.step {E m total:Nat}{wr:Bb}{nv x:Value}{done news:Bu}{t:TypeId}(ht:P.underlying t=some (.slice E))(hi:(P.info? E).map (fun i=>(i.zero,i.size,i.bytes))=some (z,s,y))(h:QD E s w nv done m total wr)(hs:Src P s tx x n news wr)(hle:m+n<=total): ∃ ll wr',(∀ ty,(Builtin.append_ #[t,tx] ty #[nv,x]).run P wr= .ok ll wr')/\QD E s w ll (done++news) (m+n) total wr':=by
 obtain⟨i,h9,_,rfl,_⟩:=Z9b hi;clear hi;have hi:=h9;obtain⟨hb,hd,h⟩:=h;have L8:=hs.newsLen;rcases h with⟨rfl,rfl,rfl,rfl⟩ | ⟨cap,vs,hc,rfl,hB,UI,Kv⟩
 .obtain rfl:n=0:=zx
  obtain rfl:news=[]:=M9 (by simpa using L8);exact⟨_,_,fun ty=>by rcases hs.kind with⟨e',hk⟩ | hk <;> simp[Builtin.append_,J5 ht,J5 hk,sizeOf,typeInfo,hi,hs.len,hs.cells],hb,zw,Or.inl ⟨rfl,rfl,rfl,rfl⟩⟩
 .have Fj:m*i.size+news.length<=vs.size:=by
   rw[UI,L8,<- Nat.add_mul];exact Nat.mul_le_mul_right _ zx
  refine⟨_,_,fun ty=>Ybq wr t tx E i ht hi w.heap.size m cap vs hB x n news hs zx Fj ty,?_,by rw[JS,hd,L8,Nat.add_mul],Or.inr ⟨cap,_,hc,rfl,GM wr _ vs _ _ _ hB,?_,?_⟩⟩
  .exact⟨hb.os,hb.tape,hb.output,by rw[Ef];exact hb.size,fun j hj=>(Db _ _ j _ zx).trans (hb.block j hj)⟩
  .simp[<- UI];omega
  .have:m*i.size=done.length:=hd.symm
   rw[this,Kv];show List.take (done++news).length ((done++news)++_)=_;exact List.take_left
section
def Zvo:(prog.info? 9).map (fun i=>(i.zero,i.size,i.bytes))=some (some<|sE,1,16):=zt
def Zzr (w:Bb) (xs:List (Nat×Bu)) (iv sv:Value) (wr:Bb):Prop:= ∃ k:Nat,k<=xs.length/\iv= zo (k:Int)/\sv= zo (Dv (xs.take k):Int)/\wr=w
def Z7h (E s:Nat) (w:Bb) (xs:List (Nat×Bu)) (iv nv:Value) (wr:Bb):Prop:= ∃ k:Nat,k<=xs.length/\iv= zo (k:Int)/\QD E s w nv (Xj<|xs.take k) (Dv<|xs.take k) (Dv xs) wr
def Ct (G t e s:Nat) (C:Nat):Prop:=(∃ z y,prog.underlying t=some (.slice e)/\(prog.info? e).map (fun i=>(i.zero,i.size,i.bytes))=some (some z,s,y)/\z.cells.size=s/\0<s/\y<=1000)/\((G=148/\C=83/\t=29)\/(G=257/\C=216/\t=32)\/(G=258/\C=217/\t=35))
def Zt1 {G t e s C:Nat}(I:Ct G t e s C)(n:Nat)(hn:n<1000000000)(w:Bb):Calls prog G #[zn,zo (n:Int)] w fun r w'=> ∃ nv,r=uY nv/\QD e s w nv [] 0 n w':=by
 obtain⟨⟨z,y,hI⟩,I⟩:=I;have HI:=AC hI;clear hI;rcases I with⟨rfl,rfl,rfl⟩ | ⟨rfl,rfl,rfl⟩ | ⟨rfl,rfl,rfl⟩;all_goals
  have h1: ¬ ((n:Int)<0):=zx
  by_cases h0:n=0
  .subst h0;go_in
   go_wp2
   go_ret
   exact⟨_,rfl,AR _ w,zw,Or.inl ⟨rfl,rfl,rfl,rfl⟩⟩
  .have h3:wrap64 ((n:Int)-0)=(n:Int):=by unfold wrap64;omega
   have h4:(n:Int) > 0:=zx
   obtain⟨cap,cells,hc,hs,hrun⟩:=Zvi (P:=prog) w _ 3 e z s y HI.o.1 underlying3 HI.o.2.1 HI.o.2.2.1 HI.o.2.2.2.1 HI.o.2.2.2.2 n zx hn;have H:=AC<|AJ hc hs;clear hc hs;go_in
   go_wp2_with (at_builtin;refine Lib.wpList_append_run _ rfl _ _ _ _ rfl _ _ rfl rfl _ _ (hrun _) ?_)
   go_ret
   exact⟨_,rfl,(AR _ w).drew.alloc lr _,zw,Or.inr ⟨cap,cells,H.o.1,rfl,AO.new _ _ _,H.o.2,rfl⟩⟩
def Zss {G t e s C:Nat}(I:Ct G t e s C){w:Bb}{b o c:Nat}{xs:List (Nat×Bu)}(hX: ∀ i x,xs[i]?=some x->b<w.heap.size/\ ∃ v,w.cell? (zm b (o+i))=some v/\P8 s w v x.1 x.2)(hl:xs.length<1000000)(hs:Dv xs<1000000000):Calls prog C #[sP (Qb b o) xs.length c] w fun r w'=> ∃ nv,r=uY nv/\QD e s w nv (Xj xs) (Dv xs) (Dv xs) w':=by
 obtain⟨n,hn⟩:=fu (xs.length);rw[hn];have HX:=AC hX;have HN:=AC hn;have HS:=AC hs;have CG:=AC<|Zt1 I (Dv xs) hs w;clear hX hn hs;obtain⟨⟨z,y,hI⟩,I⟩:=I;have HI:=AC hI;clear hI;rcases I with⟨rfl,rfl,rfl⟩ | ⟨rfl,rfl,rfl⟩ | ⟨rfl,rfl,rfl⟩;all_goals
  go_in
  go_wp2
  go_loopw [11,3] (fun iv sv wr=>Zzr w xs iv sv wr) (fun iv _ _=>xs.length-(intOf iv).toNat)
  .exact⟨0,zx,rfl,rfl,rfl⟩
  .obtain⟨k,hk,rfl,rfl,hw⟩:=hrel;obtain rfl:=hw.symm;by_cases hlt:k<n
   .have g:(k:Int)<(n:Int):=zx
    obtain⟨x,hx⟩: ∃ x,xs[k]?=some x:=⟨xs[k]'(fw (HN.o)),A8 _⟩;obtain⟨Af,v,hc,hv⟩:=HX.o k x hx;obtain⟨p,c1,rfl,NM,hr⟩:=hv;have ht:=ZY hx;have hS:=HS.o;have E:=AC ht;have e1:wrap64 ((Dv (xs.take k):Int)+(x.1:Int))=((Dv (xs.take k)+x.1:Nat):Int):=by unfold wrap64;omega
    have e2: ¬ (((Dv (xs.take k)+x.1:Nat):Int)<0):=Int.not_lt.2<|Int.natCast_nonneg _;clear hx ht hS hr;go_wp2_with fail
    rw[e1,<- E.o.1];exact⟨⟨k+1,fw (HN.o),zw,rfl,rfl⟩,by simp[intOf];have:=HN.o;omega⟩
   .obtain rfl:k=n:=fw (HN.o)
    rw[<- HN.o,On,HN.o];go_wp2_with fail
    apply CG.o.mono;rintro e w2 ⟨nv,rfl,hC⟩;have H2:=AC hC;clear hC CG;obtain⟨Zx,htot⟩:=fu (Dv xs);rw[htot]at H2⊢;go_wp2
    go_loopw [27,6] (fun iv nv wr=>Z7h e s w xs iv nv wr) (fun iv _ _=>xs.length-(intOf iv).toNat)
    .exact⟨0,zx,rfl,by rw[htot];exact H2.o⟩
    .clear H2;obtain⟨j,hj,rfl,hC⟩:=hrel;by_cases hlt:j<k
     .have g:(j:Int)<(k:Int):=zx
      obtain⟨x,hx⟩: ∃ x,xs[j]?=some x:=⟨xs[j]'(fw (HN.o)),A8 _⟩;obtain⟨Af,v,hc,hv⟩:=HX.o j x hx;have hc':=(hC.1.cell Af).trans hc;obtain⟨ll,w4,hrun,WN⟩:=hC.step HI.o.1 HI.o.2.1 ((hv.be hC.1).src HI.o.1) (ZY hx).2;rw[<- (ZY hx).1,<- Znb hx]at WN;obtain⟨p,c1,rfl,NM,hr⟩:=hv;have H4:=AC WN;have hrun:=AC hrun;clear hC hc WN hx hr;go_wp2_with (at_builtin;refine Lib.wpList_append_run _ rfl _ _ _ _ rfl _ _ rfl rfl _ _ (hrun.o _) ?_)
      exact⟨⟨j+1,fw (HN.o),zw,H4.o⟩,by simp[intOf];have:=HN.o;omega⟩
     .obtain rfl:j=k:=fw (HN.o)
      have H4:=AC hC;clear hC;go_wp2
      go_ret
      have:=H4.o
      rw[<- HN.o,On]at this;exact⟨u6,rfl,this⟩
def Z4w:= @Zss 148 29 9 1 83 ⟨⟨_,_,underlying29,Zvo,rfl,zu,zu⟩,.inl ⟨rfl,rfl,rfl⟩⟩
def Zz5:= @Zss 257 32 64 2 216 ⟨⟨_,_,underlying32,Zq0,rfl,zu,zu⟩,.inr<|.inl ⟨rfl,rfl,rfl⟩⟩
def Zz6:= @Zss 258 35 69 4 217 ⟨⟨_,_,underlying35,Zq1,rfl,zu,zu⟩,.inr<|.inr ⟨rfl,rfl,rfl⟩⟩
end
end Go.W
