import Derived.Test.YtpmcefkhkkpnbaaGreatDoorW00
set_option linter.all false
set_option maxRecDepth 100000
set_option maxHeartbeats 8000000
open Go.Proofs Go.RowKit Go.W Tryz
namespace Go.W
variable {k n q:Nat}{l r:By}{e:Int}
variable {ty:U2}{d:Nat}{w:Bb}{vs:Bu}{F:Cg}
def BQ.vals {x:T}(h:BQ ty (d+1) w vs x F): ∃ p c,vs=[zo x.k,zo x.i,um x.t,sP p x.l.length c]:=by
 obtain⟨lv,rfl,_,_,_,h⟩:=h;obtain⟨p,c,rfl⟩:=AQ.form h;exact⟨p,c,rfl⟩
def Bz.vals {x:A}(h:Bz ty d w vs x F): ∃ p c,vs=[um x.name,sP p x.te.length c]:=by
 obtain⟨tv,rfl,_,h⟩:=h;obtain⟨p,c,rfl⟩:=AQ.form h;exact⟨p,c,rfl⟩
def Eo.vals {x:G}(h:Eo ty (d+1) w vs x F): ∃ p c p' c',vs=[zo x.op,zo x.a.k,zo x.a.i,um x.a.t,sP p x.a.l.length c,zo x.b.k,zo x.b.i,um x.b.t,sP p' x.b.l.length c']:=by
 obtain⟨va,vb,Fa,Fb,rfl,_,ha,hb,_⟩:=h;obtain⟨p,c,rfl⟩:=BQ.vals ha;obtain⟨p',c',rfl⟩:=BQ.vals hb;exact⟨p,c,p',c',rfl⟩
def DI.vals {x:R}(h:DI ty d w vs x F): ∃ p c p' c' p2 c2,vs=[um x.head.name,sP p x.head.te.length c,sP p' x.body.length c',sP p2 x.gu.length c2]:=by
 obtain⟨hv,bv,gv,Fh,Fb,Fg,rfl,hh,hb,hg,_⟩:=h;obtain⟨p,c,rfl⟩:=Bz.vals hh;obtain⟨p',c',rfl⟩:=AQ.form hb;obtain⟨p2,c2,rfl⟩:=AQ.form hg;exact⟨p,c,p',c',p2,c2,rfl⟩
def Ew.vals {x:List R}(h:Ew ty d w vs x F): ∃ p c,vs=[sP p x.length c]:=by
 obtain⟨v,rfl,h⟩:=h;obtain⟨p,c,rfl⟩:=AQ.form h;exact⟨p,c,rfl⟩
def DY.vals {x:Dk}(h:DY ty d w vs x F): ∃ p c,vs=[.bool x.allow,sP p x.either.length c]:=by
 obtain⟨v,rfl,h⟩:=h;obtain⟨p,c,rfl⟩:=AQ.form h;exact⟨p,c,rfl⟩
def Z6a {α:Type}{f:De α}(h:f l= .error e):FR f (k+1) l= .error e:=De.Ae h
def Ygk {α:Type}{f:De α}{x:α}(h:f l= .ok (x,r)):FR f (k+1) l=(FR f k).map (fun ys=>x::ys) r:=De.then_ok h
def Iy {α:Type} (e:TypeId) (s:Nat) (Q:Du α) (f:De α) (n:Nat) (Y:Except Int (List α×By)) (D:Bb->By->Prop) (w:Bb) (tv iv:Value) (wr:Bb):Prop:=
 ∃ (q:Nat) (xs:List α) (r:By) (F:Cg) (p:Bp) (c:Nat),q<=n/\iv= .int .u64 (q:Int)/\tv= sP p q c/\xs.length=q/\AQ e s Q wr (sP p q c) xs F/\Ag w.heap.size wr F/\(FR f<|n-q).map (fun ys=>xs++ys) r=Y/\D wr r
def Iy.step {α:Type}{f:De α}{xs:List α}{x:α}{r':By}{Y:Except Int (List α×By)}(hq:q<n)(h:(FR f<|n-q).map (fun ys=>xs++ys) r=Y)(hf:f r= .ok (x,r')):(FR f<|n-(q+1)).map (fun ys=>(xs++[x])++ys) r'=Y:=by
 obtain⟨k,hk⟩: ∃ k,n-q=k+1:=⟨n-q-1,zx⟩;rw[hk]at h;rw[show n-(q+1)=k by omega,<- h];have e:=Ygk (k:=k) hf;unfold De.map;rw[e];unfold De.map;cases FR f k r' with
 | error e=>rfl
 | ok y=>simp
def Iy.stop {α:Type}{f:De α}{xs:List α}{Y:Except Int (List α×By)}(hq:q<n)(h:(FR f<|n-q).map (fun ys=>xs++ys) r=Y)(hf:f r= .error e):Y= .error e:=by
 obtain⟨k,hk⟩: ∃ k,n-q=k+1:=⟨n-q-1,zx⟩;rw[hk]at h;rw[<- h];exact De.Az<|Z6a hf
def Iy.done {α:Type}{f:De α}{xs:List α}{Y:Except Int (List α×By)}(h:(FR f<|n-n).map (fun ys=>xs++ys) r=Y):Y= .ok (xs,r):=by
 rw[Nat.sub_self]at h;rw[<- h];simp[De.map,FR]
section
def Hr (a:Nat->Addr) (b:Nat) (w wr:Bb) (r:By):Prop:=Dc wr b r/\Ad b w wr/\AZ a wr
section
variable {n1 n2 n3 n4 n5 n6 n7 d:Nat}
def shT:Sh n1 n2 n3 n4 n5 n6 n7 n1 62 95 4 56 (BQ AV<|d+1):=⟨⟨Zqi,BQ.sb _,fun _ _ _ _=>BQ.one⟩,.inr<|.inr<|.inl ⟨rfl,rfl,rfl,fun h _ f=>let ⟨_,_,h⟩:=BQ.vals h;f _ _ _ _ _ _ h⟩⟩
def shA:Sh n1 n2 n3 n4 n5 n6 n7 n2 32 64 2 40 (Bz AV d):=⟨⟨Zxi,Bz.sb _,fun _ _ _ _=>Bz.one⟩,.inr<|.inr<|.inr<|.inl ⟨rfl,rfl,rfl,fun h _ f=>let ⟨_,_,h⟩:=Bz.vals h;f _ _ _ _ h⟩⟩
def shG:Sh n1 n2 n3 n4 n5 n6 n7 n3 67 97 9 120 (Eo AV<|d+1):=⟨⟨Ztk,Eo.sb _,fun _ _ _ _=>Eo.one⟩,.inr<|.inr<|.inr<|.inr<|.inl ⟨rfl,rfl,rfl,fun h _ f=>let ⟨_,_,_,_,h⟩:=Eo.vals h;f _ _ _ _ _ _ _ _ _ _ _ _ _ h⟩⟩
def shR:Sh n1 n2 n3 n4 n5 n6 n7 n4 35 69 4 88 (DI AV d):=⟨⟨Zxk,DI.sb _,fun _ _ _ _=>DI.one⟩,.inr<|.inr<|.inr<|.inr<|.inr<|.inl ⟨rfl,rfl,rfl,fun h _ f=>let ⟨_,_,_,_,_,_,h⟩:=DI.vals h;f _ _ _ _ _ _ _ _ _ _ h⟩⟩
def shC:Sh n1 n2 n3 n4 n5 n6 n7 n5 36 134 1 24 (Ew AV d):=⟨⟨Ztj,Ew.sb _,fun _ _ _ _=>Ew.one⟩,.inr<|.inr<|.inr<|.inr<|.inr<|.inr ⟨rfl,rfl,rfl,fun h _ f=>let ⟨_,_,h⟩:=Ew.vals h;f _ _ _ h⟩⟩
def shP (h0:0<n6):Sh n1 n2 n3 n4 n5 n6 n7 n6 28 189 2 32 (DY AV d):=⟨⟨Ybx,DY.sb _,fun _ _ _ _=>DY.one⟩,.inl ⟨h0,rfl,rfl,rfl,fun h _ f=>let ⟨_,_,h⟩:=DY.vals h;f _ _ _ _ h⟩⟩
end
def Gs {α:Type}{Q:Du α}{N t e s z:Nat}(I:Sh 294 283 297 285 287 0 214 N t e s z Q){K:Nat}(hen:Da K){first cap:Ca}{f:De α}{a:Nat->Addr}{w:Bb}{b m:Nat}{l:By}(Z:AZ a w)(h:Dc w b l)(hm:m<1000)
  (HC: ∀ u r,Hr a b w u r->Calls prog K (first++cap) u (Iw a b (Ie Q u.heap.size) u<|f r)):
  Calls prog N #[zq b 0,.int .u64 (m:Int),.func (.func K) first cap] w (Iw a b (S9 e s Q w.heap.size) w<|DF m f l):=by
 obtain⟨HI,I⟩:=I;have HI:=AC HI;have C:=AC<|Ze Z h;have HH:=AC HC;have Dz: ∀ args w,(callFunc K args).run prog w= .ok (.enter K args) w:=hen;have hgb:=h.2.2;have ZZ:=AC Z;have E9:=h.1.lt;clear HC hen Z h;rcases I with⟨h,_⟩ | ⟨_,rfl,rfl,hs,hV⟩ | ⟨rfl,rfl,hs,hV⟩ | ⟨rfl,rfl,hs,hV⟩ | ⟨rfl,rfl,hs,hV⟩ | ⟨rfl,rfl,hs,hV⟩ | ⟨rfl,rfl,hs,hV⟩
 .cases h
 all_goals
  have HS:=AC hs;clear hs;go_in
  go_wp2_with fail
  apply C.o.mono;rintro e w1 ⟨AX,⟨i,hy,hi,rfl⟩ | ⟨n,r1,v,hy,rfl,⟨rfl,hn⟩,Bc⟩⟩
  .exact⟨rfl,AX,Or.inl ⟨i,De.Ae hy,hi,rfl⟩⟩
  have Y:=AC<|De.then_ok (g:=fun n=>if m<n then fun _=>Except.error 4 else FR f n) hy;have D1:AF (Hr a b w w1 r1):=⟨Bc,AX,ZZ.o.keeps AX hgb⟩;clear AX Bc hy C;by_cases hlt:m<n
  .have Y4:AF (DF m f l= .error 4):=⟨by rw[DF,Y.o,xj hlt]⟩;have g:(m:Int)<(n:Int):=zx
   have z4:=D1.o.2.2.c4;have CR:=AC<|QL a b w1 (n:=4) zu;clear HH Y;go_wp2_with fail
   apply mq CR.o;rintro w2 rfl;exact⟨rfl,D1.o.2.1,Or.inl ⟨4,Y4.o,zu,rfl⟩⟩
  .have Y4:AF (DF m f l=FR f n r1):=⟨by rw[DF,Y.o,xd hlt]⟩;have g: ¬ (m:Int)<(n:Int):=zx
   clear Y;go_wp2
   go_loopw [8,18] (fun tv iv wr=>Iy e s Q f n (DF m f l) (Hr a b w) w tv iv wr) (fun _ iv _=>n-(intOf iv).toNat)
   .exact⟨0,[],r1,[],none,0,zx,rfl,rfl,rfl,AQ.nil,Ag.nil _ _,by rw[Y4.o];simp[De.map];cases FR f n r1 <;> rfl,D1.o⟩
   .obtain⟨q,xs,r,F,p,c,hq,rfl,rfl,FY,hR,hN,hY,hD⟩:=hrel;by_cases Pe:q<n
    .have HR:=AC hR;have HN:=AC hN;have HY:=AC hY;have HD:=AC hD;have HX:=AC FY;have CC:=AC<|HH.o _ _ hD;have g2:(q:Int)<(n:Int):=zx
     clear hR hN hY hD FY HH;go_wp2_with fail
     apply CC.o.mono;rintro e w2 ⟨hk2,⟨i,hy,hi,rfl⟩ | ⟨x,r2,v,hy,rfl,⟨vs,F2,rfl,hQ,BZ⟩,Cj⟩⟩
     .exact⟨rfl,HD.o.2.1.trans hk2,Or.inl ⟨i,Iy.stop Pe HY.o hy,hi,rfl⟩⟩
     refine hV hQ ?_;intros
     rename_i hv;subst hv;have NY:=AC<|Iy.step Pe HY.o hy;have D2:AF (Hr a b w w2 r2):=⟨Cj,HD.o.2.1.trans hk2,HD.o.2.2.keeps hk2 hgb⟩;have hs2:=hk2.size;have hsw:=HD.o.2.1.size;have bF:AF (∀ j,j∈F->j≠b):=⟨fun j hj=>fw (HN.o.ge j hj)⟩;have Ao:AF (AQ e s Q w2 (sP p q c) xs F):=⟨AQ.sb HI.o.2.1 _ _ _ _ _ HR.o fun j hj=>hk2.block j (HN.o.lt j hj) (bF.o j hj)⟩;have HQ:=AC hQ;have N8:AF (Ag w.heap.size w2 F2):=⟨BZ.la zx lr⟩;have IW:AF (Ag w.heap.size w2 F):=⟨HN.o.la lr zx⟩;have XO:AF (∀ j,j∈F->j∉F2):=⟨fun j hj Am=>jE (HN.o.lt j hj) (BZ.ge j Am)⟩;have GU:xs.length<100000000:=by rw[HX.o];omega
     clear hQ BZ hk2 Cj hy CC HR HY HN;go_wp2_with (at_builtin;go_must (refine Nu HI.o.1 rfl _ _ rfl HI.o.2.1 HI.o.2.2 w.heap.size (sP p q c) xs F rfl (AQ.sb HI.o.2.1 _ _ _ _ _ Ao.o fun j hj=>Ah _ _ _ (IW.o.lt j hj)) w2.heap.size _ _ _ x F2 rfl (Hw _ _) HS.o.symm (HI.o.2.1 _ _ _ _ _ HQ.o fun j hj=>Ah _ _ _ (N8.o.lt j hj)) GU zc (IW.o.la lr zw) (N8.o.la lr zw) XO.o ?_);intro g3 cap3 w4 F3 AM)
     have R4:=AM.row;rw[HX.o]at R4;have hb4:w4.heap[b]?=w2.heap[b]?:=(AM.same b (by have:=D2.o.1.1.lt;simp;omega) (fun hj=>fw (IW.o.ge b hj))).trans<|Ah _ _ _ D2.o.1.1.lt;have K4:=Ad.UW AM (D2.o.2.1.alloc _) fun j hj=>IW.o.ge j hj;have D4:AF (Hr a b w w4 r2):=⟨D2.o.1.of hb4,K4,ZZ.o.keeps K4 hgb⟩;try rw[HX.o]
     go_roundw
     .exact⟨q+1,xs++[x],r2,F3,_,_,zx,by go_num,rfl,by simp[HX.o],R4,AM.new,NY.o,D4.o⟩
     simp[intOf];omega
    .obtain rfl:q=n:=zx
     have Y5:=AC<|Iy.done hY;have g2: ¬ (q:Int)<(q:Int):=zx
     have H5:=AC<|AJ hR<|AJ hN hD;clear hR hN hY hD HH;go_wp2
     go_ret
     exact⟨H5.o.2.2.2.1,Or.inr ⟨xs,r,_,Y5.o,rfl,⟨F,H5.o.1,H5.o.2.1⟩,H5.o.2.2.1⟩⟩
def Zqd {d:Nat}:= @Gs _ (BQ AV<|d+1) _ _ _ _ _<|shT (d:=d)
def Zjj {d:Nat}:= @Gs _ (Bz AV d) _ _ _ _ _<|shA (d:=d)
def Zo3 {d:Nat}:= @Gs _ (Eo AV<|d+1) _ _ _ _ _<|shG (d:=d)
def Zjk {d:Nat}:= @Gs _ (DI AV d) _ _ _ _ _<|shR (d:=d)
def Zo2 {d:Nat}:= @Gs _ (Ew AV d) _ _ _ _ _<|shC (d:=d)
end
variable {b:Nat}{a:Nat->Addr}
def MR: ∀ (fn:Fn) (first cap:Ca) (w:Bb),(Instr.makeFunc fn first cap).run prog w= .ok (.func fn first cap) w:=fun _ _ _ _=>rfl
def Yg6 (m:Nat)(y:Int):bits .xor .i64 (m:Int) y=IntKind.i64.wrap (((BitVec.ofInt 64 (m:Int)) ^^^ (BitVec.ofInt 64 y)).toNat:Int):=rfl
def Z6y (n:Nat)(hn:n<18446744073709551616):bits .xor .i64 ((n:Int) / 2) (wrap64 (-wrap64 (bits .and .u64 (n:Int) 1)))=Wj n:=by
 have e1:bits .and .u64 (n:Int) 1=((n % 2:Nat):Int):=by
  have:=u64_and_nat n 1 hn zu
  rw[Nat.and_one_is_mod]at this;exact this
 have e2:(n:Int) / 2=((n / 2:Nat):Int):=zx
 have DK:(BitVec.ofInt 64 ((n / 2:Nat):Int)).toNat=n / 2:=ofInt_u64 _ zx;rw[e1,e2,Yg6];unfold Wj;by_cases h:n % 2=0
 .rw[xj h,h]
  have:wrap64 (-wrap64 ((0:Nat):Int))=0:=by simp[wrap64]
  rw[this]
  have:BitVec.ofInt 64 0=0#64:=rfl
  rw[this,BitVec.xor_zero,DK,IntKind.wrap_i64];omega
 .rw[xd h,show n % 2=1 by omega]
  have:wrap64 (-wrap64 ((1:Nat):Int))= -1:=by simp[wrap64]
  rw[this]
  have:BitVec.ofInt 64 (-1)=BitVec.allOnes 64:=zu
  rw[this,BitVec.xor_allOnes,BitVec.toNat_not,DK,IntKind.wrap_i64];omega
def Zy3 (n:Nat)(hn:n<18446744073709551616)(w:Bb):Calls prog 303 #[.int .u64 (n:Int)] w fun e w'=>e=uY (.int .i64<|Wj n)/\w'=w:=by
 go_in
 go_wp2
 go_ret
 exact⟨Yai<|Z6y n hn,rfl⟩
def Zsk:Da 295:=EH func295 zt rfl
def Zc (d:Nat):Prop:= ∀ {a:Nat->Addr} {w:Bb} {b:Nat} {l:By},AZ a w->Dc w b l->Calls prog 296 #[zq b 0,zo ((3-d:Nat):Int)] w (Iw a b (Ie (BQ AV<|d+1) w.heap.size) w<|MO d l)
def Z0b (ih:Zc d){L1 L2:Nat}(Z:AZ a w)(h:Dc w b l)(k1:w.cell? (zm L1 0)=some (zq b 0))(k2:w.cell? (zm L2 0)=some (zo ((3-d:Nat):Int))):
  Calls prog 295 #[zq L1 0,zq L2 0] w (Iw a b (Ie (BQ AV<|d+1) w.heap.size) w<|MO d l):=by
 have l1:=fun o=>Cb k1 ((AR _ w).alloc lr o);have l2:=fun o=>Cb k2 ((AR _ w).alloc lr o);have C:=AC<|ih (Z.be<|(AR _ w).alloc lr<|.cells #[zo 0,zo 0,sE,zn] 95)<|h.alloc<|.cells #[zo 0,zo 0,sE,zn] 95;have hb:=h.1.lt;have L0:=AC<|AO.new w #[zo 0,zo 0,sE,zn] 95;have K0:=AC<|(Ad.refl b w).alloc<|.cells #[zo 0,zo 0,sE,zn] 95;obtain⟨dd,hdd⟩: ∃ z:Int,((3-d:Nat):Int)=z:=⟨_,rfl⟩;rw[hdd]at l2 C;clear k1 k2 Z h hdd;go_in
 go_wp2_with fail
 apply C.o.mono;rintro e w1 ⟨AX,⟨i,hy,hi,rfl⟩ | ⟨x,r1,v,hy,rfl,⟨vs,F,rfl,hQ,hN⟩,Bc⟩⟩
 .exact⟨rfl,K0.o.trans AX,Or.inl ⟨i,hy,hi,rfl⟩⟩
 .obtain⟨p1,c1,rfl⟩:=BQ.vals hQ;obtain⟨y0,y1,y2,y3,sf⟩:=(L0.o.of<|AX.block w.heap.size zw zx).four;have R:=AC<|AJ hQ<|AJ hN<|AJ Bc<|AJ hy<|K0.o.trans AX;clear hQ hN Bc hy AX C;go_wp2
  refine Bg (by simp[results,results295,go_sem,y0,y1,y2,y3];try rfl) rfl ?_;obtain⟨hQ,hN,Bc,hy,AX⟩:=R.o;exact⟨AX.r4 lr,Or.inr ⟨x,r1,_,hy,rfl,⟨_,F,rfl,BQ.sb (d+1) _ _ _ _ _ hQ fun j hj=>KY (by have:=hN.ge j hj;simp at this;omega),hN.la zw zw⟩,Bc.of<|KY zx⟩⟩
def Zti (ih:Zc d)(Z:AZ a w)(h:Dc w b l):
  Calls prog 291 #[zq b 0,zo ((3-d:Nat):Int)] w (Iw a b (S9 95 4 (BQ AV<|d+1) w.heap.size) w<|DF 6 (MO d) l):=by
 have Ho:=MR;obtain⟨dd,hdd⟩: ∃ z:Int,((3-d:Nat):Int)=z:=⟨_,rfl⟩;have B0:=AC<|(zv w<|.cells #[zq b 0] 284).alloc zw<|.cells #[zo dd] 3;have K0:=AC<|((Ad.refl b w).alloc<|.cells #[zq b 0] 284).alloc<|.cells #[zo dd] 3;have L1:=AC<|(AO.new w #[zq b 0] 284).alloc<|.cells #[zo dd] 3;have L2:=AC<|AO.new (w.alloc<|.cells #[zq b 0] 284) #[zo dd] 3;have hb:=h.1.lt;have C:=AC (Zqd (d:=d) (f:=MO d) Zsk (first:=#[]) (cap:=#[zq w.heap.size 0,zq (w.heap.size+1) 0]) (m:=6) (Z.be B0.o) ((h.alloc<|.cells #[zq b 0] 284).alloc<|.cells #[zo dd] 3) zx fun u r hu=>Z0b ih hu.2.2 hu.1 ((L1.o.of<|hu.2.1.block w.heap.size zc zx).one.1) (by rw[hdd];have:=(L2.o.of<|hu.2.1.block _ zw zc).one.1;simpa using this));rw[hdd];clear Z h ih hdd;go_in
 go_wp2_with fail
 apply C.o.mono;rintro e w1 ⟨AX,⟨i,hy,hi,rfl⟩ | ⟨xs,r1,v,hy,rfl,⟨F,hR,hN⟩,Bc⟩⟩
 .exact⟨rfl,K0.o.trans AX,Or.inl ⟨i,hy,hi,rfl⟩⟩
 .obtain⟨p1,c1,rfl⟩:=AQ.form hR;have R:=AC<|AJ hR<|AJ hN<|AJ Bc<|AJ hy<|K0.o.trans AX;clear hR hN Bc hy AX C;go_wp2
  go_ret
  obtain⟨hR,hN,Bc,hy,AX⟩:=R.o;exact⟨AX,Or.inr ⟨xs,r1,_,hy,rfl,⟨F,hR,hN.la zc lr⟩,Bc⟩⟩
end Go.W
