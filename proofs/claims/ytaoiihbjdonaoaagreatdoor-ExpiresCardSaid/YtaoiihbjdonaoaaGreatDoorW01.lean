import Derived.Test.YtaoiihbjdonaoaaGreatDoorW00
set_option linter.defProp false
set_option maxRecDepth 100000
set_option maxHeartbeats 8000000
set_option linter.unusedSimpArgs false
open Go.Proofs Go.RowKit Go.W Tryz
namespace Go.W
variable {k n q:Nat}{l r:By}{e:Int}
variable {ty:U2} {d:Nat} {w:World} {vs:List Value} {F:List Nat}
def BQ.vals {x:T}(h:BQ ty (d+1) w vs x F): ∃ p c,vs=[zo x.k,zo x.i,.string x.t,.slice p x.l.length c]:=by
 obtain⟨lv,rfl,_,_,_,h⟩:=h;obtain⟨p,c,rfl⟩:=AQ.form h;exact⟨p,c,rfl⟩
def Bz.vals {x:A}(h:Bz ty d w vs x F): ∃ p c,vs=[.string x.name,.slice p x.terms.length c]:=by
 obtain⟨tv,rfl,_,h⟩:=h;obtain⟨p,c,rfl⟩:=AQ.form h;exact⟨p,c,rfl⟩
def Eo.vals {x:G}(h:Eo ty (d+1) w vs x F): ∃ p c p' c',vs=[zo x.op,zo x.a.k,zo x.a.i,.string x.a.t,.slice p x.a.l.length c,zo x.b.k,zo x.b.i,.string x.b.t,.slice p' x.b.l.length c']:=by
 obtain⟨va,vb,Fa,Fb,rfl,_,ha,hb,_⟩:=h;obtain⟨p,c,rfl⟩:=BQ.vals ha;obtain⟨p',c',rfl⟩:=BQ.vals hb;exact⟨p,c,p',c',rfl⟩
def DI.vals {x:R}(h:DI ty d w vs x F): ∃ p c p' c' p2 c2,vs=[.string x.head.name,.slice p x.head.terms.length c,.slice p' x.body.length c',.slice p2 x.guards.length c2]:=by
 obtain⟨hv,bv,gv,Fh,Fb,Fg,rfl,hh,hb,hg,_⟩:=h;obtain⟨p,c,rfl⟩:=Bz.vals hh;obtain⟨p',c',rfl⟩:=AQ.form hb;obtain⟨p2,c2,rfl⟩:=AQ.form hg;exact⟨p,c,p',c',p2,c2,rfl⟩
def Ew.vals {x:List R}(h:Ew ty d w vs x F): ∃ p c,vs=[.slice p x.length c]:=by
 obtain⟨v,rfl,h⟩:=h;obtain⟨p,c,rfl⟩:=AQ.form h;exact⟨p,c,rfl⟩
def Z6a {α:Type}{f:De α}(h:f l= .error e):FR f (k+1) l= .error e:=De.Ae h
def Ygk {α:Type}{f:De α}{x:α}(h:f l= .ok (x,r)):FR f (k+1) l=(FR f k).map (fun ys=>x::ys) r:=De.then_ok h
def Iy {α:Type} (e:TypeId) (s:Nat) (Q:Du α) (f:De α) (n:Nat) (Y:Except Int (List α×By)) (D:World->By->Prop) (w:World) (tv iv:Value) (wr:World):Prop:=
 ∃ (q:Nat) (xs:List α) (r:By) (F:List Nat) (p:Option Addr) (c:Nat),q<=n/\iv= .int .u64 (q:Int)/\tv= .slice p q c/\xs.length=q/\AQ e s Q wr (.slice p q c) xs F/\Ag w.heap.size wr F/\(FR f<|n-q).map (fun ys=>xs++ys) r=Y/\D wr r
def Iy.step {α:Type}{f:De α}{xs:List α}{x:α}{r':By}{Y:Except Int (List α×By)}(hq:q<n)(h:(FR f<|n-q).map (fun ys=>xs++ys) r=Y)(hf:f r= .ok (x,r')):(FR f<|n-(q+1)).map (fun ys=>(xs++[x])++ys) r'=Y:=by
 obtain⟨k,hk⟩: ∃ k,n-q=k+1:=⟨n-q-1,zx⟩;rw[hk]at h;rw[show n-(q+1)=k by omega,<- h];have e:=Ygk (k:=k) hf;unfold De.map;rw[e];unfold De.map;cases FR f k r' with
 | error e=>rfl
 | ok y=>simp
def Iy.stop {α:Type}{f:De α}{xs:List α}{Y:Except Int (List α×By)}(hq:q<n)(h:(FR f<|n-q).map (fun ys=>xs++ys) r=Y)(hf:f r= .error e):Y= .error e:=by
 obtain⟨k,hk⟩: ∃ k,n-q=k+1:=⟨n-q-1,zx⟩;rw[hk]at h;rw[<- h];exact De.Az<|Z6a hf
def Iy.done {α:Type}{f:De α}{xs:List α}{Y:Except Int (List α×By)}(h:(FR f<|n-n).map (fun ys=>xs++ys) r=Y):Y= .ok (xs,r):=by
 rw[Nat.sub_self]at h;rw[<- h];simp[De.map,FR]
end Go.W
namespace Go.P
variable {K d b m:Nat}{first cap:Array Value}{a:Nat->Addr}{w:World}{l:By}
def Hr (a:Nat->Addr) (b:Nat) (w wr:World) (r:By):Prop:=Dc wr b r/\Ad b w wr/\AZ a wr
def Zqd (hen:Da K){f:De T}(Z:AZ a w)(h:Dc w b l)(hm:m<1000)
  (HC: ∀ u r,Hr a b w u r->Calls prog K (first++cap) u (Iw a b (Ie (BQ AV<|d+1) u.heap.size) u<|f r)):
  Calls prog 258 #[zq b 0,.int .u64 (m:Int),.func (.func K) first cap] w (Iw a b (S9 46 4 (BQ AV<|d+1) w.heap.size) w<|DF m f l):=by
 have C:=AC<|Ze Z h;have HH:=AC HC;have Dz: ∀ args w,(callFunc K args).run prog w= .ok (.enter K args) w:=hen;have hgb:=h.2.2;have ZZ:=AC Z;have E9:=h.1.lt;clear HC hen Z h;go_in
 go_wp2_with fail
 refine C.out.mono ?_;rintro e w1 ⟨AX,⟨i,hy,hi,rfl⟩ | ⟨n,r1,v,hy,rfl,⟨rfl,hn⟩,Bc⟩⟩
 ·exact⟨rfl,AX,Or.inl ⟨i,De.Ae hy,hi,rfl⟩⟩
 have Y:=AC<|De.then_ok (g:=fun n=>if m<n then fun _=>Except.error 4 else FR f n) hy;have D1:AF (Hr a b w w1 r1):=⟨Bc,AX,ZZ.out.keeps AX hgb⟩;clear AX Bc hy C;by_cases hlt:m<n
 ·have Y4:AF (DF m f l= .error 4):=⟨by rw[DF,Y.out,if_pos hlt]⟩;have g:(m:Int)<(n:Int):=zx
  have z4:=D1.out.2.2.c4;have CR:=AC<|QL a b w1 (n:=4) zu;clear HH Y;go_wp2_with fail
  refine mq CR.out ?_;rintro w2 rfl;exact⟨rfl,D1.out.2.1,Or.inl ⟨4,Y4.out,zu,rfl⟩⟩
 ·have Y4:AF (DF m f l=FR f n r1):=⟨by rw[DF,Y.out,if_neg hlt]⟩;have g: ¬ (m:Int)<(n:Int):=zx
  clear Y;go_wp2
  go_loopw [8,18] (fun tv iv wr=>Iy 46 4 (BQ AV<|d+1) f n (DF m f l) (Hr a b w) w tv iv wr) (fun _ iv _=>n-(intOf iv).toNat)
  case atStart=>exact⟨0,[],r1,[],none,0,zx,rfl,rfl,rfl,AQ.nil,Ag.nil _ _,by rw[Y4.out];simp[De.map];cases FR f n r1 <;> rfl,D1.out⟩
  case round=>
   obtain⟨q,xs,r,F,p,c,hq,rfl,rfl,FY,hR,hN,hY,hD⟩:=hrel;by_cases Pe:q<n
   ·have HR:=AC hR;have HN:=AC hN;have HY:=AC hY;have HD:=AC hD;have HX:=AC FY;have CC:=AC<|HH.out _ _ hD;have g2:(q:Int)<(n:Int):=zx
    clear hR hN hY hD FY HH;go_wp2_with fail
    refine CC.out.mono ?_;rintro e w2 ⟨hk2,⟨i,hy,hi,rfl⟩ | ⟨x,r2,v,hy,rfl,⟨vs,F2,rfl,hQ,BZ⟩,Cj⟩⟩
    ·exact⟨rfl,HD.out.2.1.trans hk2,Or.inl ⟨i,Iy.stop Pe HY.out hy,hi,rfl⟩⟩
    obtain⟨p1,c1,rfl⟩:=BQ.vals hQ;have NY:=AC<|Iy.step Pe HY.out hy;have D2:AF (Hr a b w w2 r2):=⟨Cj,HD.out.2.1.trans hk2,HD.out.2.2.keeps hk2 hgb⟩;have hs2:=hk2.size;have hsw:=HD.out.2.1.size;have bF:AF (∀ j,j∈F->j≠b):=⟨fun j hj=>by have:=HN.out.ge j hj;omega⟩;have Ao:AF (AQ 46 4 (BQ AV<|d+1) w2 (.slice p q c) xs F):=⟨AQ.stable (BQ.stable (ty:=AV)<|d+1) _ _ _ _ _ HR.out fun j hj=>hk2.block j (HN.out.lt j hj) (bF.out j hj)⟩;have HQ:=AC hQ;have N8:AF (Ag w.heap.size w2 F2):=⟨BZ.later zx lr⟩;have IW:AF (Ag w.heap.size w2 F):=⟨HN.out.later lr zx⟩;have XO:AF (∀ j,j∈F->j∉F2):=⟨fun j hj Am=>by have:=HN.out.lt j hj;have:=BZ.ge j Am;omega⟩;have GU:xs.length<100000000:=by rw[HX.out];omega
    clear hQ BZ hk2 Cj hy CC HR HY HN;go_wp2_with (at_builtin;go_must (refine Nu Zqi rfl (.tmp 20) (.tmp 23) rfl (BQ.stable (ty:=AV)<|d+1) (fun _ _ _ _ h=>BQ.one h) w.heap.size (.slice p q c) xs F rfl (AQ.stable (BQ.stable (ty:=AV)<|d+1) _ _ _ _ _ Ao.out fun j hj=>Ah _ _ _ (IW.out.lt j hj)) w2.heap.size #[zo x.k,zo x.i,.string x.t,.slice p1 x.l.length c1] 46 (0,0) x F2 rfl (Hw _ _) rfl (BQ.stable (ty:=AV) (d+1) _ _ _ _ _ HQ.out fun j hj=>Ah _ _ _ (N8.out.lt j hj)) GU (by simp;omega) (IW.out.later lr zw) (N8.out.later lr zw) XO.out ?_);intro g3 cap3 w4 F3 AM)
    have R4:=AM.row;rw[HX.out]at R4;have hb4:w4.heap[b]?=w2.heap[b]?:=(AM.same b (by have:=D2.out.1.1.lt;simp;omega) (fun hj=>by have:=IW.out.ge b hj;omega)).trans<|Ah _ _ _ D2.out.1.1.lt;have K4:=Ad.UW AM (D2.out.2.1.alloc _) fun j hj=>IW.out.ge j hj;have D4:AF (Hr a b w w4 r2):=⟨D2.out.1.of hb4,K4,ZZ.out.keeps K4 hgb⟩;try rw[HX.out]
    go_roundw
    case rel=>exact⟨q+1,xs++[x],r2,F3,_,_,zx,by go_num,rfl,by simp[HX.out],R4,AM.new,NY.out,D4.out⟩
    case measure=>simp[intOf];omega
   ·obtain rfl:q=n:=zx
    have Y5:=AC<|Iy.done hY;have g2: ¬ (q:Int)<(q:Int):=zx
    have H5:=AC<|AJ hR<|AJ hN hD;clear hR hN hY hD HH;go_wp2
    go_ret
    exact⟨H5.out.2.2.2.1,Or.inr ⟨xs,r,_,Y5.out,rfl,⟨F,H5.out.1,H5.out.2.1⟩,H5.out.2.2.1⟩⟩
def Zjj (hen:Da K){f:De A}(Z:AZ a w)(h:Dc w b l)(hm:m<1000)
  (HC: ∀ u r,Hr a b w u r->Calls prog K (first++cap) u (Iw a b (Ie (Bz AV d) u.heap.size) u<|f r)):
  Calls prog 231 #[zq b 0,.int .u64 (m:Int),.func (.func K) first cap] w (Iw a b (S9 41 2 (Bz AV d) w.heap.size) w<|DF m f l):=by
 have C:=AC<|Ze Z h;have HH:=AC HC;have Dz: ∀ args w,(callFunc K args).run prog w= .ok (.enter K args) w:=hen;have hgb:=h.2.2;have ZZ:=AC Z;have E9:=h.1.lt;clear HC hen Z h;go_in
 go_wp2_with fail
 refine C.out.mono ?_;rintro e w1 ⟨AX,⟨i,hy,hi,rfl⟩ | ⟨n,r1,v,hy,rfl,⟨rfl,hn⟩,Bc⟩⟩
 ·exact⟨rfl,AX,Or.inl ⟨i,De.Ae hy,hi,rfl⟩⟩
 have Y:=AC<|De.then_ok (g:=fun n=>if m<n then fun _=>Except.error 4 else FR f n) hy;have D1:AF (Hr a b w w1 r1):=⟨Bc,AX,ZZ.out.keeps AX hgb⟩;clear AX Bc hy C;by_cases hlt:m<n
 ·have Y4:AF (DF m f l= .error 4):=⟨by rw[DF,Y.out,if_pos hlt]⟩;have g:(m:Int)<(n:Int):=zx
  have z4:=D1.out.2.2.c4;have CR:=AC<|QL a b w1 (n:=4) zu;clear HH Y;go_wp2_with fail
  refine mq CR.out ?_;rintro w2 rfl;exact⟨rfl,D1.out.2.1,Or.inl ⟨4,Y4.out,zu,rfl⟩⟩
 ·have Y4:AF (DF m f l=FR f n r1):=⟨by rw[DF,Y.out,if_neg hlt]⟩;have g: ¬ (m:Int)<(n:Int):=zx
  clear Y;go_wp2
  go_loopw [8,18] (fun tv iv wr=>Iy 41 2 (Bz AV d) f n (DF m f l) (Hr a b w) w tv iv wr) (fun _ iv _=>n-(intOf iv).toNat)
  case atStart=>exact⟨0,[],r1,[],none,0,zx,rfl,rfl,rfl,AQ.nil,Ag.nil _ _,by rw[Y4.out];simp[De.map];cases FR f n r1 <;> rfl,D1.out⟩
  case round=>
   obtain⟨q,xs,r,F,p,c,hq,rfl,rfl,FY,hR,hN,hY,hD⟩:=hrel;by_cases Pe:q<n
   ·have HR:=AC hR;have HN:=AC hN;have HY:=AC hY;have HD:=AC hD;have HX:=AC FY;have CC:=AC<|HH.out _ _ hD;have g2:(q:Int)<(n:Int):=zx
    clear hR hN hY hD FY HH;go_wp2_with fail
    refine CC.out.mono ?_;rintro e w2 ⟨hk2,⟨i,hy,hi,rfl⟩ | ⟨x,r2,v,hy,rfl,⟨vs,F2,rfl,hQ,BZ⟩,Cj⟩⟩
    ·exact⟨rfl,HD.out.2.1.trans hk2,Or.inl ⟨i,Iy.stop Pe HY.out hy,hi,rfl⟩⟩
    obtain⟨p1,c1,rfl⟩:=Bz.vals hQ;have NY:=AC<|Iy.step Pe HY.out hy;have D2:AF (Hr a b w w2 r2):=⟨Cj,HD.out.2.1.trans hk2,HD.out.2.2.keeps hk2 hgb⟩;have hs2:=hk2.size;have hsw:=HD.out.2.1.size;have bF:AF (∀ j,j∈F->j≠b):=⟨fun j hj=>by have:=HN.out.ge j hj;omega⟩;have Ao:AF (AQ 41 2 (Bz AV d) w2 (.slice p q c) xs F):=⟨AQ.stable (Bz.stable (ty:=AV) d) _ _ _ _ _ HR.out fun j hj=>hk2.block j (HN.out.lt j hj) (bF.out j hj)⟩;have HQ:=AC hQ;have N8:AF (Ag w.heap.size w2 F2):=⟨BZ.later zx lr⟩;have IW:AF (Ag w.heap.size w2 F):=⟨HN.out.later lr zx⟩;have XO:AF (∀ j,j∈F->j∉F2):=⟨fun j hj Am=>by have:=HN.out.lt j hj;have:=BZ.ge j Am;omega⟩;have GU:xs.length<100000000:=by rw[HX.out];omega
    clear hQ BZ hk2 Cj hy CC HR HY HN;go_wp2_with (at_builtin;go_must (refine Nu Zxi rfl (.tmp 20) (.tmp 23) rfl (Bz.stable (ty:=AV) d) (fun _ _ _ _ h=>Bz.one h) w.heap.size (.slice p q c) xs F rfl (AQ.stable (Bz.stable (ty:=AV) d) _ _ _ _ _ Ao.out fun j hj=>Ah _ _ _ (IW.out.lt j hj)) w2.heap.size #[.string x.name,.slice p1 x.terms.length c1] 41 (0,0) x F2 rfl (Hw _ _) rfl (Bz.stable (ty:=AV) d _ _ _ _ _ HQ.out fun j hj=>Ah _ _ _ (N8.out.lt j hj)) GU (by simp;omega) (IW.out.later lr zw) (N8.out.later lr zw) XO.out ?_);intro g3 cap3 w4 F3 AM)
    have R4:=AM.row;rw[HX.out]at R4;have hb4:w4.heap[b]?=w2.heap[b]?:=(AM.same b (by have:=D2.out.1.1.lt;simp;omega) (fun hj=>by have:=IW.out.ge b hj;omega)).trans<|Ah _ _ _ D2.out.1.1.lt;have K4:=Ad.UW AM (D2.out.2.1.alloc _) fun j hj=>IW.out.ge j hj;have D4:AF (Hr a b w w4 r2):=⟨D2.out.1.of hb4,K4,ZZ.out.keeps K4 hgb⟩;try rw[HX.out]
    go_roundw
    case rel=>exact⟨q+1,xs++[x],r2,F3,_,_,zx,by go_num,rfl,by simp[HX.out],R4,AM.new,NY.out,D4.out⟩
    case measure=>simp[intOf];omega
   ·obtain rfl:q=n:=zx
    have Y5:=AC<|Iy.done hY;have g2: ¬ (q:Int)<(q:Int):=zx
    have H5:=AC<|AJ hR<|AJ hN hD;clear hR hN hY hD HH;go_wp2
    go_ret
    exact⟨H5.out.2.2.2.1,Or.inr ⟨xs,r,_,Y5.out,rfl,⟨F,H5.out.1,H5.out.2.1⟩,H5.out.2.2.1⟩⟩
def Zo3 (hen:Da K){f:De G}(Z:AZ a w)(h:Dc w b l)(hm:m<1000)
  (HC: ∀ u r,Hr a b w u r->Calls prog K (first++cap) u (Iw a b (Ie (Eo AV<|d+1) u.heap.size) u<|f r)):
  Calls prog 261 #[zq b 0,.int .u64 (m:Int),.func (.func K) first cap] w (Iw a b (S9 48 9 (Eo AV<|d+1) w.heap.size) w<|DF m f l):=by
 have C:=AC<|Ze Z h;have HH:=AC HC;have Dz: ∀ args w,(callFunc K args).run prog w= .ok (.enter K args) w:=hen;have hgb:=h.2.2;have ZZ:=AC Z;have E9:=h.1.lt;clear HC hen Z h;go_in
 go_wp2_with fail
 refine C.out.mono ?_;rintro e w1 ⟨AX,⟨i,hy,hi,rfl⟩ | ⟨n,r1,v,hy,rfl,⟨rfl,hn⟩,Bc⟩⟩
 ·exact⟨rfl,AX,Or.inl ⟨i,De.Ae hy,hi,rfl⟩⟩
 have Y:=AC<|De.then_ok (g:=fun n=>if m<n then fun _=>Except.error 4 else FR f n) hy;have D1:AF (Hr a b w w1 r1):=⟨Bc,AX,ZZ.out.keeps AX hgb⟩;clear AX Bc hy C;by_cases hlt:m<n
 ·have Y4:AF (DF m f l= .error 4):=⟨by rw[DF,Y.out,if_pos hlt]⟩;have g:(m:Int)<(n:Int):=zx
  have z4:=D1.out.2.2.c4;have CR:=AC<|QL a b w1 (n:=4) zu;clear HH Y;go_wp2_with fail
  refine mq CR.out ?_;rintro w2 rfl;exact⟨rfl,D1.out.2.1,Or.inl ⟨4,Y4.out,zu,rfl⟩⟩
 ·have Y4:AF (DF m f l=FR f n r1):=⟨by rw[DF,Y.out,if_neg hlt]⟩;have g: ¬ (m:Int)<(n:Int):=zx
  clear Y;go_wp2
  go_loopw [8,18] (fun tv iv wr=>Iy 48 9 (Eo AV<|d+1) f n (DF m f l) (Hr a b w) w tv iv wr) (fun _ iv _=>n-(intOf iv).toNat)
  case atStart=>exact⟨0,[],r1,[],none,0,zx,rfl,rfl,rfl,AQ.nil,Ag.nil _ _,by rw[Y4.out];simp[De.map];cases FR f n r1 <;> rfl,D1.out⟩
  case round=>
   obtain⟨q,xs,r,F,p,c,hq,rfl,rfl,FY,hR,hN,hY,hD⟩:=hrel;by_cases Pe:q<n
   ·have HR:=AC hR;have HN:=AC hN;have HY:=AC hY;have HD:=AC hD;have HX:=AC FY;have CC:=AC<|HH.out _ _ hD;have g2:(q:Int)<(n:Int):=zx
    clear hR hN hY hD FY HH;go_wp2_with fail
    refine CC.out.mono ?_;rintro e w2 ⟨hk2,⟨i,hy,hi,rfl⟩ | ⟨x,r2,v,hy,rfl,⟨vs,F2,rfl,hQ,BZ⟩,Cj⟩⟩
    ·exact⟨rfl,HD.out.2.1.trans hk2,Or.inl ⟨i,Iy.stop Pe HY.out hy,hi,rfl⟩⟩
    obtain⟨p1,c1,p2,c2,rfl⟩:=Eo.vals hQ;have NY:=AC<|Iy.step Pe HY.out hy;have D2:AF (Hr a b w w2 r2):=⟨Cj,HD.out.2.1.trans hk2,HD.out.2.2.keeps hk2 hgb⟩;have hs2:=hk2.size;have hsw:=HD.out.2.1.size;have bF:AF (∀ j,j∈F->j≠b):=⟨fun j hj=>by have:=HN.out.ge j hj;omega⟩;have Ao:AF (AQ 48 9 (Eo AV<|d+1) w2 (.slice p q c) xs F):=⟨AQ.stable (Eo.stable (ty:=AV)<|d+1) _ _ _ _ _ HR.out fun j hj=>hk2.block j (HN.out.lt j hj) (bF.out j hj)⟩;have HQ:=AC hQ;have N8:AF (Ag w.heap.size w2 F2):=⟨BZ.later zx lr⟩;have IW:AF (Ag w.heap.size w2 F):=⟨HN.out.later lr zx⟩;have XO:AF (∀ j,j∈F->j∉F2):=⟨fun j hj Am=>by have:=HN.out.lt j hj;have:=BZ.ge j Am;omega⟩;have GU:xs.length<100000000:=by rw[HX.out];omega
    clear hQ BZ hk2 Cj hy CC HR HY HN;go_wp2_with (at_builtin;go_must (refine Nu Ztk rfl (.tmp 20) (.tmp 23) rfl (Eo.stable (ty:=AV)<|d+1) (fun _ _ _ _ h=>Eo.one h) w.heap.size (.slice p q c) xs F rfl (AQ.stable (Eo.stable (ty:=AV)<|d+1) _ _ _ _ _ Ao.out fun j hj=>Ah _ _ _ (IW.out.lt j hj)) w2.heap.size #[zo x.op,zo x.a.k,zo x.a.i,.string x.a.t,.slice p1 x.a.l.length c1,zo x.b.k,zo x.b.i,.string x.b.t,.slice p2 x.b.l.length c2] 48 (0,0) x F2 rfl (Hw _ _) rfl (Eo.stable (ty:=AV) (d+1) _ _ _ _ _ HQ.out fun j hj=>Ah _ _ _ (N8.out.lt j hj)) GU (by simp;omega) (IW.out.later lr zw) (N8.out.later lr zw) XO.out ?_);intro g3 cap3 w4 F3 AM)
    have R4:=AM.row;rw[HX.out]at R4;have hb4:w4.heap[b]?=w2.heap[b]?:=(AM.same b (by have:=D2.out.1.1.lt;simp;omega) (fun hj=>by have:=IW.out.ge b hj;omega)).trans<|Ah _ _ _ D2.out.1.1.lt;have K4:=Ad.UW AM (D2.out.2.1.alloc _) fun j hj=>IW.out.ge j hj;have D4:AF (Hr a b w w4 r2):=⟨D2.out.1.of hb4,K4,ZZ.out.keeps K4 hgb⟩;try rw[HX.out]
    go_roundw
    case rel=>exact⟨q+1,xs++[x],r2,F3,_,_,zx,by go_num,rfl,by simp[HX.out],R4,AM.new,NY.out,D4.out⟩
    case measure=>simp[intOf];omega
   ·obtain rfl:q=n:=zx
    have Y5:=AC<|Iy.done hY;have g2: ¬ (q:Int)<(q:Int):=zx
    have H5:=AC<|AJ hR<|AJ hN hD;clear hR hN hY hD HH;go_wp2
    go_ret
    exact⟨H5.out.2.2.2.1,Or.inr ⟨xs,r,_,Y5.out,rfl,⟨F,H5.out.1,H5.out.2.1⟩,H5.out.2.2.1⟩⟩
def Zjk (hen:Da K){f:De R}(Z:AZ a w)(h:Dc w b l)(hm:m<1000)
  (HC: ∀ u r,Hr a b w u r->Calls prog K (first++cap) u (Iw a b (Ie (DI AV d) u.heap.size) u<|f r)):
  Calls prog 233 #[zq b 0,.int .u64 (m:Int),.func (.func K) first cap] w (Iw a b (S9 44 4 (DI AV d) w.heap.size) w<|DF m f l):=by
 have C:=AC<|Ze Z h;have HH:=AC HC;have Dz: ∀ args w,(callFunc K args).run prog w= .ok (.enter K args) w:=hen;have hgb:=h.2.2;have ZZ:=AC Z;have E9:=h.1.lt;clear HC hen Z h;go_in
 go_wp2_with fail
 refine C.out.mono ?_;rintro e w1 ⟨AX,⟨i,hy,hi,rfl⟩ | ⟨n,r1,v,hy,rfl,⟨rfl,hn⟩,Bc⟩⟩
 ·exact⟨rfl,AX,Or.inl ⟨i,De.Ae hy,hi,rfl⟩⟩
 have Y:=AC<|De.then_ok (g:=fun n=>if m<n then fun _=>Except.error 4 else FR f n) hy;have D1:AF (Hr a b w w1 r1):=⟨Bc,AX,ZZ.out.keeps AX hgb⟩;clear AX Bc hy C;by_cases hlt:m<n
 ·have Y4:AF (DF m f l= .error 4):=⟨by rw[DF,Y.out,if_pos hlt]⟩;have g:(m:Int)<(n:Int):=zx
  have z4:=D1.out.2.2.c4;have CR:=AC<|QL a b w1 (n:=4) zu;clear HH Y;go_wp2_with fail
  refine mq CR.out ?_;rintro w2 rfl;exact⟨rfl,D1.out.2.1,Or.inl ⟨4,Y4.out,zu,rfl⟩⟩
 ·have Y4:AF (DF m f l=FR f n r1):=⟨by rw[DF,Y.out,if_neg hlt]⟩;have g: ¬ (m:Int)<(n:Int):=zx
  clear Y;go_wp2
  go_loopw [8,18] (fun tv iv wr=>Iy 44 4 (DI AV d) f n (DF m f l) (Hr a b w) w tv iv wr) (fun _ iv _=>n-(intOf iv).toNat)
  case atStart=>exact⟨0,[],r1,[],none,0,zx,rfl,rfl,rfl,AQ.nil,Ag.nil _ _,by rw[Y4.out];simp[De.map];cases FR f n r1 <;> rfl,D1.out⟩
  case round=>
   obtain⟨q,xs,r,F,p,c,hq,rfl,rfl,FY,hR,hN,hY,hD⟩:=hrel;by_cases Pe:q<n
   ·have HR:=AC hR;have HN:=AC hN;have HY:=AC hY;have HD:=AC hD;have HX:=AC FY;have CC:=AC<|HH.out _ _ hD;have g2:(q:Int)<(n:Int):=zx
    clear hR hN hY hD FY HH;go_wp2_with fail
    refine CC.out.mono ?_;rintro e w2 ⟨hk2,⟨i,hy,hi,rfl⟩ | ⟨x,r2,v,hy,rfl,⟨vs,F2,rfl,hQ,BZ⟩,Cj⟩⟩
    ·exact⟨rfl,HD.out.2.1.trans hk2,Or.inl ⟨i,Iy.stop Pe HY.out hy,hi,rfl⟩⟩
    obtain⟨p1,c1,p2,c2,p3,c3,rfl⟩:=DI.vals hQ;have NY:=AC<|Iy.step Pe HY.out hy;have D2:AF (Hr a b w w2 r2):=⟨Cj,HD.out.2.1.trans hk2,HD.out.2.2.keeps hk2 hgb⟩;have hs2:=hk2.size;have hsw:=HD.out.2.1.size;have bF:AF (∀ j,j∈F->j≠b):=⟨fun j hj=>by have:=HN.out.ge j hj;omega⟩;have Ao:AF (AQ 44 4 (DI AV d) w2 (.slice p q c) xs F):=⟨AQ.stable (DI.stable (ty:=AV) d) _ _ _ _ _ HR.out fun j hj=>hk2.block j (HN.out.lt j hj) (bF.out j hj)⟩;have HQ:=AC hQ;have N8:AF (Ag w.heap.size w2 F2):=⟨BZ.later zx lr⟩;have IW:AF (Ag w.heap.size w2 F):=⟨HN.out.later lr zx⟩;have XO:AF (∀ j,j∈F->j∉F2):=⟨fun j hj Am=>by have:=HN.out.lt j hj;have:=BZ.ge j Am;omega⟩;have GU:xs.length<100000000:=by rw[HX.out];omega
    clear hQ BZ hk2 Cj hy CC HR HY HN;go_wp2_with (at_builtin;go_must (refine Nu Zxk rfl (.tmp 20) (.tmp 23) rfl (DI.stable (ty:=AV) d) (fun _ _ _ _ h=>DI.one h) w.heap.size (.slice p q c) xs F rfl (AQ.stable (DI.stable (ty:=AV) d) _ _ _ _ _ Ao.out fun j hj=>Ah _ _ _ (IW.out.lt j hj)) w2.heap.size #[.string x.head.name,.slice p1 x.head.terms.length c1,.slice p2 x.body.length c2,.slice p3 x.guards.length c3] 44 (0,0) x F2 rfl (Hw _ _) rfl (DI.stable (ty:=AV) d _ _ _ _ _ HQ.out fun j hj=>Ah _ _ _ (N8.out.lt j hj)) GU (by simp;omega) (IW.out.later lr zw) (N8.out.later lr zw) XO.out ?_);intro g3 cap3 w4 F3 AM)
    have R4:=AM.row;rw[HX.out]at R4;have hb4:w4.heap[b]?=w2.heap[b]?:=(AM.same b (by have:=D2.out.1.1.lt;simp;omega) (fun hj=>by have:=IW.out.ge b hj;omega)).trans<|Ah _ _ _ D2.out.1.1.lt;have K4:=Ad.UW AM (D2.out.2.1.alloc _) fun j hj=>IW.out.ge j hj;have D4:AF (Hr a b w w4 r2):=⟨D2.out.1.of hb4,K4,ZZ.out.keeps K4 hgb⟩;try rw[HX.out]
    go_roundw
    case rel=>exact⟨q+1,xs++[x],r2,F3,_,_,zx,by go_num,rfl,by simp[HX.out],R4,AM.new,NY.out,D4.out⟩
    case measure=>simp[intOf];omega
   ·obtain rfl:q=n:=zx
    have Y5:=AC<|Iy.done hY;have g2: ¬ (q:Int)<(q:Int):=zx
    have H5:=AC<|AJ hR<|AJ hN hD;clear hR hN hY hD HH;go_wp2
    go_ret
    exact⟨H5.out.2.2.2.1,Or.inr ⟨xs,r,_,Y5.out,rfl,⟨F,H5.out.1,H5.out.2.1⟩,H5.out.2.2.1⟩⟩
def Zo2 (hen:Da K){f:De (List R)}(Z:AZ a w)(h:Dc w b l)(hm:m<1000)
  (HC: ∀ u r,Hr a b w u r->Calls prog K (first++cap) u (Iw a b (Ie (Ew AV d) u.heap.size) u<|f r)):
  Calls prog 235 #[zq b 0,.int .u64 (m:Int),.func (.func K) first cap] w (Iw a b (S9 52 1 (Ew AV d) w.heap.size) w<|DF m f l):=by
 have C:=AC<|Ze Z h;have HH:=AC HC;have Dz: ∀ args w,(callFunc K args).run prog w= .ok (.enter K args) w:=hen;have hgb:=h.2.2;have ZZ:=AC Z;have E9:=h.1.lt;clear HC hen Z h;go_in
 go_wp2_with fail
 refine C.out.mono ?_;rintro e w1 ⟨AX,⟨i,hy,hi,rfl⟩ | ⟨n,r1,v,hy,rfl,⟨rfl,hn⟩,Bc⟩⟩
 ·exact⟨rfl,AX,Or.inl ⟨i,De.Ae hy,hi,rfl⟩⟩
 have Y:=AC<|De.then_ok (g:=fun n=>if m<n then fun _=>Except.error 4 else FR f n) hy;have D1:AF (Hr a b w w1 r1):=⟨Bc,AX,ZZ.out.keeps AX hgb⟩;clear AX Bc hy C;by_cases hlt:m<n
 ·have Y4:AF (DF m f l= .error 4):=⟨by rw[DF,Y.out,if_pos hlt]⟩;have g:(m:Int)<(n:Int):=zx
  have z4:=D1.out.2.2.c4;have CR:=AC<|QL a b w1 (n:=4) zu;clear HH Y;go_wp2_with fail
  refine mq CR.out ?_;rintro w2 rfl;exact⟨rfl,D1.out.2.1,Or.inl ⟨4,Y4.out,zu,rfl⟩⟩
 ·have Y4:AF (DF m f l=FR f n r1):=⟨by rw[DF,Y.out,if_neg hlt]⟩;have g: ¬ (m:Int)<(n:Int):=zx
  clear Y;go_wp2
  go_loopw [8,18] (fun tv iv wr=>Iy 52 1 (Ew AV d) f n (DF m f l) (Hr a b w) w tv iv wr) (fun _ iv _=>n-(intOf iv).toNat)
  case atStart=>exact⟨0,[],r1,[],none,0,zx,rfl,rfl,rfl,AQ.nil,Ag.nil _ _,by rw[Y4.out];simp[De.map];cases FR f n r1 <;> rfl,D1.out⟩
  case round=>
   obtain⟨q,xs,r,F,p,c,hq,rfl,rfl,FY,hR,hN,hY,hD⟩:=hrel;by_cases Pe:q<n
   ·have HR:=AC hR;have HN:=AC hN;have HY:=AC hY;have HD:=AC hD;have HX:=AC FY;have CC:=AC<|HH.out _ _ hD;have g2:(q:Int)<(n:Int):=zx
    clear hR hN hY hD FY HH;go_wp2_with fail
    refine CC.out.mono ?_;rintro e w2 ⟨hk2,⟨i,hy,hi,rfl⟩ | ⟨x,r2,v,hy,rfl,⟨vs,F2,rfl,hQ,BZ⟩,Cj⟩⟩
    ·exact⟨rfl,HD.out.2.1.trans hk2,Or.inl ⟨i,Iy.stop Pe HY.out hy,hi,rfl⟩⟩
    obtain⟨p1,c1,rfl⟩:=Ew.vals hQ;have NY:=AC<|Iy.step Pe HY.out hy;have D2:AF (Hr a b w w2 r2):=⟨Cj,HD.out.2.1.trans hk2,HD.out.2.2.keeps hk2 hgb⟩;have hs2:=hk2.size;have hsw:=HD.out.2.1.size;have bF:AF (∀ j,j∈F->j≠b):=⟨fun j hj=>by have:=HN.out.ge j hj;omega⟩;have Ao:AF (AQ 52 1 (Ew AV d) w2 (.slice p q c) xs F):=⟨AQ.stable (Ew.stable (ty:=AV) d) _ _ _ _ _ HR.out fun j hj=>hk2.block j (HN.out.lt j hj) (bF.out j hj)⟩;have HQ:=AC hQ;have N8:AF (Ag w.heap.size w2 F2):=⟨BZ.later zx lr⟩;have IW:AF (Ag w.heap.size w2 F):=⟨HN.out.later lr zx⟩;have XO:AF (∀ j,j∈F->j∉F2):=⟨fun j hj Am=>by have:=HN.out.lt j hj;have:=BZ.ge j Am;omega⟩;have GU:xs.length<100000000:=by rw[HX.out];omega
    clear hQ BZ hk2 Cj hy CC HR HY HN;go_wp2_with (at_builtin;go_must (refine Nu Ztj rfl (.tmp 20) (.tmp 23) rfl (Ew.stable (ty:=AV) d) (fun _ _ _ _ h=>Ew.one h) w.heap.size (.slice p q c) xs F rfl (AQ.stable (Ew.stable (ty:=AV) d) _ _ _ _ _ Ao.out fun j hj=>Ah _ _ _ (IW.out.lt j hj)) w2.heap.size #[.slice p1 x.length c1] 52 (0,0) x F2 rfl (Hw _ _) rfl (Ew.stable (ty:=AV) d _ _ _ _ _ HQ.out fun j hj=>Ah _ _ _ (N8.out.lt j hj)) GU (by simp;omega) (IW.out.later lr zw) (N8.out.later lr zw) XO.out ?_);intro g3 cap3 w4 F3 AM)
    have R4:=AM.row;rw[HX.out]at R4;have hb4:w4.heap[b]?=w2.heap[b]?:=(AM.same b (by have:=D2.out.1.1.lt;simp;omega) (fun hj=>by have:=IW.out.ge b hj;omega)).trans<|Ah _ _ _ D2.out.1.1.lt;have K4:=Ad.UW AM (D2.out.2.1.alloc _) fun j hj=>IW.out.ge j hj;have D4:AF (Hr a b w w4 r2):=⟨D2.out.1.of hb4,K4,ZZ.out.keeps K4 hgb⟩;try rw[HX.out]
    go_roundw
    case rel=>exact⟨q+1,xs++[x],r2,F3,_,_,zx,by go_num,rfl,by simp[HX.out],R4,AM.new,NY.out,D4.out⟩
    case measure=>simp[intOf];omega
   ·obtain rfl:q=n:=zx
    have Y5:=AC<|Iy.done hY;have g2: ¬ (q:Int)<(q:Int):=zx
    have H5:=AC<|AJ hR<|AJ hN hD;clear hR hN hY hD HH;go_wp2
    go_ret
    exact⟨H5.out.2.2.2.1,Or.inr ⟨xs,r,_,Y5.out,rfl,⟨F,H5.out.1,H5.out.2.1⟩,H5.out.2.2.1⟩⟩
end Go.P
namespace Go.P
variable {w:World}{b d:Nat}{l:By}{a:Nat->Addr}
theorem MR: ∀ (fn:Fn) (first cap:Array Value) (w:World),(Instr.makeFunc fn first cap).run prog w= .ok (.func fn first cap) w:=fun _ _ _ _=>rfl
def Yg6 (m:Nat)(y:Int):bits .xor .i64 (m:Int) y=IntKind.i64.wrap (((BitVec.ofInt 64 (m:Int)) ^^^ (BitVec.ofInt 64 y)).toNat:Int):=rfl
def Z6y (n:Nat)(hn:n<18446744073709551616):bits .xor .i64 ((n:Int) / 2) (wrap64 (-wrap64 (bits .and .u64 (n:Int) 1)))=Wj n:=by
 have e1:bits .and .u64 (n:Int) 1=((n % 2:Nat):Int):=by
  have:=u64_and_nat n 1 hn zu
  rw[Nat.and_one_is_mod]at this;exact this
 have e2:(n:Int) / 2=((n / 2:Nat):Int):=zx
 have DK:(BitVec.ofInt 64 ((n / 2:Nat):Int)).toNat=n / 2:=ofInt_u64 _ zx;rw[e1,e2,Yg6];unfold Wj;by_cases h:n % 2=0
 ·rw[if_pos h,h]
  have:wrap64 (-wrap64 ((0:Nat):Int))=0:=by simp[wrap64]
  rw[this]
  have:BitVec.ofInt 64 0=0#64:=rfl
  rw[this,BitVec.xor_zero,DK,IntKind.wrap_i64];omega
 ·rw[if_neg h,show n % 2=1 by omega]
  have:wrap64 (-wrap64 ((1:Nat):Int))= -1:=by simp[wrap64]
  rw[this]
  have:BitVec.ofInt 64 (-1)=BitVec.allOnes 64:=zu
  rw[this,BitVec.xor_allOnes,BitVec.toNat_not,DK,IntKind.wrap_i64];omega
def Zy3 (n:Nat)(hn:n<18446744073709551616)(w:World):Calls prog 264 #[.int .u64 (n:Int)] w fun e w'=>e= .returned (.int .i64<|Wj n)/\w'=w:=by
 go_in
 go_wp2
 go_ret
 exact⟨Yai<|Z6y n hn,rfl⟩
def Zsk:Da 259:=EH func259 zt rfl
def Dc.Gz {w':World}(h:Dc w b l)(k: ∀ i,i<w.heap.size->w'.heap[i]?=w.heap[i]?):Dc w' b l:=h.of<|k b h.1.lt
def Zc (d:Nat):Prop:= ∀ {a:Nat->Addr} {w:World} {b:Nat} {l:By},AZ a w->Dc w b l->Calls prog 260 #[zq b 0,zo ((3-d:Nat):Int)] w (Iw a b (Ie (BQ AV<|d+1) w.heap.size) w<|MO d l)
def Z0b (ih:Zc d){L1 L2:Nat}(Z:AZ a w)(h:Dc w b l)(k1:w.cell? (zm L1 0)=some (zq b 0))(k2:w.cell? (zm L2 0)=some (zo ((3-d:Nat):Int))):
  Calls prog 259 #[zq L1 0,zq L2 0] w (Iw a b (Ie (BQ AV<|d+1) w.heap.size) w<|MO d l):=by
 have l1:=fun o=>Cb k1 ((AR _ w).alloc lr o);have l2:=fun o=>Cb k2 ((AR _ w).alloc lr o);have C:=AC<|ih (Z.below<|(AR _ w).alloc lr<|.cells #[zo 0,zo 0,.string ⟨#[]⟩,zn] 46)<|h.alloc<|.cells #[zo 0,zo 0,.string ⟨#[]⟩,zn] 46;have hb:=h.1.lt;have L0:=AC<|AO.new w #[zo 0,zo 0,.string ⟨#[]⟩,zn] 46;have K0:=AC<|(Ad.refl b w).alloc<|.cells #[zo 0,zo 0,.string ⟨#[]⟩,zn] 46;obtain⟨dd,hdd⟩: ∃ z:Int,((3-d:Nat):Int)=z:=⟨_,rfl⟩;rw[hdd]at l2 C;clear k1 k2 Z h hdd;go_in
 go_wp2_with fail
 refine C.out.mono ?_;rintro e w1 ⟨AX,⟨i,hy,hi,rfl⟩ | ⟨x,r1,v,hy,rfl,⟨vs,F,rfl,hQ,hN⟩,Bc⟩⟩
 ·exact⟨rfl,K0.out.trans AX,Or.inl ⟨i,hy,hi,rfl⟩⟩
 ·obtain⟨p1,c1,rfl⟩:=BQ.vals hQ;obtain⟨y0,y1,y2,y3,sf⟩:=(L0.out.of<|AX.block w.heap.size zw zx).four;have R:=AC<|AJ hQ<|AJ hN<|AJ Bc<|AJ hy<|K0.out.trans AX;clear hQ hN Bc hy AX C;go_wp2
  refine Bg (by simp[results,results259,go_sem,y0,y1,y2,y3];try rfl) rfl ?_;obtain⟨hQ,hN,Bc,hy,AX⟩:=R.out;exact⟨AX.r4 lr,Or.inr ⟨x,r1,_,hy,rfl,⟨_,F,rfl,BQ.stable (d+1) _ _ _ _ _ hQ fun j hj=>KY (by have:=hN.ge j hj;simp at this;omega),hN.later zw zw⟩,Bc.of<|KY zx⟩⟩
def Zti (ih:Zc d)(Z:AZ a w)(h:Dc w b l):
  Calls prog 253 #[zq b 0,zo ((3-d:Nat):Int)] w (Iw a b (S9 46 4 (BQ AV<|d+1) w.heap.size) w<|DF 6 (MO d) l):=by
 have Ho:=MR;obtain⟨dd,hdd⟩: ∃ z:Int,((3-d:Nat):Int)=z:=⟨_,rfl⟩;have B0:=AC<|((AR w.heap.size w).alloc lr<|.cells #[zq b 0] 183).alloc zw<|.cells #[zo dd] 3;have K0:=AC<|((Ad.refl b w).alloc<|.cells #[zq b 0] 183).alloc<|.cells #[zo dd] 3;have L1:=AC<|(AO.new w #[zq b 0] 183).alloc<|.cells #[zo dd] 3;have L2:=AC<|AO.new (w.alloc<|.cells #[zq b 0] 183) #[zo dd] 3;have hb:=h.1.lt;have C:=AC (Zqd (d:=d) (f:=MO d) Zsk (first:=#[]) (cap:=#[zq w.heap.size 0,zq (w.heap.size+1) 0]) (m:=6) (Z.below B0.out) ((h.alloc<|.cells #[zq b 0] 183).alloc<|.cells #[zo dd] 3) zx fun u r hu=>Z0b ih hu.2.2 hu.1 ((L1.out.of<|hu.2.1.block w.heap.size (by simp;omega) zx).one.1) (by rw[hdd];have:=(L2.out.of<|hu.2.1.block _ zw (by simp;omega)).one.1;simpa using this));rw[hdd];clear Z h ih hdd;go_in
 go_wp2_with fail
 refine C.out.mono ?_;rintro e w1 ⟨AX,⟨i,hy,hi,rfl⟩ | ⟨xs,r1,v,hy,rfl,⟨F,hR,hN⟩,Bc⟩⟩
 ·exact⟨rfl,K0.out.trans AX,Or.inl ⟨i,hy,hi,rfl⟩⟩
 ·obtain⟨p1,c1,rfl⟩:=AQ.form hR;have R:=AC<|AJ hR<|AJ hN<|AJ Bc<|AJ hy<|K0.out.trans AX;clear hR hN Bc hy AX C;go_wp2
  go_ret
  obtain⟨hR,hN,Bc,hy,AX⟩:=R.out;exact⟨AX,Or.inr ⟨xs,r1,_,hy,rfl,⟨F,hR,hN.later (by simp;omega) lr⟩,Bc⟩⟩
end Go.P
