import Derived.Test.YtghnjdpgbldlkaaGreatDoorW01
set_option linter.defProp false
set_option maxRecDepth 100000
set_option maxHeartbeats 8000000
set_option linter.unusedSimpArgs false
open Go.Proofs Go.RowKit Go.W Tryz
namespace Go.W
variable {k n q:Nat}{l r:By}{e:Int}
variable {ty:Q8} {d:Nat} {w:World} {vs:List Value} {F:List Nat}
def BH.vals {x:T}(h:BH ty (d+1) w vs x F): ∃ p c,vs=[.int .i64 x.k,.int .i64 x.i,.string x.t,.slice p x.l.length c]:=by
 obtain⟨lv,rfl,_,_,_,h⟩:=h;obtain⟨p,c,rfl⟩:=AO.form h;exact⟨p,c,rfl⟩
def Bo.vals {x:A}(h:Bo ty d w vs x F): ∃ p c,vs=[.string x.name,.slice p x.terms.length c]:=by
 obtain⟨tv,rfl,_,h⟩:=h;obtain⟨p,c,rfl⟩:=AO.form h;exact⟨p,c,rfl⟩
def Ee.vals {x:G}(h:Ee ty (d+1) w vs x F): ∃ p c p' c',vs=[.int .i64 x.op,.int .i64 x.a.k,.int .i64 x.a.i,.string x.a.t,.slice p x.a.l.length c,.int .i64 x.b.k,.int .i64 x.b.i,.string x.b.t,.slice p' x.b.l.length c']:=by
 obtain⟨va,vb,Fa,Fb,rfl,_,ha,hb,_⟩:=h;obtain⟨p,c,rfl⟩:=BH.vals ha;obtain⟨p',c',rfl⟩:=BH.vals hb;exact⟨p,c,p',c',rfl⟩
def Cj.vals {x:R}(h:Cj ty d w vs x F): ∃ p c p' c' p2 c2,vs=[.string x.head.name,.slice p x.head.terms.length c,.slice p' x.body.length c',.slice p2 x.guards.length c2]:=by
 obtain⟨hv,bv,gv,Fh,Fb,Fg,rfl,hh,hb,hg,_⟩:=h;obtain⟨p,c,rfl⟩:=Bo.vals hh;obtain⟨p',c',rfl⟩:=AO.form hb;obtain⟨p2,c2,rfl⟩:=AO.form hg;exact⟨p,c,p',c',p2,c2,rfl⟩
def Eo.vals {x:List R}(h:Eo ty d w vs x F): ∃ p c,vs=[.slice p x.length c]:=by
 obtain⟨v,rfl,h⟩:=h;obtain⟨p,c,rfl⟩:=AO.form h;exact⟨p,c,rfl⟩
def Z3c {α:Type}{f:De α}(h:f l= .error e):GD f (k+1) l= .error e:=De.Ad h
def Ycs {α:Type}{f:De α}{x:α}(h:f l= .ok (x,r)):GD f (k+1) l=(GD f k).map (fun ys=>x::ys) r:=De.then_ok h
def Ho {α:Type} (e:TypeId) (s:Nat) (Q:D9 α) (f:De α) (n:Nat) (Y:Except Int (List α×By)) (D:World->By->Prop) (w:World) (tv iv:Value) (wr:World):Prop:=
 ∃ (q:Nat) (xs:List α) (r:By) (F:List Nat) (p:Option Addr) (c:Nat),q<=n/\iv= .int .u64 (q:Int)/\tv= .slice p q c/\xs.length=q/\AO e s Q wr (.slice p q c) xs F/\Af w.heap.size wr F/\(GD f<|n-q).map (fun ys=>xs++ys) r=Y/\D wr r
def Ho.step {α:Type}{f:De α}{xs:List α}{x:α}{r':By}{Y:Except Int (List α×By)}(hq:q<n)(h:(GD f<|n-q).map (fun ys=>xs++ys) r=Y)(hf:f r= .ok (x,r')):(GD f<|n-(q+1)).map (fun ys=>(xs++[x])++ys) r'=Y:=by
 obtain⟨k,hk⟩: ∃ k,n-q=k+1:=⟨n-q-1,zx⟩;rw[hk]at h;rw[show n-(q+1)=k by omega,<- h];have e:=Ycs (k:=k) hf;unfold De.map;rw[e];unfold De.map;cases GD f k r' with
 | error e=>rfl
 | ok y=>simp
def Ho.stop {α:Type}{f:De α}{xs:List α}{Y:Except Int (List α×By)}(hq:q<n)(h:(GD f<|n-q).map (fun ys=>xs++ys) r=Y)(hf:f r= .error e):Y= .error e:=by
 obtain⟨k,hk⟩: ∃ k,n-q=k+1:=⟨n-q-1,zx⟩;rw[hk]at h;rw[<- h];exact De.Av<|Z3c hf
def Ho.done {α:Type}{f:De α}{xs:List α}{Y:Except Int (List α×By)}(h:(GD f<|n-n).map (fun ys=>xs++ys) r=Y):Y= .ok (xs,r):=by
 rw[Nat.sub_self]at h;rw[<- h];simp[De.map,GD]
end Go.W
namespace Go.P
variable {K d b m:Nat}{first cap:Array Value}{a:Nat->Addr}{w:World}{l:By}
def Gi (a:Nat->Addr) (b:Nat) (w wr:World) (r:By):Prop:=Dc wr b r/\Ac b w wr/\Aa a wr
def Zo8 (hen:Bj K){f:De T}(Z:Aa a w)(h:Dc w b l)(hm:m<1000)
  (HC: ∀ u r,Gi a b w u r->Calls prog K (first++cap) u (Hg a b (G5 (BH AY<|d+1) u.heap.size) u<|f r)):
  Calls prog 295 #[.pointer<|Qb b 0,.int .u64 (m:Int),.func (.func K) first cap] w (Hg a b (Px 100 4 (BH AY<|d+1) w.heap.size) w<|DI m f l):=by
 have C:=AA<|WF Z h;have HH:=AA HC;have Cb: ∀ args w,(callFunc K args).run prog w= .ok (.enter K args) w:=hen;have hgb:=h.2.2;have ZZ:=AA Z;have Ep:=h.1.lt;clear HC hen Z h;go_in
 go_wp2_with fail
 refine C.out.mono ?_;rintro e w1 ⟨AZ,⟨i,hy,hi,rfl⟩ | ⟨n,r1,v,hy,rfl,⟨rfl,hn⟩,Bg⟩⟩
 ·exact⟨rfl,AZ,Or.inl ⟨i,De.Ad hy,hi,rfl⟩⟩
 have Y:=AA<|De.then_ok (g:=fun n=>if m<n then fun _=>Except.error 4 else GD f n) hy;have D1:AC (Gi a b w w1 r1):=⟨Bg,AZ,ZZ.out.keeps AZ hgb⟩;clear AZ Bg hy C;by_cases hlt:m<n
 ·have Y4:AC (DI m f l= .error 4):=⟨by rw[DI,Y.out,if_pos hlt]⟩;have g:(m:Int)<(n:Int):=zx
  have z4:=D1.out.2.2.c4;have CR:=AA<|Nu a b w1 (n:=4) zu;clear HH Y;go_wp2_with fail
  refine mq CR.out ?_;rintro w2 rfl;exact⟨rfl,D1.out.2.1,Or.inl ⟨4,Y4.out,zu,rfl⟩⟩
 ·have Y4:AC (DI m f l=GD f n r1):=⟨by rw[DI,Y.out,if_neg hlt]⟩;have g: ¬ (m:Int)<(n:Int):=zx
  clear Y;go_wp2
  go_loopw [8,18] (fun tv iv wr=>Ho 100 4 (BH AY<|d+1) f n (DI m f l) (Gi a b w) w tv iv wr) (fun _ iv _=>n-(intOf iv).toNat)
  case atStart=>exact⟨0,[],r1,[],none,0,zx,rfl,rfl,rfl,AO.nil,Af.nil _ _,by rw[Y4.out];simp[De.map];cases GD f n r1 <;> rfl,D1.out⟩
  case round=>
   obtain⟨q,xs,r,F,p,c,hq,rfl,rfl,Gx,hR,hN,hY,hD⟩:=hrel;by_cases M8:q<n
   ·have HR:=AA hR;have HN:=AA hN;have HY:=AA hY;have HD:=AA hD;have HX:=AA Gx;have CC:=AA<|HH.out _ _ hD;have g2:(q:Int)<(n:Int):=zx
    clear hR hN hY hD Gx HH;go_wp2_with fail
    refine CC.out.mono ?_;rintro e w2 ⟨hk2,⟨i,hy,hi,rfl⟩ | ⟨x,r2,v,hy,rfl,⟨vs,F2,rfl,hQ,BI⟩,Cf⟩⟩
    ·exact⟨rfl,HD.out.2.1.trans hk2,Or.inl ⟨i,Ho.stop M8 HY.out hy,hi,rfl⟩⟩
    obtain⟨p1,c1,rfl⟩:=BH.vals hQ;have NY:=AA<|Ho.step M8 HY.out hy;have D2:AC (Gi a b w w2 r2):=⟨Cf,HD.out.2.1.trans hk2,HD.out.2.2.keeps hk2 hgb⟩;have hs2:=hk2.size;have hsw:=HD.out.2.1.size;have bF:AC (∀ j,j∈F->j≠b):=⟨fun j hj=>by have:=HN.out.ge j hj;omega⟩;have BF:AC (AO 100 4 (BH AY<|d+1) w2 (.slice p q c) xs F):=⟨AO.stable (BH.stable (ty:=AY)<|d+1) _ _ _ _ _ HR.out fun j hj=>hk2.block j (HN.out.lt j hj) (bF.out j hj)⟩;have HQ:=AA hQ;have KY:AC (Af w.heap.size w2 F2):=⟨BI.later zx lr⟩;have Gv:AC (Af w.heap.size w2 F):=⟨HN.out.later lr zx⟩;have UO:AC (∀ j,j∈F->j∉F2):=⟨fun j hj Ao=>by have:=HN.out.lt j hj;have:=BI.ge j Ao;omega⟩;have Fp:xs.length<100000000:=by rw[HX.out];omega
    clear hQ BI hk2 Cf hy CC HR HY HN;go_wp2_with (at_builtin;go_must (refine MW vF rfl (.tmp 20) (.tmp 23) rfl (BH.stable (ty:=AY)<|d+1) (fun _ _ _ _ h=>BH.one h) w.heap.size (.slice p q c) xs F rfl (AO.stable (BH.stable (ty:=AY)<|d+1) _ _ _ _ _ BF.out fun j hj=>Ah _ _ _ (Gv.out.lt j hj)) w2.heap.size #[.int .i64 x.k,.int .i64 x.i,.string x.t,.slice p1 x.l.length c1] 100 (0,0) x F2 rfl (IC _ _) rfl (BH.stable (ty:=AY) (d+1) _ _ _ _ _ HQ.out fun j hj=>Ah _ _ _ (KY.out.lt j hj)) Fp (by simp;omega) (Gv.out.later lr zw) (KY.out.later lr zw) UO.out ?_);intro g3 cap3 w4 F3 AM)
    have R4:=AM.row;rw[HX.out]at R4;have hb4:w4.heap[b]?=w2.heap[b]?:=(AM.same b (by have:=D2.out.1.1.lt;simp;omega) (fun hj=>by have:=Gv.out.ge b hj;omega)).trans<|Ah _ _ _ D2.out.1.1.lt;have K4:=Ac.Qf AM (D2.out.2.1.alloc _) fun j hj=>Gv.out.ge j hj;have D4:AC (Gi a b w w4 r2):=⟨D2.out.1.of hb4,K4,ZZ.out.keeps K4 hgb⟩;try rw[HX.out]
    go_roundw
    case rel=>exact⟨q+1,xs++[x],r2,F3,_,_,zx,by go_num,rfl,by simp[HX.out],R4,AM.new,NY.out,D4.out⟩
    case measure=>simp[intOf];omega
   ·obtain rfl:q=n:=zx
    have Y5:=AA<|Ho.done hY;have g2: ¬ (q:Int)<(q:Int):=zx
    have H5:=AA<|AF hR<|AF hN hD;clear hR hN hY hD HH;go_wp2
    go_ret
    exact⟨H5.out.2.2.2.1,Or.inr ⟨xs,r,_,Y5.out,rfl,⟨F,H5.out.1,H5.out.2.1⟩,H5.out.2.2.1⟩⟩
def Zi2 (hen:Bj K){f:De A}(Z:Aa a w)(h:Dc w b l)(hm:m<1000)
  (HC: ∀ u r,Gi a b w u r->Calls prog K (first++cap) u (Hg a b (G5 (Bo AY d) u.heap.size) u<|f r)):
  Calls prog 272 #[.pointer<|Qb b 0,.int .u64 (m:Int),.func (.func K) first cap] w (Hg a b (Px 95 2 (Bo AY d) w.heap.size) w<|DI m f l):=by
 have C:=AA<|WF Z h;have HH:=AA HC;have Cb: ∀ args w,(callFunc K args).run prog w= .ok (.enter K args) w:=hen;have hgb:=h.2.2;have ZZ:=AA Z;have Ep:=h.1.lt;clear HC hen Z h;go_in
 go_wp2_with fail
 refine C.out.mono ?_;rintro e w1 ⟨AZ,⟨i,hy,hi,rfl⟩ | ⟨n,r1,v,hy,rfl,⟨rfl,hn⟩,Bg⟩⟩
 ·exact⟨rfl,AZ,Or.inl ⟨i,De.Ad hy,hi,rfl⟩⟩
 have Y:=AA<|De.then_ok (g:=fun n=>if m<n then fun _=>Except.error 4 else GD f n) hy;have D1:AC (Gi a b w w1 r1):=⟨Bg,AZ,ZZ.out.keeps AZ hgb⟩;clear AZ Bg hy C;by_cases hlt:m<n
 ·have Y4:AC (DI m f l= .error 4):=⟨by rw[DI,Y.out,if_pos hlt]⟩;have g:(m:Int)<(n:Int):=zx
  have z4:=D1.out.2.2.c4;have CR:=AA<|Nu a b w1 (n:=4) zu;clear HH Y;go_wp2_with fail
  refine mq CR.out ?_;rintro w2 rfl;exact⟨rfl,D1.out.2.1,Or.inl ⟨4,Y4.out,zu,rfl⟩⟩
 ·have Y4:AC (DI m f l=GD f n r1):=⟨by rw[DI,Y.out,if_neg hlt]⟩;have g: ¬ (m:Int)<(n:Int):=zx
  clear Y;go_wp2
  go_loopw [8,18] (fun tv iv wr=>Ho 95 2 (Bo AY d) f n (DI m f l) (Gi a b w) w tv iv wr) (fun _ iv _=>n-(intOf iv).toNat)
  case atStart=>exact⟨0,[],r1,[],none,0,zx,rfl,rfl,rfl,AO.nil,Af.nil _ _,by rw[Y4.out];simp[De.map];cases GD f n r1 <;> rfl,D1.out⟩
  case round=>
   obtain⟨q,xs,r,F,p,c,hq,rfl,rfl,Gx,hR,hN,hY,hD⟩:=hrel;by_cases M8:q<n
   ·have HR:=AA hR;have HN:=AA hN;have HY:=AA hY;have HD:=AA hD;have HX:=AA Gx;have CC:=AA<|HH.out _ _ hD;have g2:(q:Int)<(n:Int):=zx
    clear hR hN hY hD Gx HH;go_wp2_with fail
    refine CC.out.mono ?_;rintro e w2 ⟨hk2,⟨i,hy,hi,rfl⟩ | ⟨x,r2,v,hy,rfl,⟨vs,F2,rfl,hQ,BI⟩,Cf⟩⟩
    ·exact⟨rfl,HD.out.2.1.trans hk2,Or.inl ⟨i,Ho.stop M8 HY.out hy,hi,rfl⟩⟩
    obtain⟨p1,c1,rfl⟩:=Bo.vals hQ;have NY:=AA<|Ho.step M8 HY.out hy;have D2:AC (Gi a b w w2 r2):=⟨Cf,HD.out.2.1.trans hk2,HD.out.2.2.keeps hk2 hgb⟩;have hs2:=hk2.size;have hsw:=HD.out.2.1.size;have bF:AC (∀ j,j∈F->j≠b):=⟨fun j hj=>by have:=HN.out.ge j hj;omega⟩;have BF:AC (AO 95 2 (Bo AY d) w2 (.slice p q c) xs F):=⟨AO.stable (Bo.stable (ty:=AY) d) _ _ _ _ _ HR.out fun j hj=>hk2.block j (HN.out.lt j hj) (bF.out j hj)⟩;have HQ:=AA hQ;have KY:AC (Af w.heap.size w2 F2):=⟨BI.later zx lr⟩;have Gv:AC (Af w.heap.size w2 F):=⟨HN.out.later lr zx⟩;have UO:AC (∀ j,j∈F->j∉F2):=⟨fun j hj Ao=>by have:=HN.out.lt j hj;have:=BI.ge j Ao;omega⟩;have Fp:xs.length<100000000:=by rw[HX.out];omega
    clear hQ BI hk2 Cf hy CC HR HY HN;go_wp2_with (at_builtin;go_must (refine MW Zvp rfl (.tmp 20) (.tmp 23) rfl (Bo.stable (ty:=AY) d) (fun _ _ _ _ h=>Bo.one h) w.heap.size (.slice p q c) xs F rfl (AO.stable (Bo.stable (ty:=AY) d) _ _ _ _ _ BF.out fun j hj=>Ah _ _ _ (Gv.out.lt j hj)) w2.heap.size #[.string x.name,.slice p1 x.terms.length c1] 95 (0,0) x F2 rfl (IC _ _) rfl (Bo.stable (ty:=AY) d _ _ _ _ _ HQ.out fun j hj=>Ah _ _ _ (KY.out.lt j hj)) Fp (by simp;omega) (Gv.out.later lr zw) (KY.out.later lr zw) UO.out ?_);intro g3 cap3 w4 F3 AM)
    have R4:=AM.row;rw[HX.out]at R4;have hb4:w4.heap[b]?=w2.heap[b]?:=(AM.same b (by have:=D2.out.1.1.lt;simp;omega) (fun hj=>by have:=Gv.out.ge b hj;omega)).trans<|Ah _ _ _ D2.out.1.1.lt;have K4:=Ac.Qf AM (D2.out.2.1.alloc _) fun j hj=>Gv.out.ge j hj;have D4:AC (Gi a b w w4 r2):=⟨D2.out.1.of hb4,K4,ZZ.out.keeps K4 hgb⟩;try rw[HX.out]
    go_roundw
    case rel=>exact⟨q+1,xs++[x],r2,F3,_,_,zx,by go_num,rfl,by simp[HX.out],R4,AM.new,NY.out,D4.out⟩
    case measure=>simp[intOf];omega
   ·obtain rfl:q=n:=zx
    have Y5:=AA<|Ho.done hY;have g2: ¬ (q:Int)<(q:Int):=zx
    have H5:=AA<|AF hR<|AF hN hD;clear hR hN hY hD HH;go_wp2
    go_ret
    exact⟨H5.out.2.2.2.1,Or.inr ⟨xs,r,_,Y5.out,rfl,⟨F,H5.out.1,H5.out.2.1⟩,H5.out.2.2.1⟩⟩
def Zn2 (hen:Bj K){f:De G}(Z:Aa a w)(h:Dc w b l)(hm:m<1000)
  (HC: ∀ u r,Gi a b w u r->Calls prog K (first++cap) u (Hg a b (G5 (Ee AY<|d+1) u.heap.size) u<|f r)):
  Calls prog 298 #[.pointer<|Qb b 0,.int .u64 (m:Int),.func (.func K) first cap] w (Hg a b (Px 102 9 (Ee AY<|d+1) w.heap.size) w<|DI m f l):=by
 have C:=AA<|WF Z h;have HH:=AA HC;have Cb: ∀ args w,(callFunc K args).run prog w= .ok (.enter K args) w:=hen;have hgb:=h.2.2;have ZZ:=AA Z;have Ep:=h.1.lt;clear HC hen Z h;go_in
 go_wp2_with fail
 refine C.out.mono ?_;rintro e w1 ⟨AZ,⟨i,hy,hi,rfl⟩ | ⟨n,r1,v,hy,rfl,⟨rfl,hn⟩,Bg⟩⟩
 ·exact⟨rfl,AZ,Or.inl ⟨i,De.Ad hy,hi,rfl⟩⟩
 have Y:=AA<|De.then_ok (g:=fun n=>if m<n then fun _=>Except.error 4 else GD f n) hy;have D1:AC (Gi a b w w1 r1):=⟨Bg,AZ,ZZ.out.keeps AZ hgb⟩;clear AZ Bg hy C;by_cases hlt:m<n
 ·have Y4:AC (DI m f l= .error 4):=⟨by rw[DI,Y.out,if_pos hlt]⟩;have g:(m:Int)<(n:Int):=zx
  have z4:=D1.out.2.2.c4;have CR:=AA<|Nu a b w1 (n:=4) zu;clear HH Y;go_wp2_with fail
  refine mq CR.out ?_;rintro w2 rfl;exact⟨rfl,D1.out.2.1,Or.inl ⟨4,Y4.out,zu,rfl⟩⟩
 ·have Y4:AC (DI m f l=GD f n r1):=⟨by rw[DI,Y.out,if_neg hlt]⟩;have g: ¬ (m:Int)<(n:Int):=zx
  clear Y;go_wp2
  go_loopw [8,18] (fun tv iv wr=>Ho 102 9 (Ee AY<|d+1) f n (DI m f l) (Gi a b w) w tv iv wr) (fun _ iv _=>n-(intOf iv).toNat)
  case atStart=>exact⟨0,[],r1,[],none,0,zx,rfl,rfl,rfl,AO.nil,Af.nil _ _,by rw[Y4.out];simp[De.map];cases GD f n r1 <;> rfl,D1.out⟩
  case round=>
   obtain⟨q,xs,r,F,p,c,hq,rfl,rfl,Gx,hR,hN,hY,hD⟩:=hrel;by_cases M8:q<n
   ·have HR:=AA hR;have HN:=AA hN;have HY:=AA hY;have HD:=AA hD;have HX:=AA Gx;have CC:=AA<|HH.out _ _ hD;have g2:(q:Int)<(n:Int):=zx
    clear hR hN hY hD Gx HH;go_wp2_with fail
    refine CC.out.mono ?_;rintro e w2 ⟨hk2,⟨i,hy,hi,rfl⟩ | ⟨x,r2,v,hy,rfl,⟨vs,F2,rfl,hQ,BI⟩,Cf⟩⟩
    ·exact⟨rfl,HD.out.2.1.trans hk2,Or.inl ⟨i,Ho.stop M8 HY.out hy,hi,rfl⟩⟩
    obtain⟨p1,c1,p2,c2,rfl⟩:=Ee.vals hQ;have NY:=AA<|Ho.step M8 HY.out hy;have D2:AC (Gi a b w w2 r2):=⟨Cf,HD.out.2.1.trans hk2,HD.out.2.2.keeps hk2 hgb⟩;have hs2:=hk2.size;have hsw:=HD.out.2.1.size;have bF:AC (∀ j,j∈F->j≠b):=⟨fun j hj=>by have:=HN.out.ge j hj;omega⟩;have BF:AC (AO 102 9 (Ee AY<|d+1) w2 (.slice p q c) xs F):=⟨AO.stable (Ee.stable (ty:=AY)<|d+1) _ _ _ _ _ HR.out fun j hj=>hk2.block j (HN.out.lt j hj) (bF.out j hj)⟩;have HQ:=AA hQ;have KY:AC (Af w.heap.size w2 F2):=⟨BI.later zx lr⟩;have Gv:AC (Af w.heap.size w2 F):=⟨HN.out.later lr zx⟩;have UO:AC (∀ j,j∈F->j∉F2):=⟨fun j hj Ao=>by have:=HN.out.lt j hj;have:=BI.ge j Ao;omega⟩;have Fp:xs.length<100000000:=by rw[HX.out];omega
    clear hQ BI hk2 Cf hy CC HR HY HN;go_wp2_with (at_builtin;go_must (refine MW Zrz rfl (.tmp 20) (.tmp 23) rfl (Ee.stable (ty:=AY)<|d+1) (fun _ _ _ _ h=>Ee.one h) w.heap.size (.slice p q c) xs F rfl (AO.stable (Ee.stable (ty:=AY)<|d+1) _ _ _ _ _ BF.out fun j hj=>Ah _ _ _ (Gv.out.lt j hj)) w2.heap.size #[.int .i64 x.op,.int .i64 x.a.k,.int .i64 x.a.i,.string x.a.t,.slice p1 x.a.l.length c1,.int .i64 x.b.k,.int .i64 x.b.i,.string x.b.t,.slice p2 x.b.l.length c2] 102 (0,0) x F2 rfl (IC _ _) rfl (Ee.stable (ty:=AY) (d+1) _ _ _ _ _ HQ.out fun j hj=>Ah _ _ _ (KY.out.lt j hj)) Fp (by simp;omega) (Gv.out.later lr zw) (KY.out.later lr zw) UO.out ?_);intro g3 cap3 w4 F3 AM)
    have R4:=AM.row;rw[HX.out]at R4;have hb4:w4.heap[b]?=w2.heap[b]?:=(AM.same b (by have:=D2.out.1.1.lt;simp;omega) (fun hj=>by have:=Gv.out.ge b hj;omega)).trans<|Ah _ _ _ D2.out.1.1.lt;have K4:=Ac.Qf AM (D2.out.2.1.alloc _) fun j hj=>Gv.out.ge j hj;have D4:AC (Gi a b w w4 r2):=⟨D2.out.1.of hb4,K4,ZZ.out.keeps K4 hgb⟩;try rw[HX.out]
    go_roundw
    case rel=>exact⟨q+1,xs++[x],r2,F3,_,_,zx,by go_num,rfl,by simp[HX.out],R4,AM.new,NY.out,D4.out⟩
    case measure=>simp[intOf];omega
   ·obtain rfl:q=n:=zx
    have Y5:=AA<|Ho.done hY;have g2: ¬ (q:Int)<(q:Int):=zx
    have H5:=AA<|AF hR<|AF hN hD;clear hR hN hY hD HH;go_wp2
    go_ret
    exact⟨H5.out.2.2.2.1,Or.inr ⟨xs,r,_,Y5.out,rfl,⟨F,H5.out.1,H5.out.2.1⟩,H5.out.2.2.1⟩⟩
def Zi3 (hen:Bj K){f:De R}(Z:Aa a w)(h:Dc w b l)(hm:m<1000)
  (HC: ∀ u r,Gi a b w u r->Calls prog K (first++cap) u (Hg a b (G5 (Cj AY d) u.heap.size) u<|f r)):
  Calls prog 274 #[.pointer<|Qb b 0,.int .u64 (m:Int),.func (.func K) first cap] w (Hg a b (Px 98 4 (Cj AY d) w.heap.size) w<|DI m f l):=by
 have C:=AA<|WF Z h;have HH:=AA HC;have Cb: ∀ args w,(callFunc K args).run prog w= .ok (.enter K args) w:=hen;have hgb:=h.2.2;have ZZ:=AA Z;have Ep:=h.1.lt;clear HC hen Z h;go_in
 go_wp2_with fail
 refine C.out.mono ?_;rintro e w1 ⟨AZ,⟨i,hy,hi,rfl⟩ | ⟨n,r1,v,hy,rfl,⟨rfl,hn⟩,Bg⟩⟩
 ·exact⟨rfl,AZ,Or.inl ⟨i,De.Ad hy,hi,rfl⟩⟩
 have Y:=AA<|De.then_ok (g:=fun n=>if m<n then fun _=>Except.error 4 else GD f n) hy;have D1:AC (Gi a b w w1 r1):=⟨Bg,AZ,ZZ.out.keeps AZ hgb⟩;clear AZ Bg hy C;by_cases hlt:m<n
 ·have Y4:AC (DI m f l= .error 4):=⟨by rw[DI,Y.out,if_pos hlt]⟩;have g:(m:Int)<(n:Int):=zx
  have z4:=D1.out.2.2.c4;have CR:=AA<|Nu a b w1 (n:=4) zu;clear HH Y;go_wp2_with fail
  refine mq CR.out ?_;rintro w2 rfl;exact⟨rfl,D1.out.2.1,Or.inl ⟨4,Y4.out,zu,rfl⟩⟩
 ·have Y4:AC (DI m f l=GD f n r1):=⟨by rw[DI,Y.out,if_neg hlt]⟩;have g: ¬ (m:Int)<(n:Int):=zx
  clear Y;go_wp2
  go_loopw [8,18] (fun tv iv wr=>Ho 98 4 (Cj AY d) f n (DI m f l) (Gi a b w) w tv iv wr) (fun _ iv _=>n-(intOf iv).toNat)
  case atStart=>exact⟨0,[],r1,[],none,0,zx,rfl,rfl,rfl,AO.nil,Af.nil _ _,by rw[Y4.out];simp[De.map];cases GD f n r1 <;> rfl,D1.out⟩
  case round=>
   obtain⟨q,xs,r,F,p,c,hq,rfl,rfl,Gx,hR,hN,hY,hD⟩:=hrel;by_cases M8:q<n
   ·have HR:=AA hR;have HN:=AA hN;have HY:=AA hY;have HD:=AA hD;have HX:=AA Gx;have CC:=AA<|HH.out _ _ hD;have g2:(q:Int)<(n:Int):=zx
    clear hR hN hY hD Gx HH;go_wp2_with fail
    refine CC.out.mono ?_;rintro e w2 ⟨hk2,⟨i,hy,hi,rfl⟩ | ⟨x,r2,v,hy,rfl,⟨vs,F2,rfl,hQ,BI⟩,Cf⟩⟩
    ·exact⟨rfl,HD.out.2.1.trans hk2,Or.inl ⟨i,Ho.stop M8 HY.out hy,hi,rfl⟩⟩
    obtain⟨p1,c1,p2,c2,p3,c3,rfl⟩:=Cj.vals hQ;have NY:=AA<|Ho.step M8 HY.out hy;have D2:AC (Gi a b w w2 r2):=⟨Cf,HD.out.2.1.trans hk2,HD.out.2.2.keeps hk2 hgb⟩;have hs2:=hk2.size;have hsw:=HD.out.2.1.size;have bF:AC (∀ j,j∈F->j≠b):=⟨fun j hj=>by have:=HN.out.ge j hj;omega⟩;have BF:AC (AO 98 4 (Cj AY d) w2 (.slice p q c) xs F):=⟨AO.stable (Cj.stable (ty:=AY) d) _ _ _ _ _ HR.out fun j hj=>hk2.block j (HN.out.lt j hj) (bF.out j hj)⟩;have HQ:=AA hQ;have KY:AC (Af w.heap.size w2 F2):=⟨BI.later zx lr⟩;have Gv:AC (Af w.heap.size w2 F):=⟨HN.out.later lr zx⟩;have UO:AC (∀ j,j∈F->j∉F2):=⟨fun j hj Ao=>by have:=HN.out.lt j hj;have:=BI.ge j Ao;omega⟩;have Fp:xs.length<100000000:=by rw[HX.out];omega
    clear hQ BI hk2 Cf hy CC HR HY HN;go_wp2_with (at_builtin;go_must (refine MW Zvr rfl (.tmp 20) (.tmp 23) rfl (Cj.stable (ty:=AY) d) (fun _ _ _ _ h=>Cj.one h) w.heap.size (.slice p q c) xs F rfl (AO.stable (Cj.stable (ty:=AY) d) _ _ _ _ _ BF.out fun j hj=>Ah _ _ _ (Gv.out.lt j hj)) w2.heap.size #[.string x.head.name,.slice p1 x.head.terms.length c1,.slice p2 x.body.length c2,.slice p3 x.guards.length c3] 98 (0,0) x F2 rfl (IC _ _) rfl (Cj.stable (ty:=AY) d _ _ _ _ _ HQ.out fun j hj=>Ah _ _ _ (KY.out.lt j hj)) Fp (by simp;omega) (Gv.out.later lr zw) (KY.out.later lr zw) UO.out ?_);intro g3 cap3 w4 F3 AM)
    have R4:=AM.row;rw[HX.out]at R4;have hb4:w4.heap[b]?=w2.heap[b]?:=(AM.same b (by have:=D2.out.1.1.lt;simp;omega) (fun hj=>by have:=Gv.out.ge b hj;omega)).trans<|Ah _ _ _ D2.out.1.1.lt;have K4:=Ac.Qf AM (D2.out.2.1.alloc _) fun j hj=>Gv.out.ge j hj;have D4:AC (Gi a b w w4 r2):=⟨D2.out.1.of hb4,K4,ZZ.out.keeps K4 hgb⟩;try rw[HX.out]
    go_roundw
    case rel=>exact⟨q+1,xs++[x],r2,F3,_,_,zx,by go_num,rfl,by simp[HX.out],R4,AM.new,NY.out,D4.out⟩
    case measure=>simp[intOf];omega
   ·obtain rfl:q=n:=zx
    have Y5:=AA<|Ho.done hY;have g2: ¬ (q:Int)<(q:Int):=zx
    have H5:=AA<|AF hR<|AF hN hD;clear hR hN hY hD HH;go_wp2
    go_ret
    exact⟨H5.out.2.2.2.1,Or.inr ⟨xs,r,_,Y5.out,rfl,⟨F,H5.out.1,H5.out.2.1⟩,H5.out.2.2.1⟩⟩
def Zn1 (hen:Bj K){f:De (List R)}(Z:Aa a w)(h:Dc w b l)(hm:m<1000)
  (HC: ∀ u r,Gi a b w u r->Calls prog K (first++cap) u (Hg a b (G5 (Eo AY d) u.heap.size) u<|f r)):
  Calls prog 276 #[.pointer<|Qb b 0,.int .u64 (m:Int),.func (.func K) first cap] w (Hg a b (Px 65 1 (Eo AY d) w.heap.size) w<|DI m f l):=by
 have C:=AA<|WF Z h;have HH:=AA HC;have Cb: ∀ args w,(callFunc K args).run prog w= .ok (.enter K args) w:=hen;have hgb:=h.2.2;have ZZ:=AA Z;have Ep:=h.1.lt;clear HC hen Z h;go_in
 go_wp2_with fail
 refine C.out.mono ?_;rintro e w1 ⟨AZ,⟨i,hy,hi,rfl⟩ | ⟨n,r1,v,hy,rfl,⟨rfl,hn⟩,Bg⟩⟩
 ·exact⟨rfl,AZ,Or.inl ⟨i,De.Ad hy,hi,rfl⟩⟩
 have Y:=AA<|De.then_ok (g:=fun n=>if m<n then fun _=>Except.error 4 else GD f n) hy;have D1:AC (Gi a b w w1 r1):=⟨Bg,AZ,ZZ.out.keeps AZ hgb⟩;clear AZ Bg hy C;by_cases hlt:m<n
 ·have Y4:AC (DI m f l= .error 4):=⟨by rw[DI,Y.out,if_pos hlt]⟩;have g:(m:Int)<(n:Int):=zx
  have z4:=D1.out.2.2.c4;have CR:=AA<|Nu a b w1 (n:=4) zu;clear HH Y;go_wp2_with fail
  refine mq CR.out ?_;rintro w2 rfl;exact⟨rfl,D1.out.2.1,Or.inl ⟨4,Y4.out,zu,rfl⟩⟩
 ·have Y4:AC (DI m f l=GD f n r1):=⟨by rw[DI,Y.out,if_neg hlt]⟩;have g: ¬ (m:Int)<(n:Int):=zx
  clear Y;go_wp2
  go_loopw [8,18] (fun tv iv wr=>Ho 65 1 (Eo AY d) f n (DI m f l) (Gi a b w) w tv iv wr) (fun _ iv _=>n-(intOf iv).toNat)
  case atStart=>exact⟨0,[],r1,[],none,0,zx,rfl,rfl,rfl,AO.nil,Af.nil _ _,by rw[Y4.out];simp[De.map];cases GD f n r1 <;> rfl,D1.out⟩
  case round=>
   obtain⟨q,xs,r,F,p,c,hq,rfl,rfl,Gx,hR,hN,hY,hD⟩:=hrel;by_cases M8:q<n
   ·have HR:=AA hR;have HN:=AA hN;have HY:=AA hY;have HD:=AA hD;have HX:=AA Gx;have CC:=AA<|HH.out _ _ hD;have g2:(q:Int)<(n:Int):=zx
    clear hR hN hY hD Gx HH;go_wp2_with fail
    refine CC.out.mono ?_;rintro e w2 ⟨hk2,⟨i,hy,hi,rfl⟩ | ⟨x,r2,v,hy,rfl,⟨vs,F2,rfl,hQ,BI⟩,Cf⟩⟩
    ·exact⟨rfl,HD.out.2.1.trans hk2,Or.inl ⟨i,Ho.stop M8 HY.out hy,hi,rfl⟩⟩
    obtain⟨p1,c1,rfl⟩:=Eo.vals hQ;have NY:=AA<|Ho.step M8 HY.out hy;have D2:AC (Gi a b w w2 r2):=⟨Cf,HD.out.2.1.trans hk2,HD.out.2.2.keeps hk2 hgb⟩;have hs2:=hk2.size;have hsw:=HD.out.2.1.size;have bF:AC (∀ j,j∈F->j≠b):=⟨fun j hj=>by have:=HN.out.ge j hj;omega⟩;have BF:AC (AO 65 1 (Eo AY d) w2 (.slice p q c) xs F):=⟨AO.stable (Eo.stable (ty:=AY) d) _ _ _ _ _ HR.out fun j hj=>hk2.block j (HN.out.lt j hj) (bF.out j hj)⟩;have HQ:=AA hQ;have KY:AC (Af w.heap.size w2 F2):=⟨BI.later zx lr⟩;have Gv:AC (Af w.heap.size w2 F):=⟨HN.out.later lr zx⟩;have UO:AC (∀ j,j∈F->j∉F2):=⟨fun j hj Ao=>by have:=HN.out.lt j hj;have:=BI.ge j Ao;omega⟩;have Fp:xs.length<100000000:=by rw[HX.out];omega
    clear hQ BI hk2 Cf hy CC HR HY HN;go_wp2_with (at_builtin;go_must (refine MW Zry rfl (.tmp 20) (.tmp 23) rfl (Eo.stable (ty:=AY) d) (fun _ _ _ _ h=>Eo.one h) w.heap.size (.slice p q c) xs F rfl (AO.stable (Eo.stable (ty:=AY) d) _ _ _ _ _ BF.out fun j hj=>Ah _ _ _ (Gv.out.lt j hj)) w2.heap.size #[.slice p1 x.length c1] 65 (0,0) x F2 rfl (IC _ _) rfl (Eo.stable (ty:=AY) d _ _ _ _ _ HQ.out fun j hj=>Ah _ _ _ (KY.out.lt j hj)) Fp (by simp;omega) (Gv.out.later lr zw) (KY.out.later lr zw) UO.out ?_);intro g3 cap3 w4 F3 AM)
    have R4:=AM.row;rw[HX.out]at R4;have hb4:w4.heap[b]?=w2.heap[b]?:=(AM.same b (by have:=D2.out.1.1.lt;simp;omega) (fun hj=>by have:=Gv.out.ge b hj;omega)).trans<|Ah _ _ _ D2.out.1.1.lt;have K4:=Ac.Qf AM (D2.out.2.1.alloc _) fun j hj=>Gv.out.ge j hj;have D4:AC (Gi a b w w4 r2):=⟨D2.out.1.of hb4,K4,ZZ.out.keeps K4 hgb⟩;try rw[HX.out]
    go_roundw
    case rel=>exact⟨q+1,xs++[x],r2,F3,_,_,zx,by go_num,rfl,by simp[HX.out],R4,AM.new,NY.out,D4.out⟩
    case measure=>simp[intOf];omega
   ·obtain rfl:q=n:=zx
    have Y5:=AA<|Ho.done hY;have g2: ¬ (q:Int)<(q:Int):=zx
    have H5:=AA<|AF hR<|AF hN hD;clear hR hN hY hD HH;go_wp2
    go_ret
    exact⟨H5.out.2.2.2.1,Or.inr ⟨xs,r,_,Y5.out,rfl,⟨F,H5.out.1,H5.out.2.1⟩,H5.out.2.2.1⟩⟩
end Go.P
namespace Go.P
variable {w:World}{b d:Nat}{l:By}{a:Nat->Addr}
theorem G6: ∀ (fn:Fn) (first cap:Array Value) (w:World),(Instr.makeFunc fn first cap).run prog w= .ok (.func fn first cap) w:=fun _ _ _ _=>rfl
def Ydb (m:Nat)(y:Int):bits .xor .i64 (m:Int) y=IntKind.i64.wrap (((BitVec.ofInt 64 (m:Int)) ^^^ (BitVec.ofInt 64 y)).toNat:Int):=rfl
def Z31 (n:Nat)(hn:n<18446744073709551616):bits .xor .i64 ((n:Int) / 2) (wrap64 (-wrap64 (bits .and .u64 (n:Int) 1)))=Td n:=by
 have e1:bits .and .u64 (n:Int) 1=((n % 2:Nat):Int):=by
  have:=u64_and_nat n 1 hn zu
  rw[Nat.and_one_is_mod]at this;exact this
 have e2:(n:Int) / 2=((n / 2:Nat):Int):=zx
 have Ej:(BitVec.ofInt 64 ((n / 2:Nat):Int)).toNat=n / 2:=ofInt_u64 _ zx;rw[e1,e2,Ydb];unfold Td;by_cases h:n % 2=0
 ·rw[if_pos h,h]
  have:wrap64 (-wrap64 ((0:Nat):Int))=0:=by simp[wrap64]
  rw[this]
  have:BitVec.ofInt 64 0=0#64:=rfl
  rw[this,BitVec.xor_zero,Ej,IntKind.wrap_i64];omega
 ·rw[if_neg h,show n % 2=1 by omega]
  have:wrap64 (-wrap64 ((1:Nat):Int))= -1:=by simp[wrap64]
  rw[this]
  have:BitVec.ofInt 64 (-1)=BitVec.allOnes 64:=zu
  rw[this,BitVec.xor_allOnes,BitVec.toNat_not,Ej,IntKind.wrap_i64];omega
def Zxc (n:Nat)(hn:n<18446744073709551616)(w:World):Calls prog 300 #[.int .u64 (n:Int)] w fun e w'=>e= .returned (.int .i64<|Td n)/\w'=w:=by
 go_in
 go_wp2
 go_ret
 exact⟨Z63<|Z31 n hn,rfl⟩
def Zq5:Bj 296:=DL func296 zt rfl
def Dc.Fj {w':World}(h:Dc w b l)(k: ∀ i,i<w.heap.size->w'.heap[i]?=w.heap[i]?):Dc w' b l:=h.of<|k b h.1.lt
def V9 (d:Nat):Prop:= ∀ {a:Nat->Addr} {w:World} {b:Nat} {l:By},Aa a w->Dc w b l->Calls prog 297 #[.pointer<|Qb b 0,.int .i64 ((3-d:Nat):Int)] w (Hg a b (G5 (BH AY<|d+1) w.heap.size) w<|KH d l)
def Zx5 (ih:V9 d){L1 L2:Nat}(Z:Aa a w)(h:Dc w b l)(k1:w.cell? ⟨L1,0,none⟩=some (.pointer<|Qb b 0))(k2:w.cell? ⟨L2,0,none⟩=some (.int .i64 ((3-d:Nat):Int))):
  Calls prog 296 #[.pointer<|Qb L1 0,.pointer<|Qb L2 0] w (Hg a b (G5 (BH AY<|d+1) w.heap.size) w<|KH d l):=by
 have l1:=fun o=>Aq k1 ((AQ _ w).alloc lr o);have l2:=fun o=>Aq k2 ((AQ _ w).alloc lr o);have C:=AA<|ih (Z.below<|(AQ _ w).alloc lr<|.cells #[.int .i64 0,.int .i64 0,.string ⟨#[]⟩,.slice none 0 0] 100)<|h.alloc<|.cells #[.int .i64 0,.int .i64 0,.string ⟨#[]⟩,.slice none 0 0] 100;have hb:=h.1.lt;have L0:=AA<|AJ.new w #[.int .i64 0,.int .i64 0,.string ⟨#[]⟩,.slice none 0 0] 100;have K0:=AA<|(Ac.refl b w).alloc<|.cells #[.int .i64 0,.int .i64 0,.string ⟨#[]⟩,.slice none 0 0] 100;obtain⟨dd,hdd⟩: ∃ z:Int,((3-d:Nat):Int)=z:=⟨_,rfl⟩;rw[hdd]at l2 C;clear k1 k2 Z h hdd;go_in
 go_wp2_with fail
 refine C.out.mono ?_;rintro e w1 ⟨AZ,⟨i,hy,hi,rfl⟩ | ⟨x,r1,v,hy,rfl,⟨vs,F,rfl,hQ,hN⟩,Bg⟩⟩
 ·exact⟨rfl,K0.out.trans AZ,Or.inl ⟨i,hy,hi,rfl⟩⟩
 ·obtain⟨p1,c1,rfl⟩:=BH.vals hQ;obtain⟨y0,y1,y2,y3,sf⟩:=(L0.out.of<|AZ.block w.heap.size zw zx).four;have R:=AA<|AF hQ<|AF hN<|AF Bg<|AF hy<|K0.out.trans AZ;clear hQ hN Bg hy AZ C;go_wp2
  refine CQ (by simp[results,results296,go_sem,y0,y1,y2,y3];try rfl) rfl ?_;obtain⟨hQ,hN,Bg,hy,AZ⟩:=R.out;exact⟨AZ.r4 lr,Or.inr ⟨x,r1,_,hy,rfl,⟨_,F,rfl,BH.stable (d+1) _ _ _ _ _ hQ fun j hj=>Iz (by have:=hN.ge j hj;simp at this;omega),hN.later zw zw⟩,Bg.of<|Iz zx⟩⟩
def Zrx (ih:V9 d)(Z:Aa a w)(h:Dc w b l):
  Calls prog 291 #[.pointer<|Qb b 0,.int .i64 ((3-d:Nat):Int)] w (Hg a b (Px 100 4 (BH AY<|d+1) w.heap.size) w<|DI 6 (KH d) l):=by
 have Dw:=G6;obtain⟨dd,hdd⟩: ∃ z:Int,((3-d:Nat):Int)=z:=⟨_,rfl⟩;have B0:=AA<|((AQ w.heap.size w).alloc lr<|.cells #[.pointer<|Qb b 0] 238).alloc zw<|.cells #[.int .i64 dd] 3;have K0:=AA<|((Ac.refl b w).alloc<|.cells #[.pointer<|Qb b 0] 238).alloc<|.cells #[.int .i64 dd] 3;have L1:=AA<|(AJ.new w #[.pointer<|Qb b 0] 238).alloc<|.cells #[.int .i64 dd] 3;have L2:=AA<|AJ.new (w.alloc<|.cells #[.pointer<|Qb b 0] 238) #[.int .i64 dd] 3;have hb:=h.1.lt;have C:=AA (Zo8 (d:=d) (f:=KH d) Zq5 (first:=#[]) (cap:=#[.pointer<|Qb w.heap.size 0,.pointer<|Qb (w.heap.size+1) 0]) (m:=6) (Z.below B0.out) ((h.alloc<|.cells #[.pointer<|Qb b 0] 238).alloc<|.cells #[.int .i64 dd] 3) zx fun u r hu=>Zx5 ih hu.2.2 hu.1 ((L1.out.of<|hu.2.1.block w.heap.size (by simp;omega) zx).one.1) (by rw[hdd];have:=(L2.out.of<|hu.2.1.block _ zw (by simp;omega)).one.1;simpa using this));rw[hdd];clear Z h ih hdd;go_in
 go_wp2_with fail
 refine C.out.mono ?_;rintro e w1 ⟨AZ,⟨i,hy,hi,rfl⟩ | ⟨xs,r1,v,hy,rfl,⟨F,hR,hN⟩,Bg⟩⟩
 ·exact⟨rfl,K0.out.trans AZ,Or.inl ⟨i,hy,hi,rfl⟩⟩
 ·obtain⟨p1,c1,rfl⟩:=AO.form hR;have R:=AA<|AF hR<|AF hN<|AF Bg<|AF hy<|K0.out.trans AZ;clear hR hN Bg hy AZ C;go_wp2
  go_ret
  obtain⟨hR,hN,Bg,hy,AZ⟩:=R.out;exact⟨AZ,Or.inr ⟨xs,r1,_,hy,rfl,⟨F,hR,hN.later (by simp;omega) lr⟩,Bg⟩⟩
end Go.P
