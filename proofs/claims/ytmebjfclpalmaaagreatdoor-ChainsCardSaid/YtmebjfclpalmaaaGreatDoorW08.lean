import Derived.Test.YtmebjfclpalmaaaGreatDoorW01
set_option maxRecDepth 100000
set_option maxHeartbeats 8000000
set_option linter.unusedSimpArgs false
open Go.Proofs Go.RowKit Go.W Tryz
namespace Go.W
variable {k n q:Nat}{l r:By}{e:Int}
variable {ty:Tys} {d:Nat} {w:World} {vs:List Value} {F:List Nat}
theorem Za3.vals {x:T}(h:Za3 ty (d+1) w vs x F): ∃ p c,vs=[.int .i64 x.k,.int .i64 x.i,.string x.t,.slice p x.l.length c]:=by
 obtain⟨lv,rfl,_,_,_,h⟩:=h;obtain⟨p,c,rfl⟩:=Zag.form h;exact⟨p,c,rfl⟩
theorem Zbk.vals {x:A}(h:Zbk ty d w vs x F): ∃ p c,vs=[.string x.name,.slice p x.terms.length c]:=by
 obtain⟨tv,rfl,_,h⟩:=h;obtain⟨p,c,rfl⟩:=Zag.form h;exact⟨p,c,rfl⟩
theorem Zbr.vals {x:G}(h:Zbr ty (d+1) w vs x F): ∃ p c p' c',vs=[.int .i64 x.op,.int .i64 x.a.k,.int .i64 x.a.i,.string x.a.t,.slice p x.a.l.length c,.int .i64 x.b.k,.int .i64 x.b.i,.string x.b.t,.slice p' x.b.l.length c']:=by
 obtain⟨va,vb,Fa,Fb,rfl,_,ha,hb,_⟩:=h;obtain⟨p,c,rfl⟩:=Za3.vals ha;obtain⟨p',c',rfl⟩:=Za3.vals hb;exact⟨p,c,p',c',rfl⟩
theorem Zbs.vals {x:R}(h:Zbs ty d w vs x F): ∃ p c p' c' p2 c2,vs=[.string x.head.name,.slice p x.head.terms.length c,.slice p' x.body.length c',.slice p2 x.guards.length c2]:=by
 obtain⟨hv,bv,gv,Fh,Fb,Fg,rfl,hh,hb,hg,_⟩:=h;obtain⟨p,c,rfl⟩:=Zbk.vals hh;obtain⟨p',c',rfl⟩:=Zag.form hb;obtain⟨p2,c2,rfl⟩:=Zag.form hg;exact⟨p,c,p',c',p2,c2,rfl⟩
theorem Zbw.vals {x:List R}(h:Zbw ty d w vs x F): ∃ p c,vs=[.slice p x.length c]:=by
 obtain⟨v,rfl,h⟩:=h;obtain⟨p,c,rfl⟩:=Zag.form h;exact⟨p,c,rfl⟩
theorem Z04 {α:Type}{f:De α}(h:f l= .error e):Zh7 f (k+1) l= .error e:=De.then_error h
theorem Z9t {α:Type}{f:De α}{x:α}(h:f l= .ok (x,r)):Zh7 f (k+1) l=(Zh7 f k).map (fun ys=>x::ys) r:=De.then_ok h
def Zcw {α:Type} (e:TypeId) (s:Nat) (Q:Zgj α) (f:De α) (n:Nat) (Y:Except Int (List α×By)) (D:World->By->Prop) (w:World) (tv iv:Value) (wr:World):Prop:=
 ∃ (q:Nat) (xs:List α) (r:By) (F:List Nat) (p:Option Addr) (c:Nat),q<=n/\iv= .int .u64 (q:Int)/\tv= .slice p q c/\xs.length=q/\Zag e s Q wr (.slice p q c) xs F/\Za7 w.heap.size wr F/\(Zh7 f (n - q)).map (fun ys=>xs++ys) r=Y/\D wr r
theorem Zcw.step {α:Type}{f:De α}{xs:List α}{x:α}{r':By}{Y:Except Int (List α×By)}(hq:q < n)(h:(Zh7 f (n - q)).map (fun ys=>xs++ys) r=Y)(hf:f r= .ok (x,r')):(Zh7 f (n - (q+1))).map (fun ys=>(xs++[x])++ys) r'=Y:=by
 obtain⟨k,hk⟩: ∃ k,n - q=k+1:=⟨n - q - 1,by omega⟩;rw[hk]at h;rw[show n - (q+1)=k by omega,<- h];have e:=Z9t (k:=k) hf;unfold De.map;rw[e];unfold De.map;cases Zh7 f k r' with
 | error e=>rfl
 | ok y=>simp
theorem Zcw.stop {α:Type}{f:De α}{xs:List α}{Y:Except Int (List α×By)}(hq:q < n)(h:(Zh7 f (n - q)).map (fun ys=>xs++ys) r=Y)(hf:f r= .error e):Y= .error e:=by
 obtain⟨k,hk⟩: ∃ k,n - q=k+1:=⟨n - q - 1,by omega⟩;rw[hk]at h;rw[<- h];exact De.map_error (Z04 hf)
theorem Zcw.done {α:Type}{f:De α}{xs:List α}{Y:Except Int (List α×By)}(h:(Zh7 f (n - n)).map (fun ys=>xs++ys) r=Y):Y= .ok (xs,r):=by
 rw[Nat.sub_self]at h;rw[<- h];simp[De.map,Zh7]
end Go.W
namespace Go.P
variable {K d b m:Nat}{first cap:Array Value}{a:Nat->Addr}{w:World}{l:By}
def Zj9 (a:Nat->Addr) (b:Nat) (w wr:World) (r:By):Prop:=Dc wr b r/\Zah b w wr/\Zao a wr
theorem Zns (hen:Zaq K){f:De T}(Z:Zao a w)(h:Dc w b l)(hm:m < 1000)
  (HC: ∀ u r,Zj9 a b w u r->Calls prog K (first++cap) u (Zev a b (Zlh (Za3 Zad (d+1)) u.heap.size) u (f r))):
  Calls prog 271 #[.pointer (some ⟨b,0,none⟩),.int .u64 (m:Int),.func (.func K) first cap] w (Zev a b (Zkd 117 4 (Za3 Zad (d+1)) w.heap.size) w (Zbu m f l)):=by
 have C:=Zaa (Zc5 Z h);have HH:=Zaa HC;have hen': ∀ args w,(callFunc K args).run prog w= .ok (.enter K args) w:=hen;have hgb:=h.2.2;have ZZ:=Zaa Z;have hblt:=h.1.lt;clear HC hen Z h;go_in
 go_wp2_with fail
 refine C.out.mono ?_;rintro e w1 ⟨hk1,⟨i,hy,hi,rfl⟩ | ⟨n,r1,v,hy,rfl,⟨rfl,hn⟩,hd1⟩⟩
 ·exact⟨rfl,hk1,Or.inl ⟨i,De.then_error hy,hi,rfl⟩⟩
 have Y:=Zaa (De.then_ok (g:=fun n=>if m < n then fun _=>Except.error 4 else Zh7 f n) hy);have D1:Box (Zj9 a b w w1 r1):=⟨hd1,hk1,ZZ.out.keeps hk1 hgb⟩;clear hk1 hd1 hy C;by_cases hlt:m < n
 ·have Y4:Box (Zbu m f l= .error 4):=⟨by rw[Zbu,Y.out,if_pos hlt]⟩;have g:(m:Int) < (n:Int):=by omega
  have z4:=D1.out.2.2.c4;have CR:=Zaa (Zbp a b w1 (n:=4) (by decide));clear HH Y;go_wp2_with fail
  refine mq CR.out ?_;rintro w2 rfl;exact⟨rfl,D1.out.2.1,Or.inl ⟨4,Y4.out,by decide,rfl⟩⟩
 ·have Y4:Box (Zbu m f l=Zh7 f n r1):=⟨by rw[Zbu,Y.out,if_neg hlt]⟩;have g: ¬ (m:Int) < (n:Int):=by omega
  clear Y;go_wp2
  go_loopw [8,18] (fun tv iv wr=>Zcw 117 4 (Za3 Zad (d+1)) f n (Zbu m f l) (Zj9 a b w) w tv iv wr) (fun _ iv _=>n - (intOf iv).toNat)
  case atStart=>exact⟨0,[],r1,[],none,0,by omega,rfl,rfl,rfl,Zag.nil,Za7.nil _ _,by rw[Y4.out];simp[De.map];cases Zh7 f n r1 <;> rfl,D1.out⟩
  case round=>
   obtain⟨q,xs,r,F,p,c,hq,rfl,rfl,hxl,hR,hN,hY,hD⟩:=hrel;by_cases hqn:q < n
   ·have HR:=Zaa hR;have HN:=Zaa hN;have HY:=Zaa hY;have HD:=Zaa hD;have HX:=Zaa hxl;have CC:=Zaa (HH.out _ _ hD);have g2:(q:Int) < (n:Int):=by omega
    clear hR hN hY hD hxl HH;go_wp2_with fail
    refine CC.out.mono ?_;rintro e w2 ⟨hk2,⟨i,hy,hi,rfl⟩ | ⟨x,r2,v,hy,rfl,⟨vs,F2,rfl,hQ,hN2⟩,hd2⟩⟩
    ·exact⟨rfl,HD.out.2.1.trans hk2,Or.inl ⟨i,Zcw.stop hqn HY.out hy,hi,rfl⟩⟩
    obtain⟨p1,c1,rfl⟩:=Za3.vals hQ;have NY:=Zaa (Zcw.step hqn HY.out hy);have D2:Box (Zj9 a b w w2 r2):=⟨hd2,HD.out.2.1.trans hk2,HD.out.2.2.keeps hk2 hgb⟩;have hs2:=hk2.size;have hsw:=HD.out.2.1.size;have bF:Box (∀ j,j∈F->j≠b):=⟨fun j hj=>by have:=HN.out.ge j hj;omega⟩;have HR2:Box (Zag 117 4 (Za3 Zad (d+1)) w2 (.slice p q c) xs F):=⟨Zag.stable (Za3.stable (ty:=Zad) (d+1)) _ _ _ _ _ HR.out fun j hj=>hk2.block j (HN.out.lt j hj) (bF.out j hj)⟩;have HQ:=Zaa hQ;have HN2:Box (Za7 w.heap.size w2 F2):=⟨hN2.later (by omega) lr⟩;have HNF:Box (Za7 w.heap.size w2 F):=⟨HN.out.later lr (by omega)⟩;have HD':Box (∀ j,j∈F->j∉F2):=⟨fun j hj hj2=>by have:=HN.out.lt j hj;have:=hN2.ge j hj2;omega⟩;have hl1:xs.length < 100000000:=by rw[HX.out];omega
    clear hQ hN2 hk2 hd2 hy CC HR HY HN;go_wp2_with (at_builtin;go_must (refine Za9 Znx rfl (.tmp 20) (.tmp 23) rfl (Za3.stable (ty:=Zad) (d+1)) (fun _ _ _ _ h=>Za3.one h) w.heap.size (.slice p q c) xs F rfl (Zag.stable (Za3.stable (ty:=Zad) (d+1)) _ _ _ _ _ HR2.out fun j hj=>Ydf _ _ _ (HNF.out.lt j hj)) w2.heap.size #[.int .i64 x.k,.int .i64 x.i,.string x.t,.slice p1 x.l.length c1] 117 (0,0) x F2 rfl (Zaw _ _) rfl (Za3.stable (ty:=Zad) (d+1) _ _ _ _ _ HQ.out fun j hj=>Ydf _ _ _ (HN2.out.lt j hj)) hl1 (by simp;omega) (HNF.out.later lr (by simp)) (HN2.out.later lr (by simp)) HD'.out ?_);intro g3 cap3 w4 F3 happ)
    have R4:=happ.row;rw[HX.out]at R4;have hb4:w4.heap[b]?=w2.heap[b]?:=(happ.same b (by have:=D2.out.1.1.lt;simp;omega) (fun hj=>by have:=HNF.out.ge b hj;omega)).trans (Ydf _ _ _ D2.out.1.1.lt);have K4:=Zah.appO happ (D2.out.2.1.alloc _) (fun j hj=>HNF.out.ge j hj);have D4:Box (Zj9 a b w w4 r2):=⟨D2.out.1.of hb4,K4,ZZ.out.keeps K4 hgb⟩;try rw[HX.out]
    go_roundw
    case rel=>exact⟨q+1,xs++[x],r2,F3,_,_,by omega,by go_num,rfl,by simp[HX.out],R4,happ.new,NY.out,D4.out⟩
    case measure=>simp[intOf];omega
   ·obtain rfl:q=n:=by omega
    have Y5:=Zaa (Zcw.done hY);have g2: ¬ (q:Int) < (q:Int):=by omega
    have H5:=Zaa (Yda hR (Yda hN hD));clear hR hN hY hD HH;go_wp2
    go_ret
    exact⟨H5.out.2.2.2.1,Or.inr ⟨xs,r,_,Y5.out,rfl,⟨F,H5.out.1,H5.out.2.1⟩,H5.out.2.2.1⟩⟩
theorem Zik (hen:Zaq K){f:De A}(Z:Zao a w)(h:Dc w b l)(hm:m < 1000)
  (HC: ∀ u r,Zj9 a b w u r->Calls prog K (first++cap) u (Zev a b (Zlh (Zbk Zad d) u.heap.size) u (f r))):
  Calls prog 224 #[.pointer (some ⟨b,0,none⟩),.int .u64 (m:Int),.func (.func K) first cap] w (Zev a b (Zkd 112 2 (Zbk Zad d) w.heap.size) w (Zbu m f l)):=by
 have C:=Zaa (Zc5 Z h);have HH:=Zaa HC;have hen': ∀ args w,(callFunc K args).run prog w= .ok (.enter K args) w:=hen;have hgb:=h.2.2;have ZZ:=Zaa Z;have hblt:=h.1.lt;clear HC hen Z h;go_in
 go_wp2_with fail
 refine C.out.mono ?_;rintro e w1 ⟨hk1,⟨i,hy,hi,rfl⟩ | ⟨n,r1,v,hy,rfl,⟨rfl,hn⟩,hd1⟩⟩
 ·exact⟨rfl,hk1,Or.inl ⟨i,De.then_error hy,hi,rfl⟩⟩
 have Y:=Zaa (De.then_ok (g:=fun n=>if m < n then fun _=>Except.error 4 else Zh7 f n) hy);have D1:Box (Zj9 a b w w1 r1):=⟨hd1,hk1,ZZ.out.keeps hk1 hgb⟩;clear hk1 hd1 hy C;by_cases hlt:m < n
 ·have Y4:Box (Zbu m f l= .error 4):=⟨by rw[Zbu,Y.out,if_pos hlt]⟩;have g:(m:Int) < (n:Int):=by omega
  have z4:=D1.out.2.2.c4;have CR:=Zaa (Zbp a b w1 (n:=4) (by decide));clear HH Y;go_wp2_with fail
  refine mq CR.out ?_;rintro w2 rfl;exact⟨rfl,D1.out.2.1,Or.inl ⟨4,Y4.out,by decide,rfl⟩⟩
 ·have Y4:Box (Zbu m f l=Zh7 f n r1):=⟨by rw[Zbu,Y.out,if_neg hlt]⟩;have g: ¬ (m:Int) < (n:Int):=by omega
  clear Y;go_wp2
  go_loopw [8,18] (fun tv iv wr=>Zcw 112 2 (Zbk Zad d) f n (Zbu m f l) (Zj9 a b w) w tv iv wr) (fun _ iv _=>n - (intOf iv).toNat)
  case atStart=>exact⟨0,[],r1,[],none,0,by omega,rfl,rfl,rfl,Zag.nil,Za7.nil _ _,by rw[Y4.out];simp[De.map];cases Zh7 f n r1 <;> rfl,D1.out⟩
  case round=>
   obtain⟨q,xs,r,F,p,c,hq,rfl,rfl,hxl,hR,hN,hY,hD⟩:=hrel;by_cases hqn:q < n
   ·have HR:=Zaa hR;have HN:=Zaa hN;have HY:=Zaa hY;have HD:=Zaa hD;have HX:=Zaa hxl;have CC:=Zaa (HH.out _ _ hD);have g2:(q:Int) < (n:Int):=by omega
    clear hR hN hY hD hxl HH;go_wp2_with fail
    refine CC.out.mono ?_;rintro e w2 ⟨hk2,⟨i,hy,hi,rfl⟩ | ⟨x,r2,v,hy,rfl,⟨vs,F2,rfl,hQ,hN2⟩,hd2⟩⟩
    ·exact⟨rfl,HD.out.2.1.trans hk2,Or.inl ⟨i,Zcw.stop hqn HY.out hy,hi,rfl⟩⟩
    obtain⟨p1,c1,rfl⟩:=Zbk.vals hQ;have NY:=Zaa (Zcw.step hqn HY.out hy);have D2:Box (Zj9 a b w w2 r2):=⟨hd2,HD.out.2.1.trans hk2,HD.out.2.2.keeps hk2 hgb⟩;have hs2:=hk2.size;have hsw:=HD.out.2.1.size;have bF:Box (∀ j,j∈F->j≠b):=⟨fun j hj=>by have:=HN.out.ge j hj;omega⟩;have HR2:Box (Zag 112 2 (Zbk Zad d) w2 (.slice p q c) xs F):=⟨Zag.stable (Zbk.stable (ty:=Zad) d) _ _ _ _ _ HR.out fun j hj=>hk2.block j (HN.out.lt j hj) (bF.out j hj)⟩;have HQ:=Zaa hQ;have HN2:Box (Za7 w.heap.size w2 F2):=⟨hN2.later (by omega) lr⟩;have HNF:Box (Za7 w.heap.size w2 F):=⟨HN.out.later lr (by omega)⟩;have HD':Box (∀ j,j∈F->j∉F2):=⟨fun j hj hj2=>by have:=HN.out.lt j hj;have:=hN2.ge j hj2;omega⟩;have hl1:xs.length < 100000000:=by rw[HX.out];omega
    clear hQ hN2 hk2 hd2 hy CC HR HY HN;go_wp2_with (at_builtin;go_must (refine Za9 Zts rfl (.tmp 20) (.tmp 23) rfl (Zbk.stable (ty:=Zad) d) (fun _ _ _ _ h=>Zbk.one h) w.heap.size (.slice p q c) xs F rfl (Zag.stable (Zbk.stable (ty:=Zad) d) _ _ _ _ _ HR2.out fun j hj=>Ydf _ _ _ (HNF.out.lt j hj)) w2.heap.size #[.string x.name,.slice p1 x.terms.length c1] 112 (0,0) x F2 rfl (Zaw _ _) rfl (Zbk.stable (ty:=Zad) d _ _ _ _ _ HQ.out fun j hj=>Ydf _ _ _ (HN2.out.lt j hj)) hl1 (by simp;omega) (HNF.out.later lr (by simp)) (HN2.out.later lr (by simp)) HD'.out ?_);intro g3 cap3 w4 F3 happ)
    have R4:=happ.row;rw[HX.out]at R4;have hb4:w4.heap[b]?=w2.heap[b]?:=(happ.same b (by have:=D2.out.1.1.lt;simp;omega) (fun hj=>by have:=HNF.out.ge b hj;omega)).trans (Ydf _ _ _ D2.out.1.1.lt);have K4:=Zah.appO happ (D2.out.2.1.alloc _) (fun j hj=>HNF.out.ge j hj);have D4:Box (Zj9 a b w w4 r2):=⟨D2.out.1.of hb4,K4,ZZ.out.keeps K4 hgb⟩;try rw[HX.out]
    go_roundw
    case rel=>exact⟨q+1,xs++[x],r2,F3,_,_,by omega,by go_num,rfl,by simp[HX.out],R4,happ.new,NY.out,D4.out⟩
    case measure=>simp[intOf];omega
   ·obtain rfl:q=n:=by omega
    have Y5:=Zaa (Zcw.done hY);have g2: ¬ (q:Int) < (q:Int):=by omega
    have H5:=Zaa (Yda hR (Yda hN hD));clear hR hN hY hD HH;go_wp2
    go_ret
    exact⟨H5.out.2.2.2.1,Or.inr ⟨xs,r,_,Y5.out,rfl,⟨F,H5.out.1,H5.out.2.1⟩,H5.out.2.2.1⟩⟩
theorem Zmt (hen:Zaq K){f:De G}(Z:Zao a w)(h:Dc w b l)(hm:m < 1000)
  (HC: ∀ u r,Zj9 a b w u r->Calls prog K (first++cap) u (Zev a b (Zlh (Zbr Zad (d+1)) u.heap.size) u (f r))):
  Calls prog 274 #[.pointer (some ⟨b,0,none⟩),.int .u64 (m:Int),.func (.func K) first cap] w (Zev a b (Zkd 119 9 (Zbr Zad (d+1)) w.heap.size) w (Zbu m f l)):=by
 have C:=Zaa (Zc5 Z h);have HH:=Zaa HC;have hen': ∀ args w,(callFunc K args).run prog w= .ok (.enter K args) w:=hen;have hgb:=h.2.2;have ZZ:=Zaa Z;have hblt:=h.1.lt;clear HC hen Z h;go_in
 go_wp2_with fail
 refine C.out.mono ?_;rintro e w1 ⟨hk1,⟨i,hy,hi,rfl⟩ | ⟨n,r1,v,hy,rfl,⟨rfl,hn⟩,hd1⟩⟩
 ·exact⟨rfl,hk1,Or.inl ⟨i,De.then_error hy,hi,rfl⟩⟩
 have Y:=Zaa (De.then_ok (g:=fun n=>if m < n then fun _=>Except.error 4 else Zh7 f n) hy);have D1:Box (Zj9 a b w w1 r1):=⟨hd1,hk1,ZZ.out.keeps hk1 hgb⟩;clear hk1 hd1 hy C;by_cases hlt:m < n
 ·have Y4:Box (Zbu m f l= .error 4):=⟨by rw[Zbu,Y.out,if_pos hlt]⟩;have g:(m:Int) < (n:Int):=by omega
  have z4:=D1.out.2.2.c4;have CR:=Zaa (Zbp a b w1 (n:=4) (by decide));clear HH Y;go_wp2_with fail
  refine mq CR.out ?_;rintro w2 rfl;exact⟨rfl,D1.out.2.1,Or.inl ⟨4,Y4.out,by decide,rfl⟩⟩
 ·have Y4:Box (Zbu m f l=Zh7 f n r1):=⟨by rw[Zbu,Y.out,if_neg hlt]⟩;have g: ¬ (m:Int) < (n:Int):=by omega
  clear Y;go_wp2
  go_loopw [8,18] (fun tv iv wr=>Zcw 119 9 (Zbr Zad (d+1)) f n (Zbu m f l) (Zj9 a b w) w tv iv wr) (fun _ iv _=>n - (intOf iv).toNat)
  case atStart=>exact⟨0,[],r1,[],none,0,by omega,rfl,rfl,rfl,Zag.nil,Za7.nil _ _,by rw[Y4.out];simp[De.map];cases Zh7 f n r1 <;> rfl,D1.out⟩
  case round=>
   obtain⟨q,xs,r,F,p,c,hq,rfl,rfl,hxl,hR,hN,hY,hD⟩:=hrel;by_cases hqn:q < n
   ·have HR:=Zaa hR;have HN:=Zaa hN;have HY:=Zaa hY;have HD:=Zaa hD;have HX:=Zaa hxl;have CC:=Zaa (HH.out _ _ hD);have g2:(q:Int) < (n:Int):=by omega
    clear hR hN hY hD hxl HH;go_wp2_with fail
    refine CC.out.mono ?_;rintro e w2 ⟨hk2,⟨i,hy,hi,rfl⟩ | ⟨x,r2,v,hy,rfl,⟨vs,F2,rfl,hQ,hN2⟩,hd2⟩⟩
    ·exact⟨rfl,HD.out.2.1.trans hk2,Or.inl ⟨i,Zcw.stop hqn HY.out hy,hi,rfl⟩⟩
    obtain⟨p1,c1,p2,c2,rfl⟩:=Zbr.vals hQ;have NY:=Zaa (Zcw.step hqn HY.out hy);have D2:Box (Zj9 a b w w2 r2):=⟨hd2,HD.out.2.1.trans hk2,HD.out.2.2.keeps hk2 hgb⟩;have hs2:=hk2.size;have hsw:=HD.out.2.1.size;have bF:Box (∀ j,j∈F->j≠b):=⟨fun j hj=>by have:=HN.out.ge j hj;omega⟩;have HR2:Box (Zag 119 9 (Zbr Zad (d+1)) w2 (.slice p q c) xs F):=⟨Zag.stable (Zbr.stable (ty:=Zad) (d+1)) _ _ _ _ _ HR.out fun j hj=>hk2.block j (HN.out.lt j hj) (bF.out j hj)⟩;have HQ:=Zaa hQ;have HN2:Box (Za7 w.heap.size w2 F2):=⟨hN2.later (by omega) lr⟩;have HNF:Box (Za7 w.heap.size w2 F):=⟨HN.out.later lr (by omega)⟩;have HD':Box (∀ j,j∈F->j∉F2):=⟨fun j hj hj2=>by have:=HN.out.lt j hj;have:=hN2.ge j hj2;omega⟩;have hl1:xs.length < 100000000:=by rw[HX.out];omega
    clear hQ hN2 hk2 hd2 hy CC HR HY HN;go_wp2_with (at_builtin;go_must (refine Za9 Zqq rfl (.tmp 20) (.tmp 23) rfl (Zbr.stable (ty:=Zad) (d+1)) (fun _ _ _ _ h=>Zbr.one h) w.heap.size (.slice p q c) xs F rfl (Zag.stable (Zbr.stable (ty:=Zad) (d+1)) _ _ _ _ _ HR2.out fun j hj=>Ydf _ _ _ (HNF.out.lt j hj)) w2.heap.size #[.int .i64 x.op,.int .i64 x.a.k,.int .i64 x.a.i,.string x.a.t,.slice p1 x.a.l.length c1,.int .i64 x.b.k,.int .i64 x.b.i,.string x.b.t,.slice p2 x.b.l.length c2] 119 (0,0) x F2 rfl (Zaw _ _) rfl (Zbr.stable (ty:=Zad) (d+1) _ _ _ _ _ HQ.out fun j hj=>Ydf _ _ _ (HN2.out.lt j hj)) hl1 (by simp;omega) (HNF.out.later lr (by simp)) (HN2.out.later lr (by simp)) HD'.out ?_);intro g3 cap3 w4 F3 happ)
    have R4:=happ.row;rw[HX.out]at R4;have hb4:w4.heap[b]?=w2.heap[b]?:=(happ.same b (by have:=D2.out.1.1.lt;simp;omega) (fun hj=>by have:=HNF.out.ge b hj;omega)).trans (Ydf _ _ _ D2.out.1.1.lt);have K4:=Zah.appO happ (D2.out.2.1.alloc _) (fun j hj=>HNF.out.ge j hj);have D4:Box (Zj9 a b w w4 r2):=⟨D2.out.1.of hb4,K4,ZZ.out.keeps K4 hgb⟩;try rw[HX.out]
    go_roundw
    case rel=>exact⟨q+1,xs++[x],r2,F3,_,_,by omega,by go_num,rfl,by simp[HX.out],R4,happ.new,NY.out,D4.out⟩
    case measure=>simp[intOf];omega
   ·obtain rfl:q=n:=by omega
    have Y5:=Zaa (Zcw.done hY);have g2: ¬ (q:Int) < (q:Int):=by omega
    have H5:=Zaa (Yda hR (Yda hN hD));clear hR hN hY hD HH;go_wp2
    go_ret
    exact⟨H5.out.2.2.2.1,Or.inr ⟨xs,r,_,Y5.out,rfl,⟨F,H5.out.1,H5.out.2.1⟩,H5.out.2.2.1⟩⟩
theorem Zil (hen:Zaq K){f:De R}(Z:Zao a w)(h:Dc w b l)(hm:m < 1000)
  (HC: ∀ u r,Zj9 a b w u r->Calls prog K (first++cap) u (Zev a b (Zlh (Zbs Zad d) u.heap.size) u (f r))):
  Calls prog 226 #[.pointer (some ⟨b,0,none⟩),.int .u64 (m:Int),.func (.func K) first cap] w (Zev a b (Zkd 115 4 (Zbs Zad d) w.heap.size) w (Zbu m f l)):=by
 have C:=Zaa (Zc5 Z h);have HH:=Zaa HC;have hen': ∀ args w,(callFunc K args).run prog w= .ok (.enter K args) w:=hen;have hgb:=h.2.2;have ZZ:=Zaa Z;have hblt:=h.1.lt;clear HC hen Z h;go_in
 go_wp2_with fail
 refine C.out.mono ?_;rintro e w1 ⟨hk1,⟨i,hy,hi,rfl⟩ | ⟨n,r1,v,hy,rfl,⟨rfl,hn⟩,hd1⟩⟩
 ·exact⟨rfl,hk1,Or.inl ⟨i,De.then_error hy,hi,rfl⟩⟩
 have Y:=Zaa (De.then_ok (g:=fun n=>if m < n then fun _=>Except.error 4 else Zh7 f n) hy);have D1:Box (Zj9 a b w w1 r1):=⟨hd1,hk1,ZZ.out.keeps hk1 hgb⟩;clear hk1 hd1 hy C;by_cases hlt:m < n
 ·have Y4:Box (Zbu m f l= .error 4):=⟨by rw[Zbu,Y.out,if_pos hlt]⟩;have g:(m:Int) < (n:Int):=by omega
  have z4:=D1.out.2.2.c4;have CR:=Zaa (Zbp a b w1 (n:=4) (by decide));clear HH Y;go_wp2_with fail
  refine mq CR.out ?_;rintro w2 rfl;exact⟨rfl,D1.out.2.1,Or.inl ⟨4,Y4.out,by decide,rfl⟩⟩
 ·have Y4:Box (Zbu m f l=Zh7 f n r1):=⟨by rw[Zbu,Y.out,if_neg hlt]⟩;have g: ¬ (m:Int) < (n:Int):=by omega
  clear Y;go_wp2
  go_loopw [8,18] (fun tv iv wr=>Zcw 115 4 (Zbs Zad d) f n (Zbu m f l) (Zj9 a b w) w tv iv wr) (fun _ iv _=>n - (intOf iv).toNat)
  case atStart=>exact⟨0,[],r1,[],none,0,by omega,rfl,rfl,rfl,Zag.nil,Za7.nil _ _,by rw[Y4.out];simp[De.map];cases Zh7 f n r1 <;> rfl,D1.out⟩
  case round=>
   obtain⟨q,xs,r,F,p,c,hq,rfl,rfl,hxl,hR,hN,hY,hD⟩:=hrel;by_cases hqn:q < n
   ·have HR:=Zaa hR;have HN:=Zaa hN;have HY:=Zaa hY;have HD:=Zaa hD;have HX:=Zaa hxl;have CC:=Zaa (HH.out _ _ hD);have g2:(q:Int) < (n:Int):=by omega
    clear hR hN hY hD hxl HH;go_wp2_with fail
    refine CC.out.mono ?_;rintro e w2 ⟨hk2,⟨i,hy,hi,rfl⟩ | ⟨x,r2,v,hy,rfl,⟨vs,F2,rfl,hQ,hN2⟩,hd2⟩⟩
    ·exact⟨rfl,HD.out.2.1.trans hk2,Or.inl ⟨i,Zcw.stop hqn HY.out hy,hi,rfl⟩⟩
    obtain⟨p1,c1,p2,c2,p3,c3,rfl⟩:=Zbs.vals hQ;have NY:=Zaa (Zcw.step hqn HY.out hy);have D2:Box (Zj9 a b w w2 r2):=⟨hd2,HD.out.2.1.trans hk2,HD.out.2.2.keeps hk2 hgb⟩;have hs2:=hk2.size;have hsw:=HD.out.2.1.size;have bF:Box (∀ j,j∈F->j≠b):=⟨fun j hj=>by have:=HN.out.ge j hj;omega⟩;have HR2:Box (Zag 115 4 (Zbs Zad d) w2 (.slice p q c) xs F):=⟨Zag.stable (Zbs.stable (ty:=Zad) d) _ _ _ _ _ HR.out fun j hj=>hk2.block j (HN.out.lt j hj) (bF.out j hj)⟩;have HQ:=Zaa hQ;have HN2:Box (Za7 w.heap.size w2 F2):=⟨hN2.later (by omega) lr⟩;have HNF:Box (Za7 w.heap.size w2 F):=⟨HN.out.later lr (by omega)⟩;have HD':Box (∀ j,j∈F->j∉F2):=⟨fun j hj hj2=>by have:=HN.out.lt j hj;have:=hN2.ge j hj2;omega⟩;have hl1:xs.length < 100000000:=by rw[HX.out];omega
    clear hQ hN2 hk2 hd2 hy CC HR HY HN;go_wp2_with (at_builtin;go_must (refine Za9 Ztu rfl (.tmp 20) (.tmp 23) rfl (Zbs.stable (ty:=Zad) d) (fun _ _ _ _ h=>Zbs.one h) w.heap.size (.slice p q c) xs F rfl (Zag.stable (Zbs.stable (ty:=Zad) d) _ _ _ _ _ HR2.out fun j hj=>Ydf _ _ _ (HNF.out.lt j hj)) w2.heap.size #[.string x.head.name,.slice p1 x.head.terms.length c1,.slice p2 x.body.length c2,.slice p3 x.guards.length c3] 115 (0,0) x F2 rfl (Zaw _ _) rfl (Zbs.stable (ty:=Zad) d _ _ _ _ _ HQ.out fun j hj=>Ydf _ _ _ (HN2.out.lt j hj)) hl1 (by simp;omega) (HNF.out.later lr (by simp)) (HN2.out.later lr (by simp)) HD'.out ?_);intro g3 cap3 w4 F3 happ)
    have R4:=happ.row;rw[HX.out]at R4;have hb4:w4.heap[b]?=w2.heap[b]?:=(happ.same b (by have:=D2.out.1.1.lt;simp;omega) (fun hj=>by have:=HNF.out.ge b hj;omega)).trans (Ydf _ _ _ D2.out.1.1.lt);have K4:=Zah.appO happ (D2.out.2.1.alloc _) (fun j hj=>HNF.out.ge j hj);have D4:Box (Zj9 a b w w4 r2):=⟨D2.out.1.of hb4,K4,ZZ.out.keeps K4 hgb⟩;try rw[HX.out]
    go_roundw
    case rel=>exact⟨q+1,xs++[x],r2,F3,_,_,by omega,by go_num,rfl,by simp[HX.out],R4,happ.new,NY.out,D4.out⟩
    case measure=>simp[intOf];omega
   ·obtain rfl:q=n:=by omega
    have Y5:=Zaa (Zcw.done hY);have g2: ¬ (q:Int) < (q:Int):=by omega
    have H5:=Zaa (Yda hR (Yda hN hD));clear hR hN hY hD HH;go_wp2
    go_ret
    exact⟨H5.out.2.2.2.1,Or.inr ⟨xs,r,_,Y5.out,rfl,⟨F,H5.out.1,H5.out.2.1⟩,H5.out.2.2.1⟩⟩
theorem Zms (hen:Zaq K){f:De (List R)}(Z:Zao a w)(h:Dc w b l)(hm:m < 1000)
  (HC: ∀ u r,Zj9 a b w u r->Calls prog K (first++cap) u (Zev a b (Zlh (Zbw Zad d) u.heap.size) u (f r))):
  Calls prog 228 #[.pointer (some ⟨b,0,none⟩),.int .u64 (m:Int),.func (.func K) first cap] w (Zev a b (Zkd 72 1 (Zbw Zad d) w.heap.size) w (Zbu m f l)):=by
 have C:=Zaa (Zc5 Z h);have HH:=Zaa HC;have hen': ∀ args w,(callFunc K args).run prog w= .ok (.enter K args) w:=hen;have hgb:=h.2.2;have ZZ:=Zaa Z;have hblt:=h.1.lt;clear HC hen Z h;go_in
 go_wp2_with fail
 refine C.out.mono ?_;rintro e w1 ⟨hk1,⟨i,hy,hi,rfl⟩ | ⟨n,r1,v,hy,rfl,⟨rfl,hn⟩,hd1⟩⟩
 ·exact⟨rfl,hk1,Or.inl ⟨i,De.then_error hy,hi,rfl⟩⟩
 have Y:=Zaa (De.then_ok (g:=fun n=>if m < n then fun _=>Except.error 4 else Zh7 f n) hy);have D1:Box (Zj9 a b w w1 r1):=⟨hd1,hk1,ZZ.out.keeps hk1 hgb⟩;clear hk1 hd1 hy C;by_cases hlt:m < n
 ·have Y4:Box (Zbu m f l= .error 4):=⟨by rw[Zbu,Y.out,if_pos hlt]⟩;have g:(m:Int) < (n:Int):=by omega
  have z4:=D1.out.2.2.c4;have CR:=Zaa (Zbp a b w1 (n:=4) (by decide));clear HH Y;go_wp2_with fail
  refine mq CR.out ?_;rintro w2 rfl;exact⟨rfl,D1.out.2.1,Or.inl ⟨4,Y4.out,by decide,rfl⟩⟩
 ·have Y4:Box (Zbu m f l=Zh7 f n r1):=⟨by rw[Zbu,Y.out,if_neg hlt]⟩;have g: ¬ (m:Int) < (n:Int):=by omega
  clear Y;go_wp2
  go_loopw [8,18] (fun tv iv wr=>Zcw 72 1 (Zbw Zad d) f n (Zbu m f l) (Zj9 a b w) w tv iv wr) (fun _ iv _=>n - (intOf iv).toNat)
  case atStart=>exact⟨0,[],r1,[],none,0,by omega,rfl,rfl,rfl,Zag.nil,Za7.nil _ _,by rw[Y4.out];simp[De.map];cases Zh7 f n r1 <;> rfl,D1.out⟩
  case round=>
   obtain⟨q,xs,r,F,p,c,hq,rfl,rfl,hxl,hR,hN,hY,hD⟩:=hrel;by_cases hqn:q < n
   ·have HR:=Zaa hR;have HN:=Zaa hN;have HY:=Zaa hY;have HD:=Zaa hD;have HX:=Zaa hxl;have CC:=Zaa (HH.out _ _ hD);have g2:(q:Int) < (n:Int):=by omega
    clear hR hN hY hD hxl HH;go_wp2_with fail
    refine CC.out.mono ?_;rintro e w2 ⟨hk2,⟨i,hy,hi,rfl⟩ | ⟨x,r2,v,hy,rfl,⟨vs,F2,rfl,hQ,hN2⟩,hd2⟩⟩
    ·exact⟨rfl,HD.out.2.1.trans hk2,Or.inl ⟨i,Zcw.stop hqn HY.out hy,hi,rfl⟩⟩
    obtain⟨p1,c1,rfl⟩:=Zbw.vals hQ;have NY:=Zaa (Zcw.step hqn HY.out hy);have D2:Box (Zj9 a b w w2 r2):=⟨hd2,HD.out.2.1.trans hk2,HD.out.2.2.keeps hk2 hgb⟩;have hs2:=hk2.size;have hsw:=HD.out.2.1.size;have bF:Box (∀ j,j∈F->j≠b):=⟨fun j hj=>by have:=HN.out.ge j hj;omega⟩;have HR2:Box (Zag 72 1 (Zbw Zad d) w2 (.slice p q c) xs F):=⟨Zag.stable (Zbw.stable (ty:=Zad) d) _ _ _ _ _ HR.out fun j hj=>hk2.block j (HN.out.lt j hj) (bF.out j hj)⟩;have HQ:=Zaa hQ;have HN2:Box (Za7 w.heap.size w2 F2):=⟨hN2.later (by omega) lr⟩;have HNF:Box (Za7 w.heap.size w2 F):=⟨HN.out.later lr (by omega)⟩;have HD':Box (∀ j,j∈F->j∉F2):=⟨fun j hj hj2=>by have:=HN.out.lt j hj;have:=hN2.ge j hj2;omega⟩;have hl1:xs.length < 100000000:=by rw[HX.out];omega
    clear hQ hN2 hk2 hd2 hy CC HR HY HN;go_wp2_with (at_builtin;go_must (refine Za9 Zqp rfl (.tmp 20) (.tmp 23) rfl (Zbw.stable (ty:=Zad) d) (fun _ _ _ _ h=>Zbw.one h) w.heap.size (.slice p q c) xs F rfl (Zag.stable (Zbw.stable (ty:=Zad) d) _ _ _ _ _ HR2.out fun j hj=>Ydf _ _ _ (HNF.out.lt j hj)) w2.heap.size #[.slice p1 x.length c1] 72 (0,0) x F2 rfl (Zaw _ _) rfl (Zbw.stable (ty:=Zad) d _ _ _ _ _ HQ.out fun j hj=>Ydf _ _ _ (HN2.out.lt j hj)) hl1 (by simp;omega) (HNF.out.later lr (by simp)) (HN2.out.later lr (by simp)) HD'.out ?_);intro g3 cap3 w4 F3 happ)
    have R4:=happ.row;rw[HX.out]at R4;have hb4:w4.heap[b]?=w2.heap[b]?:=(happ.same b (by have:=D2.out.1.1.lt;simp;omega) (fun hj=>by have:=HNF.out.ge b hj;omega)).trans (Ydf _ _ _ D2.out.1.1.lt);have K4:=Zah.appO happ (D2.out.2.1.alloc _) (fun j hj=>HNF.out.ge j hj);have D4:Box (Zj9 a b w w4 r2):=⟨D2.out.1.of hb4,K4,ZZ.out.keeps K4 hgb⟩;try rw[HX.out]
    go_roundw
    case rel=>exact⟨q+1,xs++[x],r2,F3,_,_,by omega,by go_num,rfl,by simp[HX.out],R4,happ.new,NY.out,D4.out⟩
    case measure=>simp[intOf];omega
   ·obtain rfl:q=n:=by omega
    have Y5:=Zaa (Zcw.done hY);have g2: ¬ (q:Int) < (q:Int):=by omega
    have H5:=Zaa (Yda hR (Yda hN hD));clear hR hN hY hD HH;go_wp2
    go_ret
    exact⟨H5.out.2.2.2.1,Or.inr ⟨xs,r,_,Y5.out,rfl,⟨F,H5.out.1,H5.out.2.1⟩,H5.out.2.2.1⟩⟩
end Go.P
namespace Go.P
variable {d b:Nat}{a:Nat->Addr}{w:World}{l:By}
theorem Zgm: ∀ (fn:Fn) (first cap:Array Value) (w:World),(Instr.makeFunc fn first cap).run prog w= .ok (.func fn first cap) w:=fun _ _ _ _=>rfl
theorem Z98 (m:Nat)(y:Int):bits .xor .i64 (m:Int) y=IntKind.i64.wrap (((BitVec.ofInt 64 (m:Int)) ^^^ (BitVec.ofInt 64 y)).toNat:Int):=rfl
theorem Z1p (n:Nat)(hn:n < 18446744073709551616):bits .xor .i64 ((n:Int) / 2) (wrap64 (-wrap64 (bits .and .u64 (n:Int) 1)))=Zez n:=by
 have e1:bits .and .u64 (n:Int) 1=((n % 2:Nat):Int):=by
  have:=u64_and_nat n 1 hn (by decide)
  rw[Nat.and_one_is_mod]at this;exact this
 have e2:(n:Int) / 2=((n / 2:Nat):Int):=by omega
 have h64:(BitVec.ofInt 64 ((n / 2:Nat):Int)).toNat=n / 2:=ofInt_u64 _ (by omega);rw[e1,e2,Z98];unfold Zez;by_cases h:n % 2=0
 ·rw[if_pos h,h]
  have:wrap64 (-wrap64 ((0:Nat):Int))=0:=by simp[wrap64]
  rw[this]
  have:BitVec.ofInt 64 0=0#64:=rfl
  rw[this,BitVec.xor_zero,h64,IntKind.wrap_i64];omega
 ·rw[if_neg h,show n % 2=1 by omega]
  have:wrap64 (-wrap64 ((1:Nat):Int))= -1:=by simp[wrap64]
  rw[this]
  have:BitVec.ofInt 64 (-1)=BitVec.allOnes 64:=by decide
  rw[this,BitVec.xor_allOnes,BitVec.toNat_not,h64,IntKind.wrap_i64];omega
theorem Zu8 (n:Nat)(hn:n < 18446744073709551616)(w:World):Calls prog 279 #[.int .u64 (n:Int)] w fun e w'=>e= .returned (.int .i64 (Zez n))/\w'=w:=by
 go_in
 go_wp2
 go_ret
 exact⟨Z4l (Z1p n hn),rfl⟩
theorem Zps:Zaq 272:=Zam func272 (by kernel_rfl) rfl
def Zee (d:Nat):Prop:= ∀ {a:Nat->Addr} {w:World} {b:Nat} {l:By},Zao a w->Dc w b l->Calls prog 273 #[.pointer (some ⟨b,0,none⟩),.int .i64 ((3 - d:Nat):Int)] w (Zev a b (Zlh (Za3 Zad (d+1)) w.heap.size) w (Zfq d l))
theorem Zv5 (ih:Zee d){L1 L2:Nat}(Z:Zao a w)(h:Dc w b l)(k1:w.cell? ⟨L1,0,none⟩=some (.pointer (some ⟨b,0,none⟩)))(k2:w.cell? ⟨L2,0,none⟩=some (.int .i64 ((3 - d:Nat):Int))):
  Calls prog 272 #[.pointer (some ⟨L1,0,none⟩),.pointer (some ⟨L2,0,none⟩)] w (Zev a b (Zlh (Za3 Zad (d+1)) w.heap.size) w (Zfq d l)):=by
 have l1:=fun o=>Zab k1 ((Ydb _ w).alloc lr o);have l2:=fun o=>Zab k2 ((Ydb _ w).alloc lr o);have C:=Zaa (ih (Z.below ((Ydb _ w).alloc lr (.cells #[.int .i64 0,.int .i64 0,.string ⟨#[]⟩,.slice none 0 0] 117))) (h.alloc (.cells #[.int .i64 0,.int .i64 0,.string ⟨#[]⟩,.slice none 0 0] 117)));have hb:=h.1.lt;have L0:=Zaa (Blk.new w #[.int .i64 0,.int .i64 0,.string ⟨#[]⟩,.slice none 0 0] 117);have K0:=Zaa ((Zah.refl b w).alloc (.cells #[.int .i64 0,.int .i64 0,.string ⟨#[]⟩,.slice none 0 0] 117));obtain⟨dd,hdd⟩: ∃ z:Int,((3 - d:Nat):Int)=z:=⟨_,rfl⟩;rw[hdd]at l2 C;clear k1 k2 Z h hdd;go_in
 go_wp2_with fail
 refine C.out.mono ?_;rintro e w1 ⟨hk1,⟨i,hy,hi,rfl⟩ | ⟨x,r1,v,hy,rfl,⟨vs,F,rfl,hQ,hN⟩,hd1⟩⟩
 ·exact⟨rfl,K0.out.trans hk1,Or.inl ⟨i,hy,hi,rfl⟩⟩
 ·obtain⟨p1,c1,rfl⟩:=Za3.vals hQ;obtain⟨y0,y1,y2,y3,sf⟩:=(L0.out.of (hk1.block w.heap.size (by simp) (by omega))).four;have R:=Zaa (Yda hQ (Yda hN (Yda hd1 (Yda hy (K0.out.trans hk1)))));clear hQ hN hd1 hy hk1 C;go_wp2
  refine Ye6 (by simp[results,results272,go_sem,y0,y1,y2,y3];try rfl) rfl ?_;obtain⟨hQ,hN,hd1,hy,hk1⟩:=R.out;exact⟨hk1.r4 lr,Or.inr ⟨x,r1,_,hy,rfl,⟨_,F,rfl,Za3.stable (d+1) _ _ _ _ _ hQ fun j hj=>Zch (by have:=hN.ge j hj;simp at this;omega),hN.later (by simp) (by simp)⟩,hd1.of (Zch (by omega))⟩⟩
theorem Zqo (ih:Zee d)(Z:Zao a w)(h:Dc w b l):
  Calls prog 254 #[.pointer (some ⟨b,0,none⟩),.int .i64 ((3 - d:Nat):Int)] w (Zev a b (Zkd 117 4 (Za3 Zad (d+1)) w.heap.size) w (Zbu 6 (Zfq d) l)):=by
 have hmf:=Zgm;obtain⟨dd,hdd⟩: ∃ z:Int,((3 - d:Nat):Int)=z:=⟨_,rfl⟩;have B0:=Zaa (((Ydb w.heap.size w).alloc lr (.cells #[.pointer (some ⟨b,0,none⟩)] 166)).alloc (by simp) (.cells #[.int .i64 dd] 3));have K0:=Zaa (((Zah.refl b w).alloc (.cells #[.pointer (some ⟨b,0,none⟩)] 166)).alloc (.cells #[.int .i64 dd] 3));have L1:=Zaa ((Blk.new w #[.pointer (some ⟨b,0,none⟩)] 166).alloc (.cells #[.int .i64 dd] 3));have L2:=Zaa (Blk.new (w.alloc (.cells #[.pointer (some ⟨b,0,none⟩)] 166)) #[.int .i64 dd] 3);have hb:=h.1.lt;have C:=Zaa (Zns (d:=d) (f:=Zfq d) Zps (first:=#[]) (cap:=#[.pointer (some ⟨w.heap.size,0,none⟩),.pointer (some ⟨w.heap.size+1,0,none⟩)]) (m:=6) (Z.below B0.out) ((h.alloc (.cells #[.pointer (some ⟨b,0,none⟩)] 166)).alloc (.cells #[.int .i64 dd] 3)) (by omega) fun u r hu=>Zv5 ih hu.2.2 hu.1 ((L1.out.of (hu.2.1.block w.heap.size (by simp;omega) (by omega))).one.1) (by rw[hdd];have:=(L2.out.of (hu.2.1.block _ (by simp) (by simp;omega))).one.1;simpa using this));rw[hdd];clear Z h ih hdd;go_in
 go_wp2_with fail
 refine C.out.mono ?_;rintro e w1 ⟨hk1,⟨i,hy,hi,rfl⟩ | ⟨xs,r1,v,hy,rfl,⟨F,hR,hN⟩,hd1⟩⟩
 ·exact⟨rfl,K0.out.trans hk1,Or.inl ⟨i,hy,hi,rfl⟩⟩
 ·obtain⟨p1,c1,rfl⟩:=Zag.form hR;have R:=Zaa (Yda hR (Yda hN (Yda hd1 (Yda hy (K0.out.trans hk1)))));clear hR hN hd1 hy hk1 C;go_wp2
  go_ret
  obtain⟨hR,hN,hd1,hy,hk1⟩:=R.out;exact⟨hk1,Or.inr ⟨xs,r1,_,hy,rfl,⟨F,hR,hN.later (by simp;omega) lr⟩,hd1⟩⟩
end Go.P
