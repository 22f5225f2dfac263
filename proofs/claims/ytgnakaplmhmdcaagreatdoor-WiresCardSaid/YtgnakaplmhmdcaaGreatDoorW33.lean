import Derived.Test.YtgnakaplmhmdcaaGreatDoorW32
set_option maxRecDepth 100000
set_option maxHeartbeats 8000000
set_option linter.unusedSimpArgs false
open Go.Proofs Go.RowKit Go.W
namespace Go.W
variable {x2:Tk}{r:Nat}
section
variable {α:Type} {t:ByteArray} {f:Tk->Nat->Re α} {l:List UInt8} {m k:Nat} {xs:List α} {x:Tk} {p:Nat}
theorem Zuq {e:Int×Nat}(h:f x p= .error e):Zmr t f l m (k+1) xs x p= .error e:=by rw[Zmr];exact Zai h
theorem Zya {z:α}(h:f x p= .ok (z,x2,r))(hm:xs.length=m):Zmr t f l m (k+1) xs x p= .error (4,x.at_):=by rw[Zmr,Zan h,if_pos hm]
theorem Z17 {z:α}(h:f x p= .ok (z,x2,r))(hm:xs.length≠m)(hl:x2.text.toList≠l):Zmr t f l m (k+1) xs x p= .ok (xs++[z],x2,r):=by rw[Zmr,Zan h,if_neg hm,if_neg hl]
theorem Zx4 {z:α}(h:f x p= .ok (z,x2,r))(hm:xs.length≠m)(hl:x2.text.toList=l):(∀ e,Zc0 t x2 r= .error e->Zmr t f l m (k+1) xs x p= .error e)/\ ∀ y x3 r3,Zc0 t x2 r= .ok (y,x3,r3)->Zmr t f l m (k+1) xs x p=Zmr t f l m k (xs++[z]) x3 r3:=by
 rw[Zmr,Zan h,if_neg hm,if_pos hl];exact⟨fun e he=>Zai he,fun y x3 r3 he=>Zan he⟩
theorem Zaf.grew {e:TypeId}{s:Nat}{Q:Zgk α}{B:Nat}{w w1:World}{F G:List Nat}{v:Value}{ys:List α}{F':List Nat}(h:Z44 e s Q B w w1 F G v ys F'){b:Nat}{w0:World}(k:Zaf b w0 w)(hF: ∀ i,i∈F->w0.heap.size<=i):Zaf b w0 w1:=
 ⟨h.os.trans k.os,h.tape.trans k.tape,h.output.trans k.output,Ycu k.size h.size,fun j hj hb=>(h.same j (Ycz hj k.size) (fun hjF=>by have:=hF j hjF;omega)).trans (k.block j hj hb)⟩
end
end Go.W
namespace Go.P
variable {K d b m p:Nat}{first cap:Array Value}{a:Nat->Addr}{w:World}{t:ByteArray}{x:Tk}
def Z7l {α:Type} (e:TypeId) (s:Nat) (Q:Zgk α) (a:Nat->Addr) (b:Nat) (t:ByteArray) (f:Tk->Nat->Re α) (l:List UInt8) (m:Nat) (Y:Re (List α)) (w:World) (tv:Value) (wr:World):Prop:=
 ∃ (xs:List α) (F:List Nat) (pp:Option Addr) (c:Nat) (x:Tk) (p:Nat),tv= .slice pp xs.length c/\xs.length<=m/\Zag e s Q wr tv xs F/\Za9 w.heap.size wr F/\Zpz a b w t wr p x/\Zmr t f l m (m+1 - xs.length) xs x p=Y
def Zlt:Value->Nat | .slice _ n _=>n | _=>0
theorem Zpl (hen:Zam K){f:Tk->Nat->Re T}(s:ByteArray)(Z:Zap a w)(h:Rd w b t p x)(hx:Zm0 x)(hm:m < 1000)
  (HC: ∀ u p x,Zpz a b w t u p x->Calls Tryz.prog K (first++cap) u (Zey a b t (Zk3 (Za3 Zad (d+1)) u.heap.size) u (f x p))):
  Calls Tryz.prog 211 #[.pointer (some ⟨b,0,none⟩),.string s,.int .i64 (m:Int),.func (.func K) first cap] w (Zey a b t (Zj5 103 4 (Za3 Zad (d+1)) w.heap.size) w (Zmr t f s.toList m (m+1) [] x p)):=by
 have HH:=Zaa HC;have hen': ∀ args w,(callFunc K args).run Tryz.prog w= .ok (.enter K args) w:=hen;have hg:=h.2.2.2;have ht:=h.2.1;have hblt:=h.1.lt;have D0:Box (Zpz a b w t w p x):=⟨h,Zaf.refl _ _,Z,hx⟩;have ZW:=Zaa Z;clear HC hen Z h hx;go_enter Tryz.func211,Tryz.ntmps211
 go_wp2_with fail
 go_loopw [9] (fun tv wr=>Z7l 103 4 (Za3 Zad (d+1)) a b t f s.toList m (Zmr t f s.toList m (m+1) [] x p) w tv wr) (fun tv _=>m+1 - Zlt tv)
 case atStart=>exact⟨[],[],none,0,x,p,rfl,by simp,Zag.nil,Za9.nil _ _,D0.out,rfl⟩
 case round=>
  clear D0;obtain⟨xs,F,pp,c,y,q,rfl,hxm,hR,hN,hD,hY⟩:=hrel;obtain⟨c0,c1,c2,c3,c4,c5,c6,c7,sf⟩:=hD.1.1.eight;obtain⟨k,hk⟩: ∃ k,m+1 - xs.length=k+1:=⟨m - xs.length,by omega⟩;rw[hk]at hY;have HR:=Zaa hR;have HN:=Zaa hN;have HD:=Zaa hD;have HY:=Zaa hY;have CC:=Zaa (HH.out _ _ _ hD);have hszw:=hD.2.1.size;generalize Zmr t f s.toList m (m+1) [] x p=Y at*;clear hR hN hD hY HH;go_wp2_with fail
  refine CC.out.mono ?_;rintro e w2 ⟨hk2,⟨n,r,hy,hn,L,hL,rfl,hB⟩ | ⟨v,z,x2,r,hy,rfl,⟨vs,F2,rfl,hQ,hN2⟩,hr2⟩⟩
  ·exact⟨rfl,HD.out.2.1.trans hk2,Or.inl ⟨n,r,HY.out.symm.trans (Zuq hy),hn,L,Ycu hszw hL,rfl,hB⟩⟩
  have hs2:=hk2.size;have bF: ∀ j,j∈F->j≠b:=fun j hj=>by have:=HN.out.ge j hj;omega
  have R2:Zag 103 4 (Za3 Zad (d+1)) w2 (.slice pp xs.length c) xs F:=Zag.stable (Za3.stable (ty:=Zad) (d+1)) _ _ _ _ _ HR.out fun j hj=>hk2.block j (HN.out.lt j hj) (bF j hj);have Z2:=HD.out.2.2.1.keeps hk2 hg;have CJ:=Zaa (Zwd (d:=d) (B:=w.heap.size) (m:=m) (k:=y.at_) Z2 R2 hQ (by omega) (HN.out.later lr hs2) (hN2.later (by omega) lr) (fun j hj hj2=>by have:=HN.out.lt j hj;have:=hN2.ge j hj2;omega) hm hxm);have K2:=Zaa (HD.out.2.1.trans hk2);have HR2:=Zaa hr2;have GE:=Zaa HN.out.ge;have HE:=Zaa hy;clear hk2 hQ hN2 hr2 hy CC HR HN HD R2 Z2 c0 c1 c2 c3 c4 c5 c6 c7 sf bF;go_wp2_with fail
  refine CJ.out.mono ?_;rintro e w3 (⟨hE,⟨L,hL,rfl,hB⟩,hb⟩ | ⟨hne,p',c',F',rfl,hG⟩)
  ·exact⟨rfl,K2.out.ofBelow hb,Or.inl ⟨4,_,HY.out.symm.trans (Zya HE.out hE),by decide,L,by omega,rfl,hB⟩⟩
  have K3:=Zaa (Zaf.grew hG K2.out GE.out);have hr3:Rd w3 b t r x2:=⟨HR2.out.1.of (hG.same b HR2.out.1.lt (fun hj=>by have:=GE.out b hj;omega)),HR2.out.2⟩;have HR3:=Zaa hr3;obtain⟨c0,c1,c2,c3,c4,c5,c6,c7,sf⟩:=hr3.1.eight;have HG:=Zaa hG;have hs3:=hG.size;have Z3:Box (Zap a w3):=⟨ZW.out.keeps K3.out hg⟩;clear hG hr3 CJ HR2;by_cases hl:x2.text.toList=s.toList
  ·have g1:(x2.text.toList==s.toList)=true:=by rw[beq_iff_eq];exact hl
   have M:=Zaa (Zx4 (l:=s.toList) (k:=k) (t:=t) HE.out hne hl);have CT:=Zaa (Zc4 Z3.out HR3.out);clear hl HE;go_wp2_with fail
   refine CT.out.mono ?_;rintro e w4 ⟨hk4,⟨n,r4,hy,hn,L,hL,rfl,hB⟩ | ⟨v,y4,x4,r4,hy,rfl,hv,hr4⟩⟩
   ·exact⟨rfl,K3.out.trans hk4,Or.inl ⟨n,r4,HY.out.symm.trans (M.out.1 _ hy),hn,L,by omega,rfl,hB⟩⟩
   ·obtain rfl:v=Zmm y4:=hv;have hs4:=hk4.size;have RR:Zag 103 4 (Za3 Zad (d+1)) w4 (.slice p' (xs.length+1) c') (xs++[z]) F':=Zag.stable (Za3.stable (ty:=Zad) (d+1)) _ _ _ _ _ HG.out.row fun j hj=>hk4.block j (HG.out.new.lt j hj) (by have:=HG.out.new.ge j hj;omega);have hEE:=HY.out.symm.trans (M.out.2 _ _ _ hy);have R:=Zaa (Ycs RR (Ycs (HG.out.new.later lr hs4) (Ycs (show Zpz a b w t w4 r4 x4 from⟨hr4,K3.out.trans hk4,Z3.out.keeps hk4 hg,(Zef ht hy).1⟩) hEE)));clear RR hk4 hy hr4 hEE;go_wp2_with fail
    exact⟨⟨xs++[z],F',p',c',x4,r4,by simp,by simp;omega,by simpa using R.out.1,R.out.2.1,R.out.2.2.1,by rw[<- R.out.2.2.2.symm];congr 1;simp;omega⟩,by simp[Zlt];omega⟩
  ·have g1:(x2.text.toList==s.toList)=false:=by rw[beq_eq_false_iff_ne];exact hl
   have E:=Zaa (HY.out.symm.trans (Z17 (l:=s.toList) (k:=k) (t:=t) HE.out hne hl));clear hl HE;go_wp2_with fail
   go_ret
   exact⟨K3.out,Or.inr ⟨_,xs++[z],x2,r,E.out,rfl,⟨F',by simpa using HG.out.row,HG.out.new⟩,HR3.out⟩⟩
theorem Zp4 (hen:Zam K){f:Tk->Nat->Re R}(s:ByteArray)(Z:Zap a w)(h:Rd w b t p x)(hx:Zm0 x)(hm:m < 1000)
  (HC: ∀ u p x,Zpz a b w t u p x->Calls Tryz.prog K (first++cap) u (Zey a b t (Zk3 (Zbq Zad (d)) u.heap.size) u (f x p))):
  Calls Tryz.prog 138 #[.pointer (some ⟨b,0,none⟩),.string s,.int .i64 (m:Int),.func (.func K) first cap] w (Zey a b t (Zj5 101 4 (Zbq Zad (d)) w.heap.size) w (Zmr t f s.toList m (m+1) [] x p)):=by
 have HH:=Zaa HC;have hen': ∀ args w,(callFunc K args).run Tryz.prog w= .ok (.enter K args) w:=hen;have hg:=h.2.2.2;have ht:=h.2.1;have hblt:=h.1.lt;have D0:Box (Zpz a b w t w p x):=⟨h,Zaf.refl _ _,Z,hx⟩;have ZW:=Zaa Z;clear HC hen Z h hx;go_enter Tryz.func138,Tryz.ntmps138
 go_wp2_with fail
 go_loopw [9] (fun tv wr=>Z7l 101 4 (Zbq Zad (d)) a b t f s.toList m (Zmr t f s.toList m (m+1) [] x p) w tv wr) (fun tv _=>m+1 - Zlt tv)
 case atStart=>exact⟨[],[],none,0,x,p,rfl,by simp,Zag.nil,Za9.nil _ _,D0.out,rfl⟩
 case round=>
  clear D0;obtain⟨xs,F,pp,c,y,q,rfl,hxm,hR,hN,hD,hY⟩:=hrel;obtain⟨c0,c1,c2,c3,c4,c5,c6,c7,sf⟩:=hD.1.1.eight;obtain⟨k,hk⟩: ∃ k,m+1 - xs.length=k+1:=⟨m - xs.length,by omega⟩;rw[hk]at hY;have HR:=Zaa hR;have HN:=Zaa hN;have HD:=Zaa hD;have HY:=Zaa hY;have CC:=Zaa (HH.out _ _ _ hD);have hszw:=hD.2.1.size;generalize Zmr t f s.toList m (m+1) [] x p=Y at*;clear hR hN hD hY HH;go_wp2_with fail
  refine CC.out.mono ?_;rintro e w2 ⟨hk2,⟨n,r,hy,hn,L,hL,rfl,hB⟩ | ⟨v,z,x2,r,hy,rfl,⟨vs,F2,rfl,hQ,hN2⟩,hr2⟩⟩
  ·exact⟨rfl,HD.out.2.1.trans hk2,Or.inl ⟨n,r,HY.out.symm.trans (Zuq hy),hn,L,Ycu hszw hL,rfl,hB⟩⟩
  have hs2:=hk2.size;have bF: ∀ j,j∈F->j≠b:=fun j hj=>by have:=HN.out.ge j hj;omega
  have R2:Zag 101 4 (Zbq Zad (d)) w2 (.slice pp xs.length c) xs F:=Zag.stable (Zbq.stable (ty:=Zad) (d)) _ _ _ _ _ HR.out fun j hj=>hk2.block j (HN.out.lt j hj) (bF j hj);have Z2:=HD.out.2.2.1.keeps hk2 hg;have CJ:=Zaa (Zm9 (d:=d) (B:=w.heap.size) (m:=m) (k:=y.at_) Z2 R2 hQ (by omega) (HN.out.later lr hs2) (hN2.later (by omega) lr) (fun j hj hj2=>by have:=HN.out.lt j hj;have:=hN2.ge j hj2;omega) hm hxm);have K2:=Zaa (HD.out.2.1.trans hk2);have HR2:=Zaa hr2;have GE:=Zaa HN.out.ge;have HE:=Zaa hy;clear hk2 hQ hN2 hr2 hy CC HR HN HD R2 Z2 c0 c1 c2 c3 c4 c5 c6 c7 sf bF;go_wp2_with fail
  refine CJ.out.mono ?_;rintro e w3 (⟨hE,⟨L,hL,rfl,hB⟩,hb⟩ | ⟨hne,p',c',F',rfl,hG⟩)
  ·exact⟨rfl,K2.out.ofBelow hb,Or.inl ⟨4,_,HY.out.symm.trans (Zya HE.out hE),by decide,L,by omega,rfl,hB⟩⟩
  have K3:=Zaa (Zaf.grew hG K2.out GE.out);have hr3:Rd w3 b t r x2:=⟨HR2.out.1.of (hG.same b HR2.out.1.lt (fun hj=>by have:=GE.out b hj;omega)),HR2.out.2⟩;have HR3:=Zaa hr3;obtain⟨c0,c1,c2,c3,c4,c5,c6,c7,sf⟩:=hr3.1.eight;have HG:=Zaa hG;have hs3:=hG.size;have Z3:Box (Zap a w3):=⟨ZW.out.keeps K3.out hg⟩;clear hG hr3 CJ HR2;by_cases hl:x2.text.toList=s.toList
  ·have g1:(x2.text.toList==s.toList)=true:=by rw[beq_iff_eq];exact hl
   have M:=Zaa (Zx4 (l:=s.toList) (k:=k) (t:=t) HE.out hne hl);have CT:=Zaa (Zc4 Z3.out HR3.out);clear hl HE;go_wp2_with fail
   refine CT.out.mono ?_;rintro e w4 ⟨hk4,⟨n,r4,hy,hn,L,hL,rfl,hB⟩ | ⟨v,y4,x4,r4,hy,rfl,hv,hr4⟩⟩
   ·exact⟨rfl,K3.out.trans hk4,Or.inl ⟨n,r4,HY.out.symm.trans (M.out.1 _ hy),hn,L,by omega,rfl,hB⟩⟩
   ·obtain rfl:v=Zmm y4:=hv;have hs4:=hk4.size;have RR:Zag 101 4 (Zbq Zad (d)) w4 (.slice p' (xs.length+1) c') (xs++[z]) F':=Zag.stable (Zbq.stable (ty:=Zad) (d)) _ _ _ _ _ HG.out.row fun j hj=>hk4.block j (HG.out.new.lt j hj) (by have:=HG.out.new.ge j hj;omega);have hEE:=HY.out.symm.trans (M.out.2 _ _ _ hy);have R:=Zaa (Ycs RR (Ycs (HG.out.new.later lr hs4) (Ycs (show Zpz a b w t w4 r4 x4 from⟨hr4,K3.out.trans hk4,Z3.out.keeps hk4 hg,(Zef ht hy).1⟩) hEE)));clear RR hk4 hy hr4 hEE;go_wp2_with fail
    exact⟨⟨xs++[z],F',p',c',x4,r4,by simp,by simp;omega,by simpa using R.out.1,R.out.2.1,R.out.2.2.1,by rw[<- R.out.2.2.2.symm];congr 1;simp;omega⟩,by simp[Zlt];omega⟩
  ·have g1:(x2.text.toList==s.toList)=false:=by rw[beq_eq_false_iff_ne];exact hl
   have E:=Zaa (HY.out.symm.trans (Z17 (l:=s.toList) (k:=k) (t:=t) HE.out hne hl));clear hl HE;go_wp2_with fail
   go_ret
   exact⟨K3.out,Or.inr ⟨_,xs++[z],x2,r,E.out,rfl,⟨F',by simpa using HG.out.row,HG.out.new⟩,HR3.out⟩⟩
end Go.P
namespace Go.P
variable {w:World}{b p d:Nat}{t:ByteArray}{x:Tk}{a:Nat->Addr}
theorem Zpe:Zam 212:=Zak Tryz.func212 (by kernel_rfl) rfl
def Ziu (d:Nat):Prop:= ∀ {a:Nat->Addr} {w:World} {b:Nat} {t:ByteArray} {p:Nat} {x:Tk},Zap a w->Rd w b t p x->Zm0 x->Calls Tryz.prog 213 #[.pointer (some ⟨b,0,none⟩),.int .i64 ((3 - d:Nat):Int)] w (Zey a b t (Zk3 (Za3 Zad (d+1)) w.heap.size) w (Zdz t d x p))
theorem Zkk (l:List UInt8):(⟨l.toArray⟩:ByteArray).toList=l:=by rw[Ydl]
theorem Rd.keepN {w':World}(h:Rd w b t p x)(k:w'.heap[b]?=w.heap[b]?):Rd w' b t p x:=⟨h.1.of k,h.2⟩
theorem Zw5 (ih:Ziu d){L1 L2:Nat}(Z:Zap a w)(h:Rd w b t p x)(hx:Zm0 x)(k1:w.cell? ⟨L1,0,none⟩=some (.pointer (some ⟨b,0,none⟩)))(k2:w.cell? ⟨L2,0,none⟩=some (.int .i64 ((3 - d:Nat):Int))):
  Calls Tryz.prog 212 #[.pointer (some ⟨L1,0,none⟩),.pointer (some ⟨L2,0,none⟩)] w (Zey a b t (Zk3 (Za3 Zad (d+1)) w.heap.size) w (Zdz t d x p)):=by
 have l1:=fun o=>Zac k1 ((Yct _ w).alloc lr o);have l2:=fun o=>Zac k2 ((Yct _ w).alloc lr o);have C:=Zaa (ih (Z.below ((Yct _ w).alloc lr (.cells #[.int .i64 0,.int .i64 0,.string ⟨#[]⟩,.slice none 0 0] 103))) (h.alloc (.cells #[.int .i64 0,.int .i64 0,.string ⟨#[]⟩,.slice none 0 0] 103)) hx);have hb:=h.1.lt;have L0:=Zaa (Blk.new w #[.int .i64 0,.int .i64 0,.string ⟨#[]⟩,.slice none 0 0] 103);have K0:=Zaa ((Zaf.refl b w).alloc (.cells #[.int .i64 0,.int .i64 0,.string ⟨#[]⟩,.slice none 0 0] 103));obtain⟨dd,hdd⟩: ∃ z:Int,((3 - d:Nat):Int)=z:=⟨_,rfl⟩;rw[hdd]at l2 C;clear k1 k2 Z h hdd;go_enter Tryz.func212,Tryz.ntmps212
 go_wp2_with fail
 refine C.out.mono ?_;rintro e w1 ⟨hk1,⟨n,r,hy,hn,L,hL,rfl,hB⟩ | ⟨v,y,x2,r,hy,rfl,⟨vs,F,rfl,hQ,hN⟩,hr1⟩⟩
 ·exact⟨rfl,K0.out.trans hk1,Or.inl ⟨n,r,hy,hn,L,by simp at hL;omega,rfl,hB⟩⟩
 ·obtain⟨p1,c1,rfl⟩:=Za3.vals hQ;obtain⟨y0,y1,y2,y3,sf⟩:=(L0.out.of (hk1.block w.heap.size (by simp) (by omega))).four;have R:=Zaa (Ycs hQ (Ycs hN (Ycs hr1 (Ycs hy (K0.out.trans hk1)))));clear hQ hN hr1 hy hk1 C;go_wp2_with fail
  refine bodyPost_ret (by simp[results,Tryz.results212,go_sem,y0,y1,y2,y3];try rfl) rfl ?_;obtain⟨hQ,hN,hr1,hy,hk1⟩:=R.out;exact⟨hk1.r4 lr,Or.inr ⟨_,y,x2,r,hy,rfl,⟨_,F,rfl,Za3.stable (d+1) _ _ _ _ _ hQ fun j hj=>Zcc (by have:=hN.ge j hj;simp at this;omega),hN.later (by simp) (by simp)⟩,hr1.keepN (Zcc (by omega))⟩⟩
theorem Zqe (ih:Ziu d)(s:ByteArray)(Z:Zap a w)(h:Rd w b t p x)(hx:Zm0 x):
  Calls Tryz.prog 183 #[.pointer (some ⟨b,0,none⟩),.string s,.int .i64 ((3 - d:Nat):Int)] w (Zey a b t (Zj5 103 4 (Za3 Zad (d+1)) w.heap.size) w (Zf4 t (Zdz t d) s.toList x p)):=by
 have hmf:=Zg8;obtain⟨dd,hdd⟩: ∃ z:Int,((3 - d:Nat):Int)=z:=⟨_,rfl⟩;have B0:=Zaa (((Yct w.heap.size w).alloc lr (.cells #[.pointer (some ⟨b,0,none⟩)] 108)).alloc (by simp) (.cells #[.int .i64 dd] 3));have K0:=Zaa (((Zaf.refl b w).alloc (.cells #[.pointer (some ⟨b,0,none⟩)] 108)).alloc (.cells #[.int .i64 dd] 3));have L1:=Zaa ((Blk.new w #[.pointer (some ⟨b,0,none⟩)] 108).alloc (.cells #[.int .i64 dd] 3));have L2:=Zaa (Blk.new (w.alloc (.cells #[.pointer (some ⟨b,0,none⟩)] 108)) #[.int .i64 dd] 3);have hb:=h.1.lt;have hg:=h.2.2.2;have H0:=Zaa ((h.alloc (.cells #[.pointer (some ⟨b,0,none⟩)] 108)).alloc (.cells #[.int .i64 dd] 3));have Z0:=Zaa (Z.below B0.out);have C:=Zaa (Zpl (d:=d) (f:=Zdz t d) Zpe (first:=#[]) (cap:=#[.pointer (some ⟨w.heap.size,0,none⟩),.pointer (some ⟨w.heap.size+1,0,none⟩)]) (m:=6) ⟨#[44]⟩ Z0.out H0.out hx (by omega) fun u q y hu=>Zw5 ih hu.2.2.1 hu.1 hu.2.2.2 ((L1.out.of (hu.2.1.block w.heap.size (by simp;omega) (by omega))).one.1) (by rw[hdd];have:=(L2.out.of (hu.2.1.block _ (by simp) (by simp;omega))).one.1;simpa using this));rw[show(⟨#[44]⟩:ByteArray).toList=[44]from Zkk [44]]at C;obtain⟨c0,c1,c2,c3,c4,c5,c6,c7,sf⟩:=H0.out.1.eight;have CW:=Zaa (fun u q y (h1:Zap a u) (h2:Rd u b t q y)=>Zi2 s h1 h2);have l1:=L1.out.one.1;rw[hdd];clear ih hdd Z h;go_enter Tryz.func183,Tryz.ntmps183
 by_cases hs:x.text.toList=s.toList
 ·have g1:(x.text.toList==s.toList)=true:=by rw[beq_iff_eq];exact hs
  have Y:Box (Zf4 t (Zdz t d) s.toList x p=Zbf (Zgx t s.toList x p) fun _ x2 p2=> .ok ([],x2,p2)):=⟨by unfold Zf4;rw[if_pos hs];rfl⟩;clear hs;go_wp2_with fail
  refine(CW.out _ _ _ Z0.out H0.out).mono ?_;rintro e w1 ⟨hk1,⟨n,r,hy,hn,L,hL,rfl,hB⟩ | ⟨v,y,x2,r,hy,rfl,hv,hr1⟩⟩
  ·exact⟨rfl,K0.out.trans hk1,Or.inl ⟨n,r,Y.out.trans (Zai hy),hn,L,by simp at hL;omega,rfl,hB⟩⟩
  ·obtain rfl:v= .tuple #[]:=hv;have R:=Zaa (Ycs hr1 (Ycs (Y.out.trans (Zan hy)) (K0.out.trans hk1)));clear hr1 hy hk1 C;go_wp2_with fail
   go_ret
   exact⟨R.out.2.2,Or.inr ⟨_,[],x2,r,R.out.2.1,rfl,⟨[],Zag.nil,Za9.nil _ _⟩,R.out.1⟩⟩
 ·have g1:(x.text.toList==s.toList)=false:=by rw[beq_eq_false_iff_ne];exact hs
  have Y:Box (Zf4 t (Zdz t d) s.toList x p=Zbf (Zmr t (Zdz t d) [44] 6 7 [] x p) fun l x1 p1=>Zbf (Zgx t s.toList x1 p1) fun _ x2 p2=> .ok (l,x2,p2)):=⟨by unfold Zf4;rw[if_neg hs]⟩;clear hs;go_wp2_with fail
  refine C.out.mono ?_;rintro e w1 ⟨hk1,⟨n,r,hy,hn,L,hL,rfl,hB⟩ | ⟨v,xs,x1,r1,hy,rfl,⟨F,hR,hN⟩,hr1⟩⟩
  ·exact⟨rfl,K0.out.trans hk1,Or.inl ⟨n,r,Y.out.trans (Zai hy),hn,L,by simp at hL;omega,rfl,hB⟩⟩
  obtain⟨p1,cc,rfl⟩:=Zag.form hR;have Y2:=Zaa (Y.out.trans (Zan hy));have l2:=(L1.out.of (hk1.block w.heap.size (by simp;omega) (by omega))).one.1;have hs1:=hk1.size;have R1:=Zaa (Ycs hR (Ycs hN (K0.out.trans hk1)));have HR1:=Zaa hr1;have Z1:=Zaa (Z0.out.keeps hk1 hg);clear hR hN hr1 hy hk1 C Y l1 L1 L2 K0 H0 Z0 B0 c0 c1 c2 c3 c4 c5 c6 c7 sf;go_wp2_with fail
  refine(CW.out _ _ _ Z1.out HR1.out).mono ?_;rintro e w2 ⟨hk2,⟨n,r,hy,hn,L,hL,rfl,hB⟩ | ⟨v,y,x2,r,hy,rfl,hv,hr2⟩⟩
  ·exact⟨rfl,R1.out.2.2.trans hk2,Or.inl ⟨n,r,Y2.out.trans (Zai hy),hn,L,by simp at hs1;omega,rfl,hB⟩⟩
  ·obtain rfl:v= .tuple #[]:=hv;have hN1:=R1.out.2.1;have R2:=Zaa (Ycs hr2 (Ycs (Y2.out.trans (Zan hy)) (Ycs (R1.out.2.2.trans hk2) (Zag.stable (Za3.stable (ty:=Zad) (d+1)) _ _ _ _ _ R1.out.1 fun j hj=>hk2.block j (hN1.lt j hj) (by have:=hN1.ge j hj;simp at this;omega)))));have hs2:=hk2.size;clear hr2 hy hk2 hN1;go_wp2_with fail
   go_ret
   exact⟨R2.out.2.2.1,Or.inr ⟨_,xs,x2,r,R2.out.2.1,rfl,⟨F,R2.out.2.2.2,R1.out.2.1.later (by simp;omega) hs2⟩,R2.out.1⟩⟩
theorem Z37 (ih:Ziu d)(hd:d < 3)(Z:Zap a w)(h:Rd w b t p x):
  Calls Tryz.prog 237 #[.pointer (some ⟨b,0,none⟩),.int .i64 ((3 - (d+1):Nat):Int)] w (Zey a b t (Zk3 (Za3 Zad (d+2)) w.heap.size) w (Zbf (Zc0 t x p) fun _ x1 p1=>Zbf (Zf4 t (Zdz t d) [93] x1 p1) fun l x2 p2=> .ok (.mk 7 0 ⟨#[]⟩ l,x2,p2))):=by
 have hg:=h.2.2.2;have hb:=h.1.lt;obtain⟨dd,hdd⟩: ∃ z:Int,((3 - (d+1):Nat):Int)=z:=⟨_,rfl⟩;have g1:(dd==3)=false:=by rw[beq_eq_false_iff_ne];omega
 have g2:0<=dd/\dd < 3:=by omega
 have e1:((3 - d:Nat):Int)=dd+1:=by omega
 have L0:=Zaa (Blk.new w #[.int .i64 0,.int .i64 0,.string ⟨#[]⟩,.slice none 0 0] 103);have K0:=Zaa ((Zaf.refl b w).alloc (.cells #[.int .i64 0,.int .i64 0,.string ⟨#[]⟩,.slice none 0 0] 103));have H0:=Zaa (h.alloc (.cells #[.int .i64 0,.int .i64 0,.string ⟨#[]⟩,.slice none 0 0] 103));have Z0:=Zaa (Z.below ((Yct _ w).alloc lr (.cells #[.int .i64 0,.int .i64 0,.string ⟨#[]⟩,.slice none 0 0] 103)));have CT:=Zaa (Zc4 Z0.out H0.out);have CS:=Zaa (fun u q y (h1:Zap a u) (h2:Rd u b t q y) (h3:Zm0 y)=>Zqe ih ⟨#[93]⟩ h1 h2 h3);have ht:=h.2.1;rw[e1,show(⟨#[93]⟩:ByteArray).toList=[93]from Zkk [93]]at CS;rw[hdd];clear Z h hdd e1;go_enter Tryz.func237,Tryz.ntmps237
 go_wp2_with fail
 refine CT.out.mono ?_;rintro e w1 ⟨hk1,⟨n,r,hy,hn,L,hL,rfl,hB⟩ | ⟨v,y,x1,r1,hy,rfl,hv,hr1⟩⟩
 ·exact⟨rfl,K0.out.trans hk1,Or.inl ⟨n,r,Zai hy,hn,L,by simp at hL;omega,rfl,hB⟩⟩
 obtain rfl:v=Zmm y:=hv;have Y1:Box (∀ f:Tk->Tk->Nat->Re T,Zbf (Zc0 t x p) f=f y x1 r1):=⟨fun f=>Zan hy⟩;have Z1:=Zaa (Z0.out.keeps hk1 hg);have K1:=Zaa (K0.out.trans hk1);have L1:=Zaa (L0.out.of (hk1.block w.heap.size (by simp) (by omega)));have hs1:=hk1.size;have HR1:=Zaa hr1;have hx1:=(Zef ht hy).1;clear hk1 hy hr1 CT H0 Z0 K0 L0;go_wp2_with fail
 refine(CS.out _ _ _ Z1.out HR1.out hx1).mono ?_;rintro e w2 ⟨hk2,⟨n,r,hy,hn,L,hL,rfl,hB⟩ | ⟨v,xs,x2,r2,hy,rfl,⟨F,hR,hN⟩,hr2⟩⟩
 ·exact⟨rfl,K1.out.trans hk2,Or.inl ⟨n,r,(Y1.out _).trans (Zai hy),hn,L,by simp at hs1;omega,rfl,hB⟩⟩
 obtain⟨p1,cc,rfl⟩:=Zag.form hR;have hs2:=hk2.size;obtain⟨y0,y1,y2,y3,sf⟩:=(L1.out.of (hk2.block w.heap.size (by simp at hs1;omega) (by omega))).four;have EY:(Zbf (Zc0 t x p) fun _ x1 p1=>Zbf (Zf4 t (Zdz t d) [93] x1 p1) fun l x2 p2=>(.ok (.mk 7 0 ⟨#[]⟩ l,x2,p2):Re T))= .ok (.mk 7 0 ⟨#[]⟩ xs,x2,r2):=(Y1.out _).trans (Zan hy);have R:=Zaa (Ycs hR (Ycs hN (Ycs hr2 (Ycs EY (K1.out.trans hk2)))));clear hR hN hr2 hy hk2 CS Y1 Z1 K1 L1 HR1 EY;go_wp2_with fail
 refine bodyPost_ret (by simp[results,Tryz.results237,go_sem,y0,y1,y2,y3];try rfl) rfl ?_;obtain⟨hR,hN,hr1,hy,hk1⟩:=R.out;simp at hs1;exact⟨hk1.r4 lr,Or.inr ⟨_,T.mk 7 0 ⟨#[]⟩ xs,x2,r2,hy,rfl,⟨[.int .i64 7,.int .i64 0,.string ⟨#[]⟩,.slice p1 xs.length cc],F,rfl,⟨_,rfl,(by show Zk2 7;constructor <;> decide),(by show Zk2 0;constructor <;> decide),(by show(ByteArray.mk #[]).size < 1000000000;decide),Zag.stable (Za3.stable (ty:=Zad) (d+1)) _ _ _ _ _ hR fun j hj=>Zcc (by have:=hN.ge j hj;omega)⟩,hN.later (by omega) (by simp)⟩,hr1.keepN (Zcc (by omega))⟩⟩
end Go.P
namespace Go.W
section
variable {t:ByteArray} {d:Nat} {x:Tk} {p:Nat}
theorem Z1g (h:Zjq x.text=true):Zdz t d x p=Zbf (Zc0 t x p) fun _ x1 p1=> .ok (.mk 6 (if x.text.toList=Zpx then 1 else 0) ⟨#[]⟩ [],x1,p1):=by
 cases d <;> rw[Zdz,if_pos h]
def Z8x (t:ByteArray):Nat->Tk->Nat->Re T
 | 0,x,_=> .error (3,x.at_)
 | d+1,x,p=>Zbf (Zc0 t x p) fun _ x1 p1=>Zbf (Zf4 t (Zdz t d) [93] x1 p1) fun l x2 p2=> .ok (.mk 7 0 ⟨#[]⟩ l,x2,p2)
theorem Z1l (h:Zjq x.text=false)(hl:x.text.toList=[91]):Zdz t d x p=Z8x t d x p:=by
 cases d <;> rw[Zdz,if_neg (by rw[h];simp),if_pos hl,Z8x]
theorem Z5u (h:Zjq x.text=false)(hl:x.text.toList≠[91])(hk:x.k=0\/x.k=1/\d < 3):Zdz t d x p= .error (2,x.at_):=by
 cases d with
 | zero=>rw[Zdz,if_neg (by rw[h];simp),if_neg hl,if_pos (hk.imp_right And.left)]
 | succ d=>rw[Zdz,if_neg (by rw[h];simp),if_neg hl,if_pos hk]
theorem Zvr (h:Zjq x.text=false)(hl:x.text.toList≠[91])(hk: ¬ (x.k=0\/x.k=1/\d < 3)):Zdz t d x p=Zbf (Zc0 t x p) fun _ x1 p1=> .ok (.mk x.k x.i x.s [],x1,p1):=by
 cases d with
 | zero=>rw[Zdz,if_neg (by rw[h];simp),if_neg hl,if_neg (fun z=>hk (z.imp_right fun g=>⟨g,by omega⟩))]
 | succ d=>rw[Zdz,if_neg (by rw[h];simp),if_neg hl,if_neg hk]
end
end Go.W
namespace Go.P
def Ztl (d:Nat):Prop:= ∀ {a:Nat->Addr} {w:World} {b:Nat} {t:ByteArray} {p:Nat} {x:Tk},Zap a w->Rd w b t p x->Calls Tryz.prog 237 #[.pointer (some ⟨b,0,none⟩),.int .i64 ((3 - d:Nat):Int)] w (Zey a b t (Zk3 (Za3 Zad (d+1)) w.heap.size) w (Z8x t d x p))
theorem Z0h:Ztl 0:=by
 intro a w b t p x Z h;have H0:=Zaa (h.alloc (.cells #[.int .i64 0,.int .i64 0,.string ⟨#[]⟩,.slice none 0 0] 103));have z3:=fun o=>Zac Z.c3 ((Yct _ w).alloc lr o);have CR:=Zaa (Zbh a (n:=3) (by decide) H0.out);have K0:=Zaa ((Zaf.refl b w).alloc (.cells #[.int .i64 0,.int .i64 0,.string ⟨#[]⟩,.slice none 0 0] 103));clear Z h;go_enter Tryz.func237,Tryz.ntmps237
 go_wp2_with fail
 refine CR.out.mono ?_;rintro e w2 ⟨⟨L,hL,rfl,hB⟩,hb⟩;exact⟨rfl,K0.out.ofBelow hb,Or.inl ⟨3,_,rfl,by decide,L,by simp at hL;omega,rfl,hB⟩⟩
theorem Zqd {d:Nat}(hd:d<=3)(LI:Ztl d):Ziu d:=by
 intro a w b t p x Z h hx;have hg:=h.2.2.2;have hb:=h.1.lt;obtain⟨dd,hdd⟩: ∃ z:Int,((3 - d:Nat):Int)=z:=⟨_,rfl⟩;have G:=Zaa (show 0 < dd↔d < 3 by omega);obtain⟨W,hW⟩: ∃ W,((w.alloc (.cells #[.int .i64 0,.int .i64 0,.string ⟨#[]⟩,.slice none 0 0] 103)).alloc (.cells #[.int .i64 (x.at_:Int),.string x.text,.int .i64 x.k,.int .i64 x.i,.string x.s,.slice none 0 0] 171))=W:=⟨_,rfl⟩;have HR:Box (Rd W b t p x):=⟨hW▸(h.alloc _).alloc _⟩;have HK:Box (Zaf b w W):=⟨hW▸((Zaf.refl b w).alloc _).alloc _⟩;have ZW:Box (Zap a W):=⟨Z.keeps HK.out hg⟩;have L0:Box (Blk W w.heap.size #[.int .i64 0,.int .i64 0,.string ⟨#[]⟩,.slice none 0 0] 103):=⟨hW▸(Blk.new w _ _).alloc _⟩;have L1:Box (Blk W (w.heap.size+1) #[.int .i64 (x.at_:Int),.string x.text,.int .i64 x.k,.int .i64 x.i,.string x.s,.slice none 0 0] 171):=⟨by have:=Blk.new (w.alloc (.cells #[.int .i64 0,.int .i64 0,.string ⟨#[]⟩,.slice none 0 0] 103)) #[.int .i64 (x.at_:Int),.string x.text,.int .i64 x.k,.int .i64 x.i,.string x.s,.slice none 0 0] 171;rw[hW]at this;simpa using this⟩;have hWs:W.heap.size=w.heap.size+2:=by rw[<- hW];simp
 have CB:=Zaa (fun u=>Zrc x.text u);have CT:=Zaa (Zc4 ZW.out HR.out);have CL:=Zaa (LI ZW.out HR.out);rw[hdd]at CL⊢;obtain⟨c0,c1,c2,c3,c4,c5,c6,c7,sf⟩:=h.1.eight;have HW:=Zaa hW;have SW:=Zaa hWs;clear hW hWs;go_enter Tryz.func213,Tryz.ntmps213
 go_wp2_with fail
 rw[HW.out];clear c0 c1 c2 c3 c4 c5 c6 c7 sf Z h;have hWs:=SW.out;obtain⟨d0,d1,d2,d3,d4,d5,sd⟩:=L1.out.six;obtain⟨y0,y1,y2,y3,sy⟩:=L0.out.four;cases hbw:Zjq x.text
 case' true=>
  rw[hbw]at CB;have Y:=Zaa (Z1g (t:=t) (d:=d) (p:=p) hbw);clear CL;refine(CB.out _).mono ?_;rintro e w' ⟨rfl,rfl⟩;have CV:=Zaa (fun u=>Zu6 (x.text.toList==Zpx) u);go_wp2_with fail
  refine CT.out.mono ?_;rintro e w1 ⟨hk1,⟨n,r,hy,hn,L,hL,rfl,hB⟩ | ⟨v,y,x1,r1,hy,rfl,hv,hr1⟩⟩
  ·exact⟨rfl,HK.out.trans hk1,Or.inl ⟨n,r,Y.out.trans (Zai hy),hn,L,by omega,rfl,hB⟩⟩
  obtain rfl:v=Zmm y:=hv;have M1:=Zaa (L1.out.of (hk1.block _ (by omega) (by omega)));have M0:=Zaa (L0.out.of (hk1.block _ (by omega) (by omega)));have R:=Zaa (Ycs (HK.out.trans hk1) (Ycs hr1 (Y.out.trans (Zan hy))));have hs1:=hk1.size;clear hk1 hr1 hy CT L0 L1 Y d0 d1 d2 d3 d4 d5 sd y0 y1 y2 y3 sy CB;obtain⟨d0,d1,d2,d3,d4,d5,sd⟩:=M1.out.six;unfold Zpx at CV;go_wp2_with fail
  refine(CV.out _).mono ?_;rintro e w2 ⟨rfl,hb2⟩;obtain⟨y0,y1,y2,y3,sy⟩:=(M0.out.of (hb2.block _ (by omega))).four;have R2:=Zaa (Ycs (R.out.1.ofBelow hb2) (Ycs (R.out.2.1.of hb2) R.out.2.2));have hs2:=hb2.size;clear hb2 d0 d1 d2 d3 d4 d5 sd M1 M0 R;have eb:(if(x.text.toList==[116,114,117,101])=true then(1:Int)else 0)=if x.text.toList=Zpx then 1 else 0:=by
   unfold Zpx;by_cases hh:x.text.toList=[116,114,117,101]
   ·rw[if_pos hh,if_pos (by rw[beq_iff_eq];exact hh)]
   ·rw[if_neg hh,if_neg (by rw[beq_iff_eq];exact hh)]
  rw[eb];obtain⟨ib,hib⟩: ∃ z:Int,(if x.text.toList=Zpx then(1:Int)else 0)=z:=⟨_,rfl⟩;have hi64:Zk2 ib:=by
   rw[<- hib];split
   ·exact⟨by decide,by decide⟩
   ·exact Zgt
  rw[hib]at R2⊢;clear eb hib;go_wp2_with fail
  refine bodyPost_ret (by simp[results,Tryz.results213,go_sem,y0,y1,y2,y3];try rfl) rfl ?_;exact⟨R2.out.1.r4 lr,Or.inr ⟨_,_,_,_,R2.out.2.2,rfl,⟨[.int .i64 6,.int .i64 ib,.string ⟨#[]⟩,.slice none 0 0],[],rfl,⟨_,rfl,⟨by show(-9223372036854775808:Int)<=6;decide,by show(6:Int)<=9223372036854775807;decide⟩,hi64,by show(0:Nat) < _;decide,Zag.nil⟩,Za9.nil _ _⟩,R2.out.2.1.keepN (Zcc (by omega))⟩⟩
 rw[hbw]at CB;refine(CB.out _).mono ?_;rintro e w' ⟨rfl,rfl⟩;by_cases hl:x.text.toList=[91]
 ·have g1:(x.text.toList==[91])=true:=by rw[beq_iff_eq];exact hl
  have Y:=Zaa (Z1l (t:=t) (d:=d) (p:=p) hbw hl);clear hl CT;go_wp2_with fail
  refine CL.out.mono ?_;rintro e w1 ⟨hk1,⟨n,r,hy,hn,L,hL,rfl,hB⟩ | ⟨v,z,x1,r1,hy,rfl,⟨vs,F,rfl,hQ,hN⟩,hr1⟩⟩
  ·exact⟨rfl,HK.out.trans hk1,Or.inl ⟨n,r,Y.out.trans hy,hn,L,by omega,rfl,hB⟩⟩
  obtain⟨p1,cc,rfl⟩:=Za3.vals hQ;have hs1:=hk1.size;have R:=Zaa (Ycs (HK.out.trans hk1) (Ycs hr1 (Ycs (Y.out.trans hy) (Ycs hQ hN))));have M0:=Zaa (L0.out.of (hk1.block _ (by omega) (by omega)));clear hk1 hr1 hy hQ hN CL L0 L1 Y d0 d1 d2 d3 d4 d5 sd y0 y1 y2 y3 sy CB;obtain⟨y0,y1,y2,y3,sy⟩:=M0.out.four;go_wp2_with fail
  refine bodyPost_ret (by simp[results,Tryz.results213,go_sem,y0,y1,y2,y3];try rfl) rfl ?_;obtain⟨hk1,hr1,hy,hQ,hN⟩:=R.out;exact⟨hk1.r4 lr,Or.inr ⟨_,z,x1,r1,hy,rfl,⟨_,F,rfl,Za3.stable (d+1) _ _ _ _ _ hQ fun j hj=>Zcc (by have:=hN.ge j hj;omega),hN.later (by omega) (by simp)⟩,hr1.keepN (Zcc (by omega))⟩⟩
 have g1:(x.text.toList==[91])=false:=by rw[beq_eq_false_iff_ne];exact hl
 clear CL;by_cases hk:x.k=0\/x.k=1/\d < 3
 ·have Y:=Zaa (Z5u (t:=t) (p:=p) hbw hl hk);have GG:(x.k==0)=true\/(x.k==0)=false/\(x.k==1)=true/\decide (0 < dd)=true:=by
   by_cases h0:x.k=0
   ·exact Or.inl (by rw[beq_iff_eq];exact h0)
   ·have:=hk.resolve_left h0
    exact Or.inr ⟨by rw[beq_eq_false_iff_ne];exact h0,by rw[beq_iff_eq];exact this.1,decide_eq_true (G.out.2 this.2)⟩
  have z2:=ZW.out.c2;have C2:=Zaa (Zbh a (n:=2) (by decide) HR.out);clear hk hl CT;rcases GG with ga | ⟨ga,gb,gc⟩;all_goals
   go_wp2_with fail
   refine C2.out.mono ?_;rintro e w2 ⟨⟨L,hL,rfl,hB⟩,hb⟩;exact⟨rfl,HK.out.ofBelow hb,Or.inl ⟨2,_,Y.out,by decide,L,by omega,rfl,hB⟩⟩
 have Y:=Zaa (Zvr (t:=t) (p:=p) hbw hl hk);have GG:(x.k==0)=false/\(x.k==1)=false\/(x.k==0)=false/\(x.k==1)=true/\decide (0 < dd)=false:=by
  have h0:x.k≠0:=fun z=>hk (Or.inl z);by_cases h1:x.k=1
  ·exact Or.inr ⟨by rw[beq_eq_false_iff_ne];exact h0,by rw[beq_iff_eq];exact h1,decide_eq_false fun z=>hk (Or.inr ⟨h1,G.out.1 z⟩)⟩
  ·exact Or.inl ⟨by rw[beq_eq_false_iff_ne];exact h0,by rw[beq_eq_false_iff_ne];exact h1⟩
 clear hk hl;rcases GG with⟨ga,gb⟩ | ⟨ga,gb,gc⟩;all_goals
  go_wp2_with fail
  refine CT.out.mono ?_;rintro e w1 ⟨hk1,⟨n,r,hy,hn,L,hL,rfl,hB⟩ | ⟨v,y,x1,r1,hy,rfl,hv,hr1⟩⟩
  ·exact⟨rfl,HK.out.trans hk1,Or.inl ⟨n,r,Y.out.trans (Zai hy),hn,L,by omega,rfl,hB⟩⟩
  obtain rfl:v=Zmm y:=hv;have M1:=Zaa (L1.out.of (hk1.block _ (by omega) (by omega)));have M0:=Zaa (L0.out.of (hk1.block _ (by omega) (by omega)));have R:=Zaa (Ycs (HK.out.trans hk1) (Ycs hr1 (Y.out.trans (Zan hy))));have hs1:=hk1.size;clear hk1 hr1 hy CT L0 L1 Y d0 d1 d2 d3 d4 d5 sd y0 y1 y2 y3 sy CB;obtain⟨d0,d1,d2,d3,d4,d5,sd⟩:=M1.out.six;obtain⟨y0,y1,y2,y3,sy⟩:=M0.out.four;go_wp2_with fail
  refine bodyPost_ret (by simp[results,Tryz.results213,go_sem,y0,y1,y2,y3];try rfl) rfl ?_;exact⟨R.out.1.r4 lr,Or.inr ⟨_,_,_,_,R.out.2.2,rfl,⟨[.int .i64 x.k,.int .i64 x.i,.string x.s,.slice none 0 0],[],rfl,⟨_,rfl,hx.2.2.1,hx.2.2.2,hx.2.1,Zag.nil⟩,Za9.nil _ _⟩,R.out.2.1.keepN (Zcc (by omega))⟩⟩
theorem Zop: ∀ d,d<=3->Ziu d
 | 0,h=>Zqd h Z0h
 | d+1,h=>Zqd h (Z37 (Zop d (by omega)) (by omega))
end Go.P
namespace Go.W
variable {s:ByteArray}
theorem Ybp {k:Nat}{m:ByteArray}(hk:Zbo[k]?=some m)(h0: ∀ j m',j < k->Zbo[j]?=some m'->m'≠s)(h1:m=s):opW s=k+1:=by
 have:Zbo.findIdx? (fun m=>decide (m=s))=some k:=by
  rw[List.findIdx?_eq_some_iff_getElem];refine⟨(Yc3.1 hk).1,by rw[(Yc3.1 hk).2];exact decide_eq_true h1,?_⟩;intro j hj;have hl:j < Zbo.length:=Nat.lt_trans hj (Yc3.1 hk).1
  have:=h0 j Zbo[j] hj (Yc0 hl)
  simpa using this
 unfold opW;rw[this]
theorem Ybr (h0: ∀ j m',j < 7->Zbo[j]?=some m'->m'≠s):opW s=0:=by
 have:Zbo.findIdx? (fun m=>decide (m=s))=none:=by
  rw[List.findIdx?_eq_none_iff];intro m hm;obtain⟨j,hj,rfl⟩:=List.getElem_of_mem hm
  have:=h0 j Zbo[j] hj (Yc0 hj)
  simpa using this
 unfold opW;rw[this]
theorem Yam (s:ByteArray):opW s<=7:=by
 unfold opW;split
 ·rename_i i h
  have:=(List.findIdx?_eq_some_iff_getElem.1 h).1
  simp[Zbo]at this;omega
 ·omega
end Go.W
namespace Go.P
variable {a:Nat->Addr}{w:World}
theorem Zap.ops (h:Zap a w)(i:Nat)(s:ByteArray)(hs:Zbo[i]?=some s):w.cell? ⟨17,i,none⟩=some (.string s):=by
 obtain⟨_,h0,h1⟩:=h;exact(h1 _ _ (by decide)).2.trans (h0.ops i s hs)
theorem Z8l (k:Nat)(h:k < 7): ∃ m,Zbo[k]?=some m/\ ∀ w,(Instr.index 356 (.agg #[.string (Zgc 1),.string (Zgc 2),.string (Zgc 3),.string (Zgc 4),.string (Zgc 5),.string (Zgc 6),.string (Zgc 7)]) (.int .i64 (k:Int))).run Tryz.prog w= .ok (.string m) w:=by
 have g:k=0\/k=1\/k=2\/k=3\/k=4\/k=5\/k=6:=by omega
 rcases g with rfl | rfl | rfl | rfl | rfl | rfl | rfl;all_goals exact⟨_,rfl,fun _=>by kernel_rfl⟩
def Yb4 (w:World) (s:ByteArray) (iv:Value) (wr:World):Prop:= ∃ k:Nat,k<=7/\iv= .int .i64 (k:Int)/\wr=w/\ ∀ j m',j < k->Zbo[j]?=some m'->m'≠s
theorem Zv7 (Z:Zap a w)(s:ByteArray):Calls Tryz.prog 214 #[.string s] w fun e w'=>e= .returned (.int .i64 (opW s:Nat))/\w'=w:=by
 have m0:=Z.ops 0 _ rfl;have m1:=Z.ops 1 _ rfl;have m2:=Z.ops 2 _ rfl;have m3:=Z.ops 3 _ rfl;have m4:=Z.ops 4 _ rfl;have m5:=Z.ops 5 _ rfl;have m6:=Z.ops 6 _ rfl;clear Z;go_enter Tryz.func214,Tryz.ntmps214
 go_wp2_with fail
 clear m0 m1 m2 m3 m4 m5 m6;go_loopw [6] (fun iv wr=>Yb4 w s iv wr) (fun iv _=>7 - Z6z iv)
 case atStart=>exact⟨0,by omega,rfl,rfl,fun j _ hj=>absurd hj (by omega)⟩
 case round=>
  obtain⟨k,hk,rfl,rfl,hall⟩:=hrel;have A:=Zaa hall;clear hall;by_cases hlt:k < 7
  ·obtain⟨m,hm,ik⟩:=Z8l k hlt;have g:(k:Int) < 7:=by omega
   by_cases he:m=s
   ·have Y:=Zaa (Ybp hm A.out he);have g2:(m.toList==s.toList)=true:=by rw[Zi7];exact decide_eq_true he
    clear hm A he;go_wp2_with fail
    go_ret
    rw[Y.out];exact⟨by simp,rfl⟩
   ·have g2:(m.toList==s.toList)=false:=by rw[Zi7];exact decide_eq_false he
    have S:Box (∀ j m',j < k+1->Zbo[j]?=some m'->m'≠s):=⟨fun j m' hj hm'=>by
     by_cases hjk:j=k
     ·subst hjk;rw[hm]at hm';cases hm';exact he
     ·exact A.out j m' (by omega) hm'⟩
    clear hm A he;go_wp2_with fail
    exact⟨⟨k+1,by omega,by simp,rfl,S.out⟩,by simp[Z6z];omega⟩
  ·obtain rfl:k=7:=by omega
   have Y:=Zaa (Ybr A.out);go_wp2_with fail
   go_ret
   rw[Y.out];exact⟨rfl,rfl⟩
end Go.P
namespace Go.P
variable {a:Nat->Addr}{w:World}{b p:Nat}{t:ByteArray}{x:Tk}
theorem Z6l (x:Tk)(u:World):(Instr.field 171 (.agg #[.int .i64 (x.at_:Int),.string x.text,.int .i64 x.k,.int .i64 x.i,.string x.s,.slice none 0 0]) 1).run Tryz.prog u= .ok (.string x.text) u:=by kernel_rfl
theorem Yay (x:Tk)(u:World):(Instr.field 171 (.agg #[.int .i64 (x.at_:Int),.string x.text,.int .i64 x.k,.int .i64 x.i,.string x.s,.slice none 0 0]) 0).run Tryz.prog u= .ok (.int .i64 (x.at_:Int)) u:=by kernel_rfl
theorem Ztn (Z:Zap a w)(h:Rd w b t p x)(hx:Zm0 x):
  Calls Tryz.prog 133 #[.pointer (some ⟨b,0,none⟩)] w (Zey a b t (Zk3 (Zbj Zad 4) w.heap.size) w (Zmw t x p)):=by
 have hg:=h.2.2.2;have ht:=h.2.1;have hb:=h.1.lt;have L0:=Zaa (Blk.new w #[.string ⟨#[]⟩,.slice none 0 0] 98);have K0:=Zaa ((Zaf.refl b w).alloc (.cells #[.string ⟨#[]⟩,.slice none 0 0] 98));have H0:=Zaa (h.alloc (.cells #[.string ⟨#[]⟩,.slice none 0 0] 98));have Z0:=Zaa (Z.below ((Yct _ w).alloc lr (.cells #[.string ⟨#[]⟩,.slice none 0 0] 98)));obtain⟨c0,c1,c2,c3,c4,c5,c6,c7,sf⟩:=H0.out.1.eight;have CW:=Zaa (Zq2 x hx.1 (w.alloc (.cells #[.string ⟨#[]⟩,.slice none 0 0] 98)));have CK:=Zaa (Z1f x.text);unfold Zmm at CW;clear Z h;go_enter Tryz.func133,Tryz.ntmps133
 go_wp2_with fail
 refine CW.out.mono ?_;rintro e w1 ⟨rfl,hb1⟩;have HR1:=Zaa (H0.out.of hb1);have K1:=Zaa (K0.out.ofBelow hb1);have Z1:=Zaa (Z0.out.below hb1);have L1:=Zaa (L0.out.of (hb1.block _ (by simp)));have hs1:=hb1.size;simp at hs1;clear c0 c1 c2 c3 c4 c5 c6 c7 sf hb1 K0 H0 Z0 L0 CW;obtain⟨c0,c1,c2,c3,c4,c5,c6,c7,sf⟩:=HR1.out.1.eight;by_cases hok:Zgs x.text=true/\Zzc x.text=false
 ·have Y:=Zaa (show Zmw t x p=Zbf (Zc0 t x p) fun _ x1 p1=>Zbf (Zgx t [40] x1 p1) fun _ x2 p2=>Zbf (Zf4 t (Zdz t 3) [41] x2 p2) fun l x3 p3=> .ok (⟨x.text,l⟩,x3,p3)from if_pos hok);have CT:=Zaa (Zc4 Z1.out HR1.out);have C1:=Zaa (fun u q y (h1:Zap a u) (h2:Rd u b t q y)=>Zi2 ⟨#[40]⟩ h1 h2);have C2:=Zaa (fun u q y (h1:Zap a u) (h2:Rd u b t q y) (h3:Zm0 y)=>Zqe (Zop 3 (by omega)) ⟨#[41]⟩ h1 h2 h3);rw[show(⟨#[40]⟩:ByteArray).toList=[40]from Zkk [40]]at C1;rw[show(⟨#[41]⟩:ByteArray).toList=[41]from Zkk [41],show((3 - 3:Nat):Int)=0 from rfl]at C2;rw[hok.2]at CK;rw[hok.1];clear hok;go_wp2_with (go_at_call 182;refine(CK.out _).mono ?_;rintro e w' ⟨rfl,rfl⟩)
  refine CT.out.mono ?_;rintro e w2 ⟨hk2,⟨n,r,hy,hn,L,hL,rfl,hB⟩ | ⟨v,y,x2,r2,hy,rfl,hv,hr2⟩⟩
  ·exact⟨rfl,K1.out.trans hk2,Or.inl ⟨n,r,Y.out.trans (Zai hy),hn,L,by omega,rfl,hB⟩⟩
  obtain rfl:v=Zmm y:=hv;obtain⟨hx2,rfl⟩:=Zef ht hy;have Y2:=Zaa (Y.out.trans (Zan hy));have hs2:=hk2.size;have HR2:=Zaa hr2;have K2:=Zaa (K1.out.trans hk2);have Z2:=Zaa (Z1.out.keeps hk2 hg);have L2:=Zaa (L1.out.of (hk2.block _ (by omega) (by omega)));clear c0 c1 c2 c3 c4 c5 c6 c7 sf hk2 hr2 hy CT Y HR1 K1 Z1 L1;unfold Zmm;have fd:=Z6l y;go_wp2_with fail
  clear fd;refine(C1.out _ _ _ Z2.out HR2.out).mono ?_;rintro e w3 ⟨hk3,⟨n,r,hy,hn,L,hL,rfl,hB⟩ | ⟨v,z,x3,r3,hy,rfl,hv,hr3⟩⟩
  ·exact⟨rfl,K2.out.trans hk3,Or.inl ⟨n,r,Y2.out.trans (Zai hy),hn,L,by omega,rfl,hB⟩⟩
  obtain rfl:v= .tuple #[]:=hv;have hx3:=Zj9 ht hy;have Y3:=Zaa (Y2.out.trans (Zan hy));have hs3:=hk3.size;have HR3:=Zaa hr3;have K3:=Zaa (K2.out.trans hk3);have Z3:=Zaa (Z2.out.keeps hk3 hg);have L3:=Zaa (L2.out.of (hk3.block _ (by omega) (by omega)));clear hk3 hr3 hy Y2 HR2 K2 Z2 L2;go_wp2_with fail
  refine(C2.out _ _ _ Z3.out HR3.out hx3).mono ?_;rintro e w4 ⟨hk4,⟨n,r,hy,hn,L,hL,rfl,hB⟩ | ⟨v,l,x4,r4,hy,rfl,⟨F,hR,hN⟩,hr4⟩⟩
  ·exact⟨rfl,K3.out.trans hk4,Or.inl ⟨n,r,Y3.out.trans (Zai hy),hn,L,by omega,rfl,hB⟩⟩
  obtain⟨p1,cc,rfl⟩:=Zag.form hR;have hs4:=hk4.size;obtain⟨y0,y1,sy⟩:=(L3.out.of (hk4.block _ (by omega) (by omega))).two;have R:=Zaa (Ycs (K3.out.trans hk4) (Ycs hr4 (Ycs (Y3.out.trans (Zan hy)) (Ycs hR hN))));clear hk4 hr4 hy Y3 HR3 K3 Z3 L3 hR hN;go_wp2_with fail
  refine bodyPost_ret (by simp[results,Tryz.results133,go_sem,y0,y1];try rfl) rfl ?_;obtain⟨hk,hr,hy,hR,hN⟩:=R.out;exact⟨hk.r2 lr,Or.inr ⟨_,⟨y.text,l⟩,x4,r4,hy,rfl,⟨[.string y.text,.slice p1 l.length cc],F,rfl,⟨_,rfl,hx.1,Zag.stable (Za3.stable (ty:=Zad) 4) _ _ _ _ _ hR fun j hj=>Zrr (by have:=hN.ge j hj;omega)⟩,hN.later (by omega) (by simp)⟩,hr.keepN (Zrr (by omega))⟩⟩
 ·have Y:=Zaa (show Zmw t x p= .error (2,x.at_)from if_neg hok);have GG:Zgs x.text=false\/Zgs x.text=true/\Zzc x.text=true:=by
   cases h1:Zgs x.text
   ·exact Or.inl rfl
   ·cases h2:Zzc x.text
    ·exact absurd ⟨h1,h2⟩ hok
    ·exact Or.inr ⟨rfl,rfl⟩
  have z2:=Z1.out.c2;have C2:=Zaa (Zbh a (n:=2) (by decide) HR1.out);clear hok;rcases GG with ga | ⟨ga,gb⟩
  case' inr=>rw[gb]at CK
  all_goals
   rw[ga];go_wp2_with (go_at_call 182;refine(CK.out _).mono ?_;rintro e w' ⟨rfl,rfl⟩)
   refine C2.out.mono ?_;rintro e w2 ⟨⟨L,hL,rfl,hB⟩,hb⟩;exact⟨rfl,K1.out.ofBelow hb,Or.inl ⟨2,_,Y.out,by decide,L,by omega,rfl,hB⟩⟩
theorem Zzg (Z:Zap a w)(h:Rd w b t p x)(hx:Zm0 x):
  Calls Tryz.prog 186 #[.pointer (some ⟨b,0,none⟩)] w (Zey a b t (Zk3 (Zbr Zad 4) w.heap.size) w (Zot t x p)):=by
 have hg:=h.2.2.2;have ht:=h.2.1;have hb:=h.1.lt;have CT:=Zaa (fun u q y (h1:Zap a u) (h2:Rd u b t q y) (h3:Zm0 y)=>Zop 3 (by omega) h1 h2 h3);rw[show((3 - 3:Nat):Int)=0 from rfl]at CT;obtain⟨O,hO⟩: ∃ O:Obj,O= .cells #[.int .i64 0,.int .i64 0,.int .i64 0,.string ⟨#[]⟩,.slice none 0 0,.int .i64 0,.int .i64 0,.string ⟨#[]⟩,.slice none 0 0] 105:=⟨_,rfl⟩;have L0:=Zaa (Blk.new w #[.int .i64 0,.int .i64 0,.int .i64 0,.string ⟨#[]⟩,.slice none 0 0,.int .i64 0,.int .i64 0,.string ⟨#[]⟩,.slice none 0 0] 105);have K0:=Zaa ((Zaf.refl b w).alloc O);have H0:=Zaa (h.alloc O);have Z0:=Zaa (Z.below ((Yct _ w).alloc lr O));have hs0:(w.alloc O).heap.size=w.heap.size+1:=by simp
 rw[<- hO]at L0;have CR:=Zaa (fun u q y (h2:Rd u b t q y)=>Zbh a (n:=2) (by decide) h2);have CK:=Zaa (fun u q y (h1:Zap a u) (h2:Rd u b t q y)=>Zc4 h1 h2);have CO:=Zaa (fun u (h1:Zap a u) s=>Zv7 h1 s);have Y:Box (Zot t x p=Zbf (Zdz t 3 x p) fun a x1 p1=>if opW x1.text=0 then .error (2,x1.at_)else Zbf (Zc0 t x1 p1) fun _ x2 p2=>Zbf (Zdz t 3 x2 p2) fun b x3 p3=> .ok (⟨opW x1.text,a,b⟩,x3,p3)):=⟨rfl⟩;clear Z h;go_enter Tryz.func186,Tryz.ntmps186
 go_wp2_with fail
 rw[<- hO];refine(CT.out _ _ _ Z0.out H0.out hx).mono ?_;rintro e w1 ⟨hk1,⟨n,r,hy,hn,L,hL,rfl,hB⟩ | ⟨v,z,x1,r1,hy,rfl,⟨vs,F,rfl,hQ,hN⟩,hr1⟩⟩
 ·exact⟨rfl,K0.out.trans hk1,Or.inl ⟨n,r,Y.out.trans (Zai hy),hn,L,by omega,rfl,hB⟩⟩
 obtain⟨p1,cc,rfl⟩:=Za3.vals hQ;have Y1:=Zaa (Y.out.trans (Zan hy));have hs1:=hk1.size;have QF:=Zaa (Ycs hQ hN);have LF:=Zaa (Blk.new w1 #[.int .i64 z.k,.int .i64 z.i,.string z.t,.slice p1 z.l.length cc] 103);have HR1:=Zaa (hr1.alloc (.cells #[.int .i64 z.k,.int .i64 z.i,.string z.t,.slice p1 z.l.length cc] 103));have K1:=Zaa ((K0.out.trans hk1).alloc (.cells #[.int .i64 z.k,.int .i64 z.i,.string z.t,.slice p1 z.l.length cc] 103));have Z1:=Zaa ((Z0.out.keeps hk1 hg).below ((Yct _ w1).alloc lr (.cells #[.int .i64 z.k,.int .i64 z.i,.string z.t,.slice p1 z.l.length cc] 103)));have L1:=Zaa ((L0.out.of (hk1.block _ (by omega) (by omega))).alloc (.cells #[.int .i64 z.k,.int .i64 z.i,.string z.t,.slice p1 z.l.length cc] 103));clear hk1 hr1 hy hQ hN Y K0 H0 Z0 L0 hO;obtain⟨c0,c1,c2,c3,c4,c5,c6,c7,sf⟩:=HR1.out.1.eight;go_wp2_with fail
 obtain⟨w2,hw2⟩: ∃ w2,w1.alloc (.cells #[.int .i64 z.k,.int .i64 z.i,.string z.t,.slice p1 z.l.length cc] 103)=w2:=⟨_,rfl⟩;have hs2:w2.heap.size=w1.heap.size+1:=by rw[<- hw2];simp
 have QF2:Box (Za3 Zad 4 w2 [.int .i64 z.k,.int .i64 z.i,.string z.t,.slice p1 z.l.length cc] z F):=⟨Za3.stable (ty:=Zad) 4 _ _ _ _ _ QF.out.1 fun j hj=>by rw[<- hw2];exact Ycx _ _ _ (QF.out.2.lt j hj)⟩;have NF2:=QF.out.2;rw[hw2]at LF HR1 K1 Z1 L1 c0 c1 c2 c3 c4 c5 c6 c7 sf⊢;clear hw2 QF;refine(CO.out _ Z1.out _).mono ?_;rintro e w' ⟨rfl,rfl⟩;have ol:=Yam x1.text;generalize opW x1.text=o at*;by_cases ho:o=0
 ·have Y2:=Zaa (Y1.out.trans (if_pos ho));have g1:((o:Int)==0)=true:=by rw[beq_iff_eq];omega
  have z2:=Z1.out.c2;clear ho;go_wp2_with fail
  refine(CR.out _ _ _ HR1.out).mono ?_;rintro e w3 ⟨⟨L,hL,rfl,hB⟩,hb⟩;exact⟨rfl,K1.out.ofBelow hb,Or.inl ⟨2,_,Y2.out,by decide,L,by omega,rfl,hB⟩⟩
 have Y2:=Zaa (Y1.out.trans (if_neg ho));have g1:((o:Int)==0)=false:=by rw[beq_eq_false_iff_ne];omega
 clear ho Y1;go_wp2_with fail
 refine(CK.out _ _ _ Z1.out HR1.out).mono ?_;rintro e w3 ⟨hk3,⟨n,r,hy,hn,L,hL,rfl,hB⟩ | ⟨v,y,x3,r3,hy,rfl,hv,hr3⟩⟩
 ·exact⟨rfl,K1.out.trans hk3,Or.inl ⟨n,r,Y2.out.trans (Zai hy),hn,L,by omega,rfl,hB⟩⟩
 obtain rfl:v=Zmm y:=hv;obtain⟨hx3,rfl⟩:=Zef ht hy;have Y3:=Zaa (Y2.out.trans (Zan hy));have hs3:=hk3.size;have HR3:=Zaa hr3;have K3:=Zaa (K1.out.trans hk3);have Z3:=Zaa (Z1.out.keeps hk3 hg);have L3:=Zaa (L1.out.of (hk3.block _ (by omega) (by omega)));have LF3:=Zaa (LF.out.of (hk3.block _ (by omega) (by omega)));have QF3:=Zaa (Za3.stable (ty:=Zad) 4 _ _ _ _ _ QF2.out fun j hj=>hk3.block j (by have:=NF2.lt j hj;omega) (by have:=NF2.ge j hj;omega));clear hk3 hr3 hy Y2 HR1 K1 Z1 L1 LF QF2 c0 c1 c2 c3 c4 c5 c6 c7 sf;obtain⟨f0,f1,f2,f3,sg⟩:=LF3.out.four;have ZD:=Zaa Z3.out.drew;have HD:=Zaa HR3.out.drew;have KD:=Zaa K3.out.drew;go_wp2_with fail
 go_region_with (go_at_call 213;refine(CT.out _ _ _ ZD.out HD.out hx3).mono ?_;rintro e w4 ⟨hk4,⟨n,r,hy,hn,L,hL,rfl,hB⟩ | ⟨v,z4,x4,r4,hy,rfl,⟨vs,F4,rfl,hQ,hN⟩,hr4⟩⟩;(exact⟨rfl,KD.out.trans hk4,Or.inl ⟨n,r,Y3.out.trans (Zai hy),hn,L,(by show _<=L;have:w3.heap.size<=L:=hL;omega),rfl,hB⟩⟩);have LF4:=LF3.out.of (w':=w4) (hk4.block _ (by show _ < w3.heap.size;omega) (by omega));obtain⟨e0,e1,e2,e3,-⟩:=LF4.four;obtain⟨p4,cc4,rfl⟩:=Za3.vals hQ;have LR:=L3.out.of (w':=w4) (hk4.block _ (by show _ < w3.heap.size;omega) (by omega));obtain⟨y0,y1,y2,y3,y4,y5,y6,y7,y8,sy⟩:=LR.nine)
 all_goals
  have hs4:w3.heap.size<=w4.heap.size:=hk4.size;have QF4:=Zaa (Za3.stable (ty:=Zad) 4 _ w4 _ _ _ QF3.out fun j hj=>hk4.block j (by show j < w3.heap.size;have:=NF2.lt j hj;omega) (by have:=NF2.ge j hj;omega));have R:=Zaa (Ycs (KD.out.trans hk4) (Ycs hr4 (Ycs (Y3.out.trans (Zan hy)) (Ycs hQ hN))));clear hk4 hr4 hy Y3 HR3 K3 Z3 L3 hQ hN f0 f1 f2 f3 sg QF3 LF3 e0 e1 e2 e3 LF4 ZD HD KD;go_wp2_with fail
  refine bodyPost_ret (by simp[results,Tryz.results186,go_sem,y0,y1,y2,y3,y4,y5,y6,y7,y8];try rfl) rfl ?_;obtain⟨hk,hr,hy,hQ,hN⟩:=R.out;have hN':Za9 w3.heap.size w4 F4:=hN;exact⟨hk.r9 lr,Or.inr ⟨_,⟨(o:Int),z,z4⟩,x4,r4,hy,rfl,⟨[.int .i64 (o:Int),.int .i64 z.k,.int .i64 z.i,.string z.t,.slice p1 z.l.length cc,.int .i64 z4.k,.int .i64 z4.i,.string z4.t,.slice p4 z4.l.length cc4],F++F4,rfl,⟨_,_,F,F4,rfl,⟨by show(-9223372036854775808:Int)<=(o:Int);omega,by show(o:Int)<=9223372036854775807;omega⟩,Za3.stable (ty:=Zad) 4 _ _ _ _ _ QF4.out fun j hj=>Zk8 (by have:=NF2.ge j hj;omega),Za3.stable (ty:=Zad) 4 _ _ _ _ _ hQ fun j hj=>Zk8 (by have:=hN'.ge j hj;omega),rfl⟩,(Za9.append (NF2.later (B':=w.heap.size) (w':=w1) (by omega) lr) hN' (by omega) (by omega) (by omega)).later lr (by simp)⟩,hr.keepN (Zk8 (by omega))⟩⟩
end Go.P
