import Derived.Test.YtgnakaplmhmdcaaGreatDoorW12
import Derived.Laws.Rows
import Derived.Laws.Tables
import Derived.Deep.DeepMust
set_option maxRecDepth 100000
set_option maxHeartbeats 8000000
open Go.Proofs Go.RowKit Go.W
namespace Go.W
variable {x:Bk}{t:By}
variable {ty:Tys} {d:Nat} {w:World} {vs:List Value} {F:List Nat}
def Zeo (ty:Tys) (d:Nat):Zgk (ByteArray×Bk):=fun w vs x F=> ∃ vb,vs= .string x.1::vb/\x.1.size < 1000000000/\Zba ty d w vb x.2 F
theorem Zba.vals (h:Zba ty d w vs x F): ∃ p c p' c' p2 c2,vs=[.slice p x.facts.length c,.slice p' x.rules.length c',.slice p2 x.checks.length c2]:=by
 obtain⟨fv,rv,cv,F1,F2,F3,rfl,h1,h2,h3,_⟩:=h;obtain⟨p,c,rfl⟩:=Zag.form h1;obtain⟨p',c',rfl⟩:=Zag.form h2;obtain⟨p2,c2,rfl⟩:=Zag.form h3;exact⟨p,c,p',c',p2,c2,rfl⟩
theorem Zeo.vals {x:ByteArray×Bk}(h:Zeo ty d w vs x F): ∃ p c p' c' p2 c2,vs=[.string x.1,.slice p x.2.facts.length c,.slice p' x.2.rules.length c',.slice p2 x.2.checks.length c2]:=by
 obtain⟨vb,rfl,_,h⟩:=h;obtain⟨p,c,p',c',p2,c2,rfl⟩:=Zba.vals h;exact⟨p,c,p',c',p2,c2,rfl⟩
theorem Zeo.stable (d:Nat):Zcx (Zeo ty d):=by
 intro w w' vs x F h k;obtain⟨vb,rfl,h1,h2⟩:=h;exact⟨vb,rfl,h1,Zba.stable d _ _ _ _ _ h2 k⟩
theorem Zeo.one {x:ByteArray×Bk}(h:Zeo ty d w vs x F): ∀ u,u∈vs->u.oneCell'=true:=by
 obtain⟨p,c,p',c',p2,c2,rfl⟩:=Zeo.vals h;intro u hu;simp at hu;rcases hu with rfl | rfl | rfl | rfl <;> rfl
structure Ch where
 sealed:Bool
 links:List (ByteArray×Bk)
 tag:List UInt8
def Zzk (t:By):De (ByteArray×Bk):=match Zc2 t with
 | .error e=>fun _=> .error e
 | .ok x=>fun r=> .ok ((ba t,x),r)
theorem Zvo {e:Int}(h:Zc2 t= .error e)(r:By):Zzk t r= .error e:=by unfold Zzk;rw[h]
theorem Zxv (h:Zc2 t= .ok x)(r:By):Zzk t r= .ok ((ba t,x),r):=by unfold Zzk;rw[h]
def Zne:De (ByteArray×Bk):=Zdm.then fun n=>if 4000 < n then fun _=> .error 4 else(Zfe n).then Zzk
def Zdc:By:=[119,114,116,49]
def Zu8 (s:Nat) (l:List (ByteArray×Bk)):De Ch:=if l.length=0 then fun _=> .error 7 else(Zfe 32).map fun t=>⟨s==1,l,t⟩
def Zqy (s:Nat):De Ch:=if 1 < s then fun _=> .error 7 else(Zbt 8 Zne).then (Zu8 s)
def Zd1:De Ch:=(Zfe 4).then fun m=>if m≠Zdc then fun _=> .error 7 else Zfx.then Zqy
end Go.W
namespace Go.P
theorem Z1s:(Tryz.prog.info? 114).map (fun i=>(i.zero,i.size,i.bytes))=some (some (.agg #[.string ⟨#[]⟩,.slice none 0 0,.slice none 0 0,.slice none 0 0]),4,88):=by kernel_rfl
theorem Zve:Zdp Tryz.prog 115 114 4 88:=by
 obtain⟨i0,hi,hz0,hz1,hz2⟩:=info_parts Z1s;exact⟨i0,_,Tryz.underlying115,hi,hz0,hz1,hz2,rfl,by decide,by decide⟩
theorem Zpb {K d:Nat}(hen:Zam K){first cap:Array Value}{f:De (ByteArray×Bk)}{a:Nat->Addr}{w:World}{b m:Nat}{l:By}(Z:Zap a w)(h:Dc w b l)(hm:m < 1000)
  (HC: ∀ u r,Zj2 a b w u r->Calls Tryz.prog K (first++cap) u (Zeq a b (Zk3 (Zeo Zad d) u.heap.size) u (f r))):
  Calls Tryz.prog 190 #[.pointer (some ⟨b,0,none⟩),.int .u64 (m:Int),.func (.func K) first cap] w (Zeq a b (Zj5 114 4 (Zeo Zad d) w.heap.size) w (Zbt m f l)):=by
 have C:=Zaa (Zc1 Z h);have HH:=Zaa HC;have hen': ∀ args w,(callFunc K args).run Tryz.prog w= .ok (.enter K args) w:=hen;have hgb:=h.2.2;have ZZ:=Zaa Z;have hblt:=h.1.lt;clear HC hen Z h;go_enter Tryz.func190,Tryz.ntmps190
 go_wp2_with fail
 refine C.out.mono ?_;rintro e w1 ⟨hk1,⟨i,hy,hi,rfl⟩ | ⟨n,r1,v,hy,rfl,⟨rfl,hn⟩,hd1⟩⟩
 ·exact⟨rfl,hk1,Or.inl ⟨i,De.then_error hy,hi,rfl⟩⟩
 have Y:=Zaa (De.then_ok (g:=fun n=>if m < n then fun _=>Except.error 4 else Ziz f n) hy);have D1:Box (Zj2 a b w w1 r1):=⟨hd1,hk1,ZZ.out.keeps hk1 hgb⟩;clear hk1 hd1 hy C;by_cases hlt:m < n
 ·have Y4:Box (Zbt m f l= .error 4):=⟨by rw[Zbt,Y.out,if_pos hlt]⟩;have g:(m:Int) < (n:Int):=by omega
  have z4:=D1.out.2.2.c4;have CR:=Zaa (Zbp a b w1 (n:=4) (by decide));clear HH Y;go_wp2_with fail
  refine CR.out.mono ?_;rintro e w2 ⟨rfl,rfl⟩;exact⟨rfl,D1.out.2.1,Or.inl ⟨4,Y4.out,by decide,rfl⟩⟩
 ·have Y4:Box (Zbt m f l=Ziz f n r1):=⟨by rw[Zbt,Y.out,if_neg hlt]⟩;have g: ¬ (m:Int) < (n:Int):=by omega
  clear Y;go_wp2_with fail
  go_loopw [8,18] (fun tv iv wr=>Zcs 114 4 (Zeo Zad d) f n (Zbt m f l) (Zj2 a b w) w tv iv wr) (fun _ iv _=>n - (intOf iv).toNat)
  case atStart=>exact⟨0,[],r1,[],none,0,by omega,rfl,rfl,rfl,Zag.nil,Za9.nil _ _,by rw[Y4.out];simp[De.map];cases Ziz f n r1 <;> rfl,D1.out⟩
  case round=>
   obtain⟨q,xs,r,F,p,c,hq,rfl,rfl,hxl,hR,hN,hY,hD⟩:=hrel;by_cases hqn:q < n
   ·have HR:=Zaa hR;have HN:=Zaa hN;have HY:=Zaa hY;have HD:=Zaa hD;have HX:=Zaa hxl;have CC:=Zaa (HH.out _ _ hD);have g2:(q:Int) < (n:Int):=by omega
    clear hR hN hY hD hxl HH;go_wp2_with fail
    refine CC.out.mono ?_;rintro e w2 ⟨hk2,⟨i,hy,hi,rfl⟩ | ⟨x,r2,v,hy,rfl,⟨vs,F2,rfl,hQ,hN2⟩,hd2⟩⟩
    ·exact⟨rfl,HD.out.2.1.trans hk2,Or.inl ⟨i,Zcs.stop hqn HY.out hy,hi,rfl⟩⟩
    obtain⟨p1,c1,p2,c2,p3,c3,rfl⟩:=Zeo.vals hQ;have NY:=Zaa (Zcs.step hqn HY.out hy);have D2:Box (Zj2 a b w w2 r2):=⟨hd2,HD.out.2.1.trans hk2,HD.out.2.2.keeps hk2 hgb⟩;have hs2:=hk2.size;have hsw:=HD.out.2.1.size;have bF:Box (∀ j,j∈F->j≠b):=⟨fun j hj=>by have:=HN.out.ge j hj;omega⟩;have HR2:Box (Zag 114 4 (Zeo Zad d) w2 (.slice p q c) xs F):=⟨Zag.stable (Zeo.stable (ty:=Zad) d) _ _ _ _ _ HR.out fun j hj=>hk2.block j (HN.out.lt j hj) (bF.out j hj)⟩;have HQ:=Zaa hQ;have HN2:Box (Za9 w.heap.size w2 F2):=⟨hN2.later (by omega) lr⟩;have HNF:Box (Za9 w.heap.size w2 F):=⟨HN.out.later lr (by omega)⟩;have HD':Box (∀ j,j∈F->j∉F2):=⟨fun j hj hj2=>by have:=HN.out.lt j hj;have:=hN2.ge j hj2;omega⟩;have hl1:xs.length < 100000000:=by rw[HX.out];omega
    clear hQ hN2 hk2 hd2 hy CC HR HY HN;go_wp2_with (at_builtin;go_must (refine Za7 Zve rfl (.tmp 20) (.tmp 23) rfl (Zeo.stable (ty:=Zad) d) (fun _ _ _ _ h=>Zeo.one h) w.heap.size (.slice p q c) xs F rfl (Zag.stable (Zeo.stable (ty:=Zad) d) _ _ _ _ _ HR2.out fun j hj=>Ycx _ _ _ (HNF.out.lt j hj)) w2.heap.size #[.string x.1,.slice p1 x.2.facts.length c1,.slice p2 x.2.rules.length c2,.slice p3 x.2.checks.length c3] 114 (0,0) x F2 rfl (Zas _ _) rfl (Zeo.stable (ty:=Zad) d _ _ _ _ _ HQ.out fun j hj=>Ycx _ _ _ (HN2.out.lt j hj)) hl1 (by simp;omega) (HNF.out.later lr (by simp)) (HN2.out.later lr (by simp)) HD'.out ?_);intro g3 cap3 w4 F3 happ)
    have R4:=happ.row;rw[HX.out]at R4;have hb4:w4.heap[b]?=w2.heap[b]?:=(happ.same b (by have:=D2.out.1.1.lt;simp;omega) (fun hj=>by have:=HNF.out.ge b hj;omega)).trans (Ycx _ _ _ D2.out.1.1.lt);have K4:=Zaf.appO happ (D2.out.2.1.alloc _) (fun j hj=>HNF.out.ge j hj);have D4:Box (Zj2 a b w w4 r2):=⟨D2.out.1.of hb4,K4,ZZ.out.keeps K4 hgb⟩;try rw[HX.out]
    go_roundw
    case rel=>exact⟨q+1,xs++[x],r2,F3,_,_,by omega,by go_num,rfl,by simp[HX.out],R4,happ.new,NY.out,D4.out⟩
    case measure=>simp[intOf];omega
   ·obtain rfl:q=n:=by omega
    have Y5:=Zaa (Zcs.done hY);have g2: ¬ (q:Int) < (q:Int):=by omega
    have H5:=Zaa (Ycs hR (Ycs hN hD));clear hR hN hY hD HH;go_wp2_with fail
    go_ret
    exact⟨H5.out.2.2.2.1,Or.inr ⟨xs,r,_,Y5.out,rfl,⟨F,H5.out.1,H5.out.2.1⟩,H5.out.2.2.1⟩⟩
end Go.P
namespace Go.W
def Zq3 (m:Nat) (x:Int):Int:=bits .or .u32 (x*2 ^ m % 4294967296) (x / 2 ^ (32 - m))
def Z1d (hs:Nat->Int) (i:Nat):Nat->Int
 | 0=>0
 | j+1=>bits .or .u32 (Z1d hs i j*256 % 4294967296) (hs (4*i+j) % 4294967296)
def Z7p (hs:Nat->Int) (i j k:Nat):Int:=if k < i then Z1d hs k 4 else if k=i then Z1d hs i j else 0
def Yb6 (x:Int):Int:=bits .xor .u32 (bits .xor .u32 (Zq3 25 x) (Zq3 14 x)) (x / 8)
def Ya5 (x:Int):Int:=bits .xor .u32 (bits .xor .u32 (Zq3 15 x) (Zq3 13 x)) (x / 1024)
def Za8 (hs:Nat->Int):Nat->Nat->Int
 | 0,k=>Z7p hs 16 0 k
 | n+1,k=>if k=16+n then(Za8 hs n n+Yb6 (Za8 hs n (n+1))+Za8 hs n (9+n)+Ya5 (Za8 hs n (14+n))) % 4294967296 else Za8 hs n k
end Go.W
namespace Go.P
variable {w:World}{L n k b o:Nat}{e:TypeId}{f g:Nat->Int}{v:Value}
theorem Zgf (x z:Int)(m:Nat)(hz:bits .and .u64 (IntKind.u64.wrap z) 31=(m:Int))(h0:0 < m)(h1:m < 32)(w:World):Calls Tryz.prog 216 #[.int .u32 x,.int .i64 z] w fun e w'=>e= .returned (.int .u32 (Zq3 m x))/\w'=w:=by
 go_enter Tryz.func216,Tryz.ntmps216
 go_wp2_with fail
 go_ret
 exact⟨rfl,rfl⟩
def Zeb (w:World) (L:Nat) (e:TypeId) (n:Nat) (f:Nat->Int):Prop:= ∃ vs:Array Value,Blk w L vs e/\vs.size=n/\ ∀ k,k < n->vs[k]?=some (.int .u32 (f k))
def Zng (w:World) (L:Nat) (e:TypeId) (n:Nat) (f:Nat->Int):Prop:= ∃ vs:Array Value,Blk w L vs e/\vs.size=n/\ ∀ k,k < n->vs[k]?=some (.int .u8 (f k))
theorem Zeb.cell (h:Zeb w L e n f)(hk:k < n):w.cell? ⟨L,k,none⟩=some (.int .u32 (f k)):=by
 obtain⟨vs,hb,_,hv⟩:=h;rw[hb.cell,hv k hk]
theorem Zeb.soft (h:Zeb w L e n f)(k:Nat):w.frozen? ⟨L,k,none⟩=false:=by
 obtain⟨vs,hb,_,hv⟩:=h;exact hb.soft k
theorem Zng.cell (h:Zng w L e n f)(hk:k < n):w.cell? ⟨L,k,none⟩=some (.int .u8 (f k)):=by
 obtain⟨vs,hb,_,hv⟩:=h;rw[hb.cell,hv k hk]
theorem Zeb.set (h:Zeb w L e n f){x:Int}(hg: ∀ j,j < n->g j=if j=k then x else f j):Zeb (w.setCell ⟨L,k,none⟩ (.int .u32 x)) L e n g:=by
 obtain⟨vs,hb,hs,hv⟩:=h;refine⟨_,hb.set k _,by simp[hs],fun j hj=>?_⟩;rw[Ycv,hg j hj];by_cases hjk:j=k
 ·subst hjk;simp[hs,hj]
 ·rw[if_neg (fun z=>hjk z.symm),if_neg hjk,hv j hj]
theorem Zng.away (h:Zng w L e n f)(hne:L≠b):Zng (w.setCell ⟨b,o,none⟩ v) L e n f:=by
 obtain⟨vs,hb,r⟩:=h;exact⟨vs,hb.away b o hne v,r⟩
def Z9b (wr:World) (L:Nat) (e:TypeId) (n:Nat):Prop:= ∃ old:Array Value,Blk wr L old e/\old.size=n
theorem Z9b.away (h:Z9b w L e n)(hne:L≠b):Z9b (w.setCell ⟨b,o,none⟩ v) L e n:=by
 obtain⟨vs,hb,r⟩:=h;exact⟨vs,hb.away b o hne v,r⟩
theorem Zeb.congr (h:Zeb w L e n f)(hg: ∀ k,k < n->g k=f k):Zeb w L e n g:=by
 obtain⟨vs,hb,hs,hv⟩:=h;exact⟨vs,hb,hs,fun k hk=>by rw[hv k hk,hg k hk]⟩
def Zcz:Array Value:=#[.int .u32 0,.int .u32 0,.int .u32 0,.int .u32 0,.int .u32 0,.int .u32 0,.int .u32 0,.int .u32 0,.int .u32 0,.int .u32 0,.int .u32 0,.int .u32 0,.int .u32 0,.int .u32 0,.int .u32 0,.int .u32 0,.int .u32 0,.int .u32 0,.int .u32 0,.int .u32 0,.int .u32 0,.int .u32 0,.int .u32 0,.int .u32 0,.int .u32 0,.int .u32 0,.int .u32 0,.int .u32 0,.int .u32 0,.int .u32 0,.int .u32 0,.int .u32 0,.int .u32 0,.int .u32 0,.int .u32 0,.int .u32 0,.int .u32 0,.int .u32 0,.int .u32 0,.int .u32 0,.int .u32 0,.int .u32 0,.int .u32 0,.int .u32 0,.int .u32 0,.int .u32 0,.int .u32 0,.int .u32 0,.int .u32 0,.int .u32 0,.int .u32 0,.int .u32 0,.int .u32 0,.int .u32 0,.int .u32 0,.int .u32 0,.int .u32 0,.int .u32 0,.int .u32 0,.int .u32 0,.int .u32 0,.int .u32 0,.int .u32 0,.int .u32 0]
theorem Z5w (k:Nat)(hk:k < 64):Zcz[k]?=some (.int .u32 0):=by
 have e:Zcz=Array.replicate 64 (.int .u32 0):=by kernel_rfl
 rw[e];simp[hk]
def Z6x (w:World) (hs:Nat->Int) (iv:Value) (wr:World):Prop:= ∃ i:Nat,i<=16/\iv= .int .i64 (i:Int)/\Below w.heap.size w wr/\Z9b wr (w.heap.size+1) 303 64/\Zng wr w.heap.size 181 64 hs/\Zeb wr (w.heap.size+1+1) 303 64 (Z7p hs i 0)
def Z67 (w:World) (hs:Nat->Int) (i:Nat) (jv:Value) (wr:World):Prop:= ∃ j:Nat,j<=4/\jv= .int .i64 (j:Int)/\Below w.heap.size w wr/\Z9b wr (w.heap.size+1) 303 64/\Zng wr w.heap.size 181 64 hs/\Zeb wr (w.heap.size+1+1) 303 64 (Z7p hs i j)
def Z5s (w:World) (hs:Nat->Int) (iv:Value) (wr:World):Prop:= ∃ m:Nat,16<=m/\m<=64/\iv= .int .i64 (m:Int)/\Below w.heap.size w wr/\Z9b wr (w.heap.size+1) 303 64/\Zeb wr (w.heap.size+1+1) 303 64 (Za8 hs (m - 16))
theorem Zwf (v:Array Value)(hs:Nat->Int)(w:World)(h64:v.size=64)(hv: ∀ k,k < 64->v[k]?=some (.int .u8 (hs k))):Calls Tryz.prog 215 #[.agg v] w fun e w'=>Below w.heap.size w w'/\ ∃ vs:Array Value,e= .returned (.agg vs)/\vs.size=64/\ ∀ k,k < 64->vs[k]?=some (.int .u32 (Za8 hs 48 k)):=by
 go_enter Tryz.func215,Tryz.ntmps215
 go_wp2_with fail
 go_loopw [9] (fun iv wr=>Z6x w hs iv wr) (fun iv _=>16 - (intOf iv).toNat)
 case atStart=>
  have e8:Blk ((w.alloc (.cells v 181)).alloc (.cells Zcz 303)) w.heap.size v 181:=(Blk.new w v _).alloc _;have er:Blk ((w.alloc (.cells v 181)).alloc (.cells Zcz 303)) (w.heap.size+1) Zcz 303:=by
   have:=Blk.new (w.alloc (.cells v 181)) Zcz 303
   simp only[Yc4]at this;exact this
  have ep:Blk (((w.alloc (.cells v 181)).alloc (.cells Zcz 303)).alloc (.cells Zcz 303)) (w.heap.size+1+1) Zcz 303:=by
   have:=Blk.new ((w.alloc (.cells v 181)).alloc (.cells Zcz 303)) Zcz 303
   simp only[Yc4]at this;exact this
  refine⟨0,by omega,rfl,(((Yct w.heap.size w).alloc lr _).alloc (by simp) _).alloc (by simp;omega) _,⟨Zcz,er.alloc _,rfl⟩,⟨v,e8.alloc _,h64,hv⟩,⟨Zcz,ep,rfl,fun k hk=>?_⟩⟩;rw[Z5w k hk];unfold Z7p;rw[if_neg (by omega)];split
  ·rename_i h0;subst h0;rfl
  ·rfl
 case round=>
  obtain⟨i,hi,rfl,hb,hro,h8,h32⟩:=hrel;by_cases hlt:i < 16
  ·have g:(i:Int) < 16:=by omega
   go_wp2_with fail
   go_loopw [12] (fun jv wq=>Z67 w hs i jv wq) (fun jv _=>4 - (intOf jv).toNat)
   case atStart=>exact⟨0,by omega,rfl,hb,hro,h8,h32⟩
   case round=>
    clear hb hro h8 h32;obtain⟨j,hj,rfl,hb,hro,h8,h32⟩:=hrel;by_cases hlj:j < 4
    ·have g2:(j:Int) < 4:=by omega
     have c8:=h8.cell (k:=4*i+j) (by omega);have c32:=h32.cell (k:=i) (by omega);have sf:=h32.soft;go_wp2_with fail
     have hw:Z7p hs i j i=Z1d hs i j:=by unfold Z7p;rw[if_neg (by omega),if_pos rfl]
     rw[hw]at c32;have H:=Zaa (Ycs hb (Ycs h8 h32));have HO:=Zaa hro;clear hb hro h8 h32 hw;generalize hx:Z1d hs i j=x at*;go_region
     go_wp2_with fail
     go_roundw
     case rel=>exact⟨j+1,by omega,by simp,((H.out.1.setCell (by show _<=w.heap.size+1+1;omega) _).drew),HO.out.away (by omega),H.out.2.1.away (by omega),H.out.2.2.set fun k hk=>by
      unfold Z7p;by_cases hki:k=i
      ·subst hki;rw[if_pos rfl,if_neg (by omega),if_pos rfl,Z1d,hx]
      ·rw[if_neg hki,if_neg hki,if_neg hki]⟩
     case measure=>simp[intOf];omega
    ·obtain rfl:j=4:=by omega
     go_wp2_with fail
     go_roundw
     case rel=>exact⟨i+1,by omega,by simp,hb,hro,h8,h32.congr fun k hk=>by
      unfold Z7p;by_cases hk1:k < i
      ·rw[if_pos hk1,if_pos (by omega)]
      ·by_cases hk2:k=i
       ·subst hk2;rw[if_neg hk1,if_pos rfl,if_pos (by omega)]
       ·rw[if_neg hk1,if_neg hk2,if_neg (by omega)];split <;> rfl⟩
     case measure=>simp[intOf];omega
  ·obtain rfl:i=16:=by omega
   have H:=Zaa (Ycs hb (Ycs h8 h32));have HO:=Zaa hro;clear hb hro h8 h32;go_wp2_with fail
   go_loopw [6] (fun iv wq=>Z5s w hs iv wq) (fun iv _=>64 - (intOf iv).toNat)
   case atStart=>exact⟨16,by omega,by omega,rfl,H.out.1,HO.out,H.out.2.2.congr fun k hk=>rfl⟩
   case round=>
    clear H HO;obtain⟨m,hn0,hn,rfl,hb,hro,h32⟩:=hrel;by_cases hln:m < 64
    ·have g2:(m:Int) < 64:=by omega
     have c1:=h32.cell (k:=m - 15) (by omega);have c2:=h32.cell (k:=m - 2) (by omega);have c3:=h32.cell (k:=m - 16) (by omega);have c4:=h32.cell (k:=m - 7) (by omega);have c5:=h32.cell (k:=m) (by omega);have sf:=h32.soft;have PS:Box (∀ j,Za8 hs (m - 16+1) j=if j=m then(Za8 hs (m - 16) (m - 16)+Yb6 (Za8 hs (m - 16) (m - 15))+Za8 hs (m - 16) (m - 7)+Ya5 (Za8 hs (m - 16) (m - 2))) % 4294967296 else Za8 hs (m - 16) j):=⟨fun j=>by
      rw[Za8,show 16+(m - 16)=m by omega,show m - 16+1=m - 15 by omega,show 9+(m - 16)=m - 7 by omega,show 14+(m - 16)=m - 2 by omega]⟩
     have HB:=Zaa hb;have HO:=Zaa hro;have H32:=Zaa h32;clear hb hro h32;generalize Za8 hs (m - 16) (m - 15)=x1 at*;generalize Za8 hs (m - 16) (m - 2)=x2 at*;generalize Za8 hs (m - 16) (m - 16)=x3 at*;generalize Za8 hs (m - 16) (m - 7)=x4 at*;have R:=Zaa (fun(x:Int) u=>Ycs (Zgf x (-7) 25 (by decide) (by decide) (by decide) u) (Ycs (Zgf x (-18) 14 (by decide) (by decide) (by decide) u) (Ycs (Zgf x (-17) 15 (by decide) (by decide) (by decide) u) (Zgf x (-19) 13 (by decide) (by decide) (by decide) u))));go_wp2_with fail
     go_quiet (fail)
     go_wp2_with fail
     refine(R.out _ _).1.mono ?_;rintro e w' ⟨rfl,rfl⟩;go_wp2_with fail
     refine(R.out _ _).2.1.mono ?_;rintro e w' ⟨rfl,rfl⟩;go_wp2_with fail
     refine(R.out _ _).2.2.1.mono ?_;rintro e w' ⟨rfl,rfl⟩;go_wp2_with fail
     refine(R.out _ _).2.2.2.mono ?_;rintro e w' ⟨rfl,rfl⟩;go_wp2_with fail
     go_region
     all_goals go_wp2_with fail
     refine⟨?_,by simp[intOf];omega⟩
     repeat' first | (refine⟨?_,rfl⟩;exact⟨m+1,by omega,by omega,by simp,(Zb2 HB.out).setCell (p:=⟨w.heap.size+1+1,m,none⟩) (by show _<=w.heap.size+1+1;omega) _,Z9b.away (w:=wr.drewN _) HO.out (by omega),by rw[show m+1 - 16=m - 16+1 by omega];exact Zeb.set (w:=wr.drewN _) H32.out fun j hj=>PS.out j⟩) | apply Exists.intro
    ·obtain rfl:m=64:=by omega
     have HB:=Zaa hb;have H32:=Zaa h32;obtain⟨vs,hbl,hsz,hvs⟩:=h32;obtain⟨old,hol,hos⟩:=hro;have h64i:(Tryz.prog.info? 303).map (·.size)=some vs.size:=by rw[hsz];kernel_rfl
     have hone:vs.all (·.oneCell')=true:=by
      rw[Array.all_eq_true];intro q hq
      have:=hvs q (by omega)
      rw[Array.getElem?_eq_getElem hq,Option.some.injEq]at this;rw[this];rfl
     clear hb;go_wp2_with (first
      | (refine wpList_load_row rfl 303 (.tmp 3) rfl (w.heap.size+1+1) rfl 303 vs (0,0) _ hbl Tryz.underlying303 rfl h64i ?_)
      | (refine wpList_store_row rfl 303 (.tmp 2) (.tmp 74) rfl (w.heap.size+1) vs rfl rfl 303 old hol h64i (by omega) hone ?_))
     refine bodyPost_ret (results_cell_row (p:=2) (ty:=303) rfl _ _ (w.heap.size+1) 303 vs (0,0) _ rfl (setRow_heap wr _ old vs _ _ hol) Tryz.underlying303 rfl h64i) rfl ?_;refine⟨⟨HB.out.os,HB.out.tape,HB.out.output,by rw[setRow_size];exact HB.out.size,fun j hj=>(setRow_other wr _ j vs (by omega)).trans (HB.out.block j hj)⟩,vs,rfl,hsz,hvs⟩
end Go.P
