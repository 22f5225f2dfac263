import Derived.Test.YtaoiihbjdonaoaaGreatDoorW18
import Derived.SizedLaws
import Derived.ChangeArms
import Derived.ChangeOld
import Derived.KernelRfl
import Derived.RowKit
set_option linter.defProp false
set_option maxRecDepth 100000
set_option maxHeartbeats 8000000
set_option linter.unusedSimpArgs false
open Go.Proofs Go.RowKit Go.W Tryz
namespace Go.W
variable {w:World}{vs:List Value}{F:List Nat}
def Rt (W0:World) (D:Nat):Du Bk:=fun _ vs x F=>F=[]/\EZ W0.heap.size W0 D vs x
def Rt.stable (W0:World)(D:Nat):Ii (Rt W0 D):=fun _ _ _ _ _ h _=>h
def Rt.one {W0:World}{D:Nat}{x:Bk}(h:Rt W0 D w vs x F): ∀ u,u∈vs->u.oneCell'=true:=by
 obtain⟨_,p,c,p',c',p2,c2,rfl,_⟩:=h;intro u hu;simp at hu;rcases hu with rfl | rfl | rfl <;> rfl
def Yhq (W0:World) (b o:Nat) (y:ByteArray×Bk):Prop:=b<W0.heap.size/\y.1.size<1000000000/\ ∃ p c p' c' p2 c2,W0.cell? (zm b o)=some (.string y.1)/\W0.cell? (zm b (o+1))=some (.slice p y.2.facts.length c)/\W0.cell? (zm b (o+2))=some (.slice p' y.2.rules.length c')/\W0.cell? (zm b (o+3))=some (.slice p2 y.2.checks.length c2)/\EZ W0.heap.size W0 3 [.slice p y.2.facts.length c,.slice p' y.2.rules.length c',.slice p2 y.2.checks.length c2] y.2
def GD:Du ByteArray:=fun _ vs x F=>F=[]/\vs=[.string x]
def GD.stable:Ii GD:=fun _ _ _ _ _ h _=>h
def GD.one {x:ByteArray}(h:GD w vs x F): ∀ u,u∈vs->u.oneCell'=true:=by
 obtain⟨_,rfl⟩:=h;intro u hu;simp at hu;subst hu;rfl
end Go.W
namespace Go.P
variable {e:TypeId}{w:World}{v:Value}{xs:List (ByteArray×Bk)}{F:List Nat}
def Z2z (h:AQ e 4 (Iu AV 4) w v xs F)(hF: ∀ k,k∈F->k<w.heap.size):Qi 4 (Yhq w) v xs:=h.rowOf hF fun b o vs x G hc hb hG hq=>by
 obtain⟨vb,rfl,hx,uH⟩:=hq;have hS:=Dx.toS uH hG;obtain⟨p,c,p',c',p2,c2,rfl⟩:=Dx.vals uH;exact⟨hb,hx,p,c,p',c',p2,c2,hc 0 zx,hc 1 zx,hc 2 zx,hc 3 zx,hS⟩
def Ztt {u:World}{p:Option Addr}(h:Ap 4 (Yhq w) p xs)(hb:Bl w u):Ap 4 (Uh w.heap.size u) p (xs.map (·.1)):=⟨by simpa using h.len,fun i x hx=>by
 rw[FK]at hx;obtain⟨y,hy,rfl⟩:=QP.1 hx;obtain⟨b,o,hp,hl,hs,p1,c1,p2,c2,p3,c3,k0,k1,k2,k3,_⟩:=h.at_ i y hy;have cc:=fun o=>hb.cell (p:=(zm b o)) hl;exact⟨b,o,hp,hl,hs,p1,_,c1,p2,_,c2,p3,_,c3,(cc _).trans k0,(cc _).trans k1,(cc _).trans k2,(cc _).trans k3⟩⟩
def Zug (T0:List UInt8)(ts:List ByteArray):(T0::Ju T0 ts)[ts.length]?=some (JF T0 ts):=by
 cases ts with
 | nil=>rfl
 | cons z zs=>
  rw[DU,List.getElem?_cons_succ,Zru _ _ _ zw];rw[U0 zw]
def Yay {xs:List (List UInt8)}(h:AQ e 32 Tn w v xs F)(hF: ∀ k,k∈F->k<w.heap.size):Qi 32 (fun b o x=>b<w.heap.size/\x.length=32/\w.rangeAt b o (Lib.byteCells x)) v xs:=h.rowOf hF fun b o vs x G hc hb hG hq=>by
 obtain⟨_,hx,rfl⟩:=hq;refine⟨hb,hx,fun j u hj=>?_⟩;have hl:j<32:=by have:=(DW.1 hj).1;rw[Lib.byteCells_length,hx]at this;exact this
 exact(hc j hl).trans hj
def Yci:(prog.info? 33).map (fun i=>(i.zero,i.size,i.bytes))=some (some<|.agg #[zn,zn,zn],3,72):=zt
def Zu7:J3 prog 34 33 3 72:=by
 obtain⟨i0,hi,hz0,hz1,hz2⟩:=info_parts Yci;exact⟨i0,_,underlying34,hi,hz0,hz1,hz2,rfl,zu,zu⟩
def gB:J3 prog 36 9 1 16:=by
 obtain⟨i0,hi,hz0,hz1,hz2⟩:=info_parts Zvo;exact⟨i0,_,underlying36,hi,hz0,hz1,hz2,rfl,zu,zu⟩
def Zjx {L off:Nat}{xs:List UInt8}(h:w.rangeAt L off (Lib.byteCells xs))(n:Nat)(hn:n=xs.length){cap:Nat}:
  (convert 115 9<|.slice (Qb L off) n cap).run prog w= .ok (.string ⟨xs.toArray⟩) w:=by
 subst hn;refine xD (P:=prog) w 115 9 5 (zm L off) cap xs underlying115 underlying5 underlying9 fun j hj=>?_;have e1:((zm L off):Addr).add j=(zm L (off+j)):=Addr.add_lit _ _ _;rw[e1];exact h j _ (by simp[Lib.byteCells,A8 hj])
def Yh3 (w2 w5:World) (xs:List Bk) (ids:List ByteArray) (iv bv dv:Value) (wr:World):Prop:= ∃ (k:Nat) (F1 F2:List Nat),k<=xs.length/\iv= zo (k:Int)/\AQ 33 3 (Rt w2 3) wr bv (xs.take k) F1/\AQ 9 1 GD wr dv (ids.take k) F2/\Ag w5.heap.size wr F1/\Ag w5.heap.size wr F2/\(∀ j,j∈F1->j∉F2)/\Bl w5 wr
end Go.P
namespace Go.W
variable {w:World}{F:List Nat}
def SL:Du (Int×Int×ByteArray):=fun _ vs x F=>F=[]/\vs=[zo x.1,zo x.2.1,.string x.2.2]
def SL.stable:Ii SL:=fun _ _ _ _ _ h _=>h
def SL.one {vs:List Value}{x:Int×Int×ByteArray}(h:SL w vs x F): ∀ u,u∈vs->u.oneCell'=true:=by
 obtain⟨_,rfl⟩:=h;intro u hu;simp at hu;rcases hu with rfl | rfl | rfl <;> rfl
def O7.put {α:Type}{e:TypeId}{s:Nat}{Q:Du α}(hQ:Ii Q){L:Nat}(j:Nat){u w1:World}{cs:Array Value}{t:TypeId}{xs:List α}{G F':List Nat}{y:α}{g cap:Nat}{O:List Nat}(AM:O7 e s Q (L+1) w w1 xs F G y g cap F')(hL:AO u L cs t)(hb:Bl u w)(hF: ∀ k,k∈F->L<k)(hG: ∀ k,k∈G->u.heap.size<=k)(hO: ∀ k,k∈O->L<k/\k<u.heap.size/\k∉F):
  AQ e s Q (w1.setCell (zm L j)<|.slice (Qb g 0) (xs.length+1) cap) (.slice (Qb g 0) (xs.length+1) cap) (xs++[y]) F'/\Ag (L+1) (w1.setCell (zm L j)<|.slice (Qb g 0) (xs.length+1) cap) F'/\(∀ k,k∈O->k∉F')/\(∀ k,k∈O->(w1.setCell (zm L j)<|.slice (Qb g 0) (xs.length+1) cap).heap[k]?=u.heap[k]?)/\AO (w1.setCell (zm L j)<|.slice (Qb g 0) (xs.length+1) cap) L (cs.setIfInBounds j<|.slice (Qb g 0) (xs.length+1) cap) t/\Below L u (w1.setCell (zm L j)<|.slice (Qb g 0) (xs.length+1) cap):=by
 have hl:=hL.lt;have hs:=hb.size;have H8: ∀ k,k<u.heap.size->k∉F->w1.heap[k]?=u.heap[k]?:=fun k hk hf=>(AM.same k zx hf).trans (hb.block k hk);have Na:Below L u w1:=⟨AM.os.trans hb.os,AM.tape.trans hb.tape,AM.output.trans hb.output,Ab hs AM.size,fun k hk=>H8 k zx fun hf=>by have:=hF k hf;omega⟩;have hne: ∀ k,L<k-> ∀ v:Value,(w1.setCell (zm L j) v).heap[k]?=w1.heap[k]?:=fun k hk v=>Aw w1 (zm L j) v k (by show k≠L;omega);have Io:=Na.setCell (p:=(zm L j)) (EO L)<|.slice (Qb g 0) (xs.length+1) cap;refine⟨AQ.stable hQ _ _ _ _ _ AM.row fun k hk=>hne k (AM.new.ge k hk) _,AM.new.later lr zw,fun k hk hf=>?_,fun k hk=>(hne k (hO k hk).1 _).trans (H8 k (hO k hk).2.1 (hO k hk).2.2),(hL.of (H8 L hl fun hf=>by have:=hF L hf;omega)).set j _,Io⟩;have h1:=hO k hk;rcases AM.sub k hf with h | h | h
 ·exact h1.2.2 h
 ·have:=hG k h;omega
 ·omega
end Go.W
namespace Go.P
variable {x:ByteArray}
structure JP (L:Nat) (u:World) (vb vp vk vc vy vr vd:Value) (bs:List Bk) (ys rs:List ByteArray) (ds:List (Int×Int×ByteArray)) (ps:List Dk) (Fb Fy Fr Fd Fp:List Nat):Prop where
 blk:AO u L #[vb,vp,vk,vc,vy,vr,vd] 38
 rb:AQ 33 3 (Dx AV 4) u vb bs Fb
 ry:AQ 9 1 GD u vy ys Fy
 rr:AQ 9 1 GD u vr rs Fr
 rd:AQ 60 3 SL u vd ds Fd
 nb:Ag (L+1) u Fb
 ny:Ag (L+1) u Fy
 nr:Ag (L+1) u Fr
 nd:Ag (L+1) u Fd
 ib: ∀ k,k∈Fb->k∉Fy/\k∉Fr/\k∉Fd
 iy: ∀ k,k∈Fy->k∉Fr/\k∉Fd
 ir: ∀ k,k∈Fr->k∉Fd
 rp:AQ 148 2 (DY AV 4) u vp ps Fp
 np:Ag (L+1) u Fp
 ip: ∀ k,k∈Fp->k∉Fb/\k∉Fy/\k∉Fr/\k∉Fd
section
variable {L:Nat} {u w:World} {vb vp vk vc vy vr vd:Value} {bs:List Bk} {ys rs:List ByteArray} {ds:List (Int×Int×ByteArray)} {ps:List Dk} {Fb Fy Fr Fd Fp:List Nat}
def JP.later (h:JP L u vb vp vk vc vy vr vd bs ys rs ds ps Fb Fy Fr Fd Fp)(hb:Bl u w):JP L w vb vp vk vc vy vr vd bs ys rs ds ps Fb Fy Fr Fd Fp:=
 ⟨h.blk.of<|hb.block _ h.blk.lt,AQ.stable (Dx.stable (ty:=AV) 4) _ _ _ _ _ h.rb fun k hk=>hb.block k (h.nb.lt k hk),AQ.stable GD.stable _ _ _ _ _ h.ry fun k hk=>hb.block k (h.ny.lt k hk),AQ.stable GD.stable _ _ _ _ _ h.rr fun k hk=>hb.block k (h.nr.lt k hk),AQ.stable SL.stable _ _ _ _ _ h.rd fun k hk=>hb.block k (h.nd.lt k hk),h.nb.later lr hb.size,h.ny.later lr hb.size,h.nr.later lr hb.size,h.nd.later lr hb.size,h.ib,h.iy,h.ir,AQ.stable (DY.stable (ty:=AV) 4) _ _ _ _ _ h.rp fun k hk=>hb.block k (h.np.lt k hk),h.np.later lr hb.size,h.ip⟩
def JP.set (h:JP L u vb vp vk vc vy vr vd bs ys rs ds ps Fb Fy Fr Fd Fp)(j:Nat)(v:Value){vk' vc':Value}(he:(#[vb,vp,vk,vc,vy,vr,vd]:Array Value).setIfInBounds j v=#[vb,vp,vk',vc',vy,vr,vd]):JP L (u.setCell (zm L j) v) vb vp vk' vc' vy vr vd bs ys rs ds ps Fb Fy Fr Fd Fp:=by
 have hne: ∀ k,L<k->(u.setCell (zm L j) v).heap[k]?=u.heap[k]?:=fun k hk=>Aw u (zm L j) v k (by show k≠L;omega);have hs:u.heap.size<=(u.setCell (zm L j) v).heap.size:=zw
 exact⟨he▸h.blk.set j v,AQ.stable (Dx.stable (ty:=AV) 4) _ _ _ _ _ h.rb fun k hk=>hne k (h.nb.ge k hk),AQ.stable GD.stable _ _ _ _ _ h.ry fun k hk=>hne k (h.ny.ge k hk),AQ.stable GD.stable _ _ _ _ _ h.rr fun k hk=>hne k (h.nr.ge k hk),AQ.stable SL.stable _ _ _ _ _ h.rd fun k hk=>hne k (h.nd.ge k hk),h.nb.later lr hs,h.ny.later lr hs,h.nr.later lr hs,h.nd.later lr hs,h.ib,h.iy,h.ir,AQ.stable (DY.stable (ty:=AV) 4) _ _ _ _ _ h.rp fun k hk=>hne k (h.np.ge k hk),h.np.later lr hs,h.ip⟩
def JP.xy (h:JP L u vb vp vk vc vy vr vd bs ys rs ds ps Fb Fy Fr Fd Fp){N:Nat}{v:Value}{l:List Dk}{F:List Nat}(hr:AQ 148 2 (DY AV 4) u v l F)(hF:Ag N u F)(hN:L+1<=N)(hi: ∀ k,k∈F->k∉Fb/\k∉Fy/\k∉Fr/\k∉Fd):JP L (u.setCell (zm L 1) v) vb v vk vc vy vr vd bs ys rs ds l Fb Fy Fr Fd F:=by
 have hne: ∀ k,L<k->(u.setCell (zm L 1) v).heap[k]?=u.heap[k]?:=fun k hk=>Aw u (zm L 1) v k (by show k≠L;omega);have hs:u.heap.size<=(u.setCell (zm L 1) v).heap.size:=zw
 exact⟨h.blk.set 1 v,AQ.stable (Dx.stable (ty:=AV) 4) _ _ _ _ _ h.rb fun k hk=>hne k (h.nb.ge k hk),AQ.stable GD.stable _ _ _ _ _ h.ry fun k hk=>hne k (h.ny.ge k hk),AQ.stable GD.stable _ _ _ _ _ h.rr fun k hk=>hne k (h.nr.ge k hk),AQ.stable SL.stable _ _ _ _ _ h.rd fun k hk=>hne k (h.nd.ge k hk),h.nb.later lr hs,h.ny.later lr hs,h.nr.later lr hs,h.nd.later lr hs,h.ib,h.iy,h.ir,AQ.stable (DY.stable (ty:=AV) 4) _ _ _ _ _ hr fun k hk=>hne k (by have:=hF.ge k hk;omega),hF.later hN hs,hi⟩
variable {w1:World} {G F':List Nat} {g cap:Nat}
def JP.appB (h:JP L u vb vp vk vc vy vr vd bs ys rs ds ps Fb Fy Fr Fd Fp){x:Bk}(hb:Bl u w)(hG: ∀ k,k∈G->u.heap.size<=k)(AM:O7 33 3 (Dx AV 4) (L+1) w w1 bs Fb G x g cap F'):JP L (w1.setCell (zm L 0)<|.slice (Qb g 0) (bs.length+1) cap) (.slice (Qb g 0) (bs.length+1) cap) vp vk vc vy vr vd (bs++[x]) ys rs ds ps F' Fy Fr Fd Fp/\Below L u (w1.setCell (zm L 0)<|.slice (Qb g 0) (bs.length+1) cap):=by
 obtain⟨h1,h2,h3,h4,h5,h6⟩:=O7.put (Dx.stable (ty:=AV) 4) 0 (O:=Fy++(Fr++(Fd++Fp))) AM h.blk hb (fun k hk=>h.nb.ge k hk) hG fun k hk=>by
  simp only[Aj]at hk;rcases hk with hk | hk | hk | hk
  ·exact⟨h.ny.ge k hk,h.ny.lt k hk,fun hf=>(h.ib k hf).1 hk⟩
  ·exact⟨h.nr.ge k hk,h.nr.lt k hk,fun hf=>(h.ib k hf).2.1 hk⟩
  ·exact⟨h.nd.ge k hk,h.nd.lt k hk,fun hf=>(h.ib k hf).2.2 hk⟩
  ·exact⟨h.np.ge k hk,h.np.lt k hk,(h.ip k hk).1⟩
 have hs:=h6.size;exact⟨⟨h5,h1,AQ.stable GD.stable _ _ _ _ _ h.ry fun k hk=>h4 k (by simp[hk]),AQ.stable GD.stable _ _ _ _ _ h.rr fun k hk=>h4 k (by simp[hk]),AQ.stable SL.stable _ _ _ _ _ h.rd fun k hk=>h4 k (by simp[hk]),h2,h.ny.later lr hs,h.nr.later lr hs,h.nd.later lr hs,fun k hk=>⟨fun q=>h3 k (by simp[q]) hk,fun q=>h3 k (by simp[q]) hk,fun q=>h3 k (by simp[q]) hk⟩,h.iy,h.ir,AQ.stable (DY.stable (ty:=AV) 4) _ _ _ _ _ h.rp fun k hk=>h4 k (by simp[hk]),h.np.later lr hs,fun k hk=>⟨h3 k (by simp[hk]),(h.ip k hk).2⟩⟩,h6⟩
def JP.appY (h:JP L u vb vp vk vc vy vr vd bs ys rs ds ps Fb Fy Fr Fd Fp)(hb:Bl u w)(hG: ∀ k,k∈G->u.heap.size<=k)(AM:O7 9 1 GD (L+1) w w1 ys Fy G x g cap F'):JP L (w1.setCell (zm L 4)<|.slice (Qb g 0) (ys.length+1) cap) vb vp vk vc (.slice (Qb g 0) (ys.length+1) cap) vr vd bs (ys++[x]) rs ds ps Fb F' Fr Fd Fp/\Below L u (w1.setCell (zm L 4)<|.slice (Qb g 0) (ys.length+1) cap):=by
 obtain⟨h1,h2,h3,h4,h5,h6⟩:=O7.put GD.stable 4 (O:=Fb++(Fr++(Fd++Fp))) AM h.blk hb (fun k hk=>h.ny.ge k hk) hG fun k hk=>by
  simp only[Aj]at hk;rcases hk with hk | hk | hk | hk
  ·exact⟨h.nb.ge k hk,h.nb.lt k hk,(h.ib k hk).1⟩
  ·exact⟨h.nr.ge k hk,h.nr.lt k hk,fun hf=>(h.iy k hf).1 hk⟩
  ·exact⟨h.nd.ge k hk,h.nd.lt k hk,fun hf=>(h.iy k hf).2 hk⟩
  ·exact⟨h.np.ge k hk,h.np.lt k hk,(h.ip k hk).2.1⟩
 have hs:=h6.size;exact⟨⟨h5,AQ.stable (Dx.stable (ty:=AV) 4) _ _ _ _ _ h.rb fun k hk=>h4 k (by simp[hk]),h1,AQ.stable GD.stable _ _ _ _ _ h.rr fun k hk=>h4 k (by simp[hk]),AQ.stable SL.stable _ _ _ _ _ h.rd fun k hk=>h4 k (by simp[hk]),h.nb.later lr hs,h2,h.nr.later lr hs,h.nd.later lr hs,fun k hk=>⟨h3 k (by simp[hk]),(h.ib k hk).2⟩,fun k hk=>⟨fun q=>h3 k (by simp[q]) hk,fun q=>h3 k (by simp[q]) hk⟩,h.ir,AQ.stable (DY.stable (ty:=AV) 4) _ _ _ _ _ h.rp fun k hk=>h4 k (by simp[hk]),h.np.later lr hs,fun k hk=>⟨(h.ip k hk).1,h3 k (by simp[hk]),(h.ip k hk).2.2⟩⟩,h6⟩
def JP.appR (h:JP L u vb vp vk vc vy vr vd bs ys rs ds ps Fb Fy Fr Fd Fp)(hb:Bl u w)(hG: ∀ k,k∈G->u.heap.size<=k)(AM:O7 9 1 GD (L+1) w w1 rs Fr G x g cap F'):JP L (w1.setCell (zm L 5)<|.slice (Qb g 0) (rs.length+1) cap) vb vp vk vc vy (.slice (Qb g 0) (rs.length+1) cap) vd bs ys (rs++[x]) ds ps Fb Fy F' Fd Fp/\Below L u (w1.setCell (zm L 5)<|.slice (Qb g 0) (rs.length+1) cap):=by
 obtain⟨h1,h2,h3,h4,h5,h6⟩:=O7.put GD.stable 5 (O:=Fb++(Fy++(Fd++Fp))) AM h.blk hb (fun k hk=>h.nr.ge k hk) hG fun k hk=>by
  simp only[Aj]at hk;rcases hk with hk | hk | hk | hk
  ·exact⟨h.nb.ge k hk,h.nb.lt k hk,(h.ib k hk).2.1⟩
  ·exact⟨h.ny.ge k hk,h.ny.lt k hk,(h.iy k hk).1⟩
  ·exact⟨h.nd.ge k hk,h.nd.lt k hk,fun hf=>h.ir k hf hk⟩
  ·exact⟨h.np.ge k hk,h.np.lt k hk,(h.ip k hk).2.2.1⟩
 have hs:=h6.size;exact⟨⟨h5,AQ.stable (Dx.stable (ty:=AV) 4) _ _ _ _ _ h.rb fun k hk=>h4 k (by simp[hk]),AQ.stable GD.stable _ _ _ _ _ h.ry fun k hk=>h4 k (by simp[hk]),h1,AQ.stable SL.stable _ _ _ _ _ h.rd fun k hk=>h4 k (by simp[hk]),h.nb.later lr hs,h.ny.later lr hs,h2,h.nd.later lr hs,fun k hk=>⟨(h.ib k hk).1,h3 k (by simp[hk]),(h.ib k hk).2.2⟩,fun k hk=>⟨h3 k (by simp[hk]),(h.iy k hk).2⟩,fun k hk q=>h3 k (by simp[q]) hk,AQ.stable (DY.stable (ty:=AV) 4) _ _ _ _ _ h.rp fun k hk=>h4 k (by simp[hk]),h.np.later lr hs,fun k hk=>⟨(h.ip k hk).1,(h.ip k hk).2.1,h3 k (by simp[hk]),(h.ip k hk).2.2.2⟩⟩,h6⟩
def JP.appD (h:JP L u vb vp vk vc vy vr vd bs ys rs ds ps Fb Fy Fr Fd Fp){x:Int×Int×ByteArray}(hb:Bl u w)(hG: ∀ k,k∈G->u.heap.size<=k)(AM:O7 60 3 SL (L+1) w w1 ds Fd G x g cap F'):JP L (w1.setCell (zm L 6)<|.slice (Qb g 0) (ds.length+1) cap) vb vp vk vc vy vr (.slice (Qb g 0) (ds.length+1) cap) bs ys rs (ds++[x]) ps Fb Fy Fr F' Fp/\Below L u (w1.setCell (zm L 6)<|.slice (Qb g 0) (ds.length+1) cap):=by
 obtain⟨h1,h2,h3,h4,h5,h6⟩:=O7.put SL.stable 6 (O:=Fb++(Fy++(Fr++Fp))) AM h.blk hb (fun k hk=>h.nd.ge k hk) hG fun k hk=>by
  simp only[Aj]at hk;rcases hk with hk | hk | hk | hk
  ·exact⟨h.nb.ge k hk,h.nb.lt k hk,(h.ib k hk).2.2⟩
  ·exact⟨h.ny.ge k hk,h.ny.lt k hk,(h.iy k hk).2⟩
  ·exact⟨h.nr.ge k hk,h.nr.lt k hk,h.ir k hk⟩
  ·exact⟨h.np.ge k hk,h.np.lt k hk,(h.ip k hk).2.2.2⟩
 have hs:=h6.size;exact⟨⟨h5,AQ.stable (Dx.stable (ty:=AV) 4) _ _ _ _ _ h.rb fun k hk=>h4 k (by simp[hk]),AQ.stable GD.stable _ _ _ _ _ h.ry fun k hk=>h4 k (by simp[hk]),AQ.stable GD.stable _ _ _ _ _ h.rr fun k hk=>h4 k (by simp[hk]),h1,h.nb.later lr hs,h.ny.later lr hs,h.nr.later lr hs,h2,fun k hk=>⟨(h.ib k hk).1,(h.ib k hk).2.1,h3 k (by simp[hk])⟩,fun k hk=>⟨(h.iy k hk).1,h3 k (by simp[hk])⟩,fun k hk=>h3 k (by simp[hk]),AQ.stable (DY.stable (ty:=AV) 4) _ _ _ _ _ h.rp fun k hk=>h4 k (by simp[hk]),h.np.later lr hs,fun k hk=>⟨(h.ip k hk).1,(h.ip k hk).2.1,(h.ip k hk).2.2.1,h3 k (by simp[hk])⟩⟩,h6⟩
end
end Go.P
namespace Go.W
def rJ (w:World) (p:Option Addr) (xs:List (Int×Int×ByteArray)):Prop:= ∀ (i:Nat) (x:Int×Int×ByteArray),xs[i]?=some x->(x.2.2.size<140737488355328/\ -9223372036854775808<=x.2.1/\x.2.1<9223372036854775808)/\ ∃ b o,p=some (zm b o)/\w.cell? (zm b (o+i*3))=some (zo x.1)/\w.cell? (zm b (o+i*3+1))=some (zo x.2.1)/\w.cell? (zm b (o+i*3+2))=some (.string x.2.2)
end Go.W
namespace Go.P
def Yjo (w:World) (xs:List (Int×Int×ByteArray)) (nv iv:Value) (wr:World):Prop:= ∃ (k:Nat) (m:Nat),k<=xs.length/\iv= zo (k:Int)/\nv= zo (m:Int)/\m<=65536/\wr=w/\ ∀ (i:Nat) (x:Int×Int×ByteArray),i<k->xs[i]?=some x->x.2.2.size<=65536
def Yaq {w:World}{p:Option Addr}{c:Nat}{xs:List (Int×Int×ByteArray)}(h:rJ w p xs)(hl:xs.length<140737488355328):Calls prog 9 #[.slice p xs.length c] w fun e w'=> ∃ b,e= .returned (.bool b)/\w'=w/\(b=true->xs.length<=65536/\ ∀ (i:Nat) (x:Int×Int×ByteArray),xs[i]?=some x->x.2.2.size<=65536):=by
 have H:=AC h;clear h;obtain⟨n,hn⟩: ∃ n,AF (xs.length=n):=⟨_,⟨rfl⟩⟩;rw[hn.out]at hl⊢;by_cases h0:n<=65536
 ·have h1: ¬ (65536:Int)<(n:Int):=zx
  go_in
  go_wp2
  go_loopw [3,4] (fun nv iv wr=>Yjo w xs nv iv wr) (fun _ iv _=>n-(intOf iv).toNat)
  case atStart=>exact⟨0,n,zx,rfl,rfl,h0,rfl,fun _ _ h=>zx⟩
  case round=>
   obtain⟨k,m,hk,rfl,rfl,hm,rfl,hall⟩:=hrel;have HA:=AC hall;clear hall;by_cases hlt:k<n
   ·have OP:k<xs.length:=by rw[hn.out];exact hlt
    obtain⟨⟨hs,_⟩,b,o,rfl,_,_,k2⟩:=H.out k xs[k]<|A8 OP;have hx:=AC<|A8 OP;generalize xs[k]=x at*;by_cases hg:m+x.2.2.size<=65536
    ·have g1: ¬ (65536:Int)<(m:Int)+(x.2.2.size:Int):=zx
     go_wp2_with fail
     refine⟨⟨k+1,m+x.2.2.size,OP,by go_num,by go_num,hg,rfl,fun i y hi hy=>?_⟩,by simp[intOf];omega⟩;rcases Qp i k with h | h
     ·exact HA.out i y h hy
     ·obtain rfl:i=k:=zx
      rw[hx.out]at hy;cases hy;omega
    ·have g1:(65536:Int)<(m:Int)+(x.2.2.size:Int):=zx
     go_wp2
     go_ret
     exact⟨false,rfl,rfl,fun h=>by cases h⟩
   ·have uA:k=n:=by rw[hn.out]at hk;omega
    subst uA;go_wp2
    go_ret
    exact⟨true,rfl,rfl,fun _=>⟨h0,fun i y hy=>HA.out i y (by have:=(DW.1 hy).1;rw[hn.out]at this;exact this) hy⟩⟩
 ·have h1:(65536:Int)<(n:Int):=zx
  go_in
  go_wp2
  go_ret
  exact⟨false,rfl,rfl,fun h=>by cases h⟩
end Go.P
namespace Go.P
variable {v:Value}{W:World}{base fuel:Nat}{sp:Nat->Bool}{held:Bool}
section
variable {H:Type}
def Tf (y:DataW H×List MemPlace):Int×Int×ByteArray:=match y.1 with
 | .agg [.lit<|.int _ k,.lit<|.int _ a,.lit<|.string t]=>(k,a,⟨t.toArray⟩)
 | _=>(0,0,⟨#[]⟩)
def uj:prog.cellsOf 60=3:=zt
def Yia:prog.cellsOf 3=1:=zt
def Yib:prog.cellsOf 9=1:=zt
def Yfm:prog.bytesOf 60=32:=zt
def Z1t {P:Program}{e:TypeId}{l:List (DataW H)}{d:DataW H}(h:d∈l): ∀ n,n∈d.weights P e->n∈DataW.weightsAll P e l:=by
 induction l with
 | nil=>cases h
 | cons y r ih=>
  intro n hn;simp only[DataW.weightsAll,Aj];rcases Ak.1 h with rfl | h
  ·exact .inl hn
  ·exact .inr<|ih h n hn
def Yio {α:Type}{l:List α}(h:l.length=3): ∃ a b c,l=[a,b,c]:=by
 match l,h with
 | [a,b,c],_=>exact⟨a,b,c,rfl⟩
def Yas {w:World}{a:Addr}(hc:w.cell? ((a.add<|0*3).add 0)=some v):a.spot=none:=by
 simp only[YC,Addr.add,if_true]at hc;unfold World.cell? at hc;split at hc
 ·split at hc
  ·cases hc
  ·rename_i hh;cases hs:a.spot with
   | none=>rfl
   | some z=>rw[hs]at hh;exact absurd rfl hh
 ·cases hc
def Zt5 {enc:TypeId×Value->H}{cs:List Value}{y:DataW H×List MemPlace}(h:DataW.trod enc prog W base sp held fuel 60 cs=some y):cs=[zo (Tf y).1,zo (Tf y).2.1,.string (Tf y).2.2]/\(Tf y).2.2.size∈y.1.weights prog 60/\(-9223372036854775808<=(Tf y).2.1/\(Tf y).2.1<9223372036854775808):=by
 obtain⟨xs,n,_,hy,hl,hx,hf⟩:=DataW.trod_struct underlying60 h;rw[uj]at hl;obtain⟨c0,c1,c2,rfl⟩:=Yio hl;obtain⟨x0,x1,x2,rfl⟩:=Yio (hx.trans rfl:xs.length=3);have f0:DataW.trod enc prog W base sp held n 3 (List.take (prog.cellsOf 3) [c0,c1,c2])=some x0:=hf 0 _ rfl;have f1:DataW.trod enc prog W base sp held n 3 (List.take (prog.cellsOf 3) [c1,c2])=some x1:=hf 1 _ rfl;have f2:DataW.trod enc prog W base sp held n 9 (List.take (prog.cellsOf 9) [c2])=some x2:=hf 2 _ rfl;rw[Yia]at f0 f1;rw[Yib]at f2;obtain⟨k,e0,rfl,_⟩:=DataW.trod_int underlying3 f0;obtain⟨a,e1,rfl,ea⟩:=DataW.trod_int underlying3 f1;obtain⟨s,e2,rfl,_⟩:=DataW.trod_string underlying9 f2;simp at e0 e1 e2;subst hy e0 e1 e2;refine⟨rfl,?_,(by
  have h1:(decide (IntKind.i64.min<=a) && decide (a<=IntKind.i64.max))=true:=ea;rw[show IntKind.i64.min= -9223372036854775808 by decide,show IntKind.i64.max=9223372036854775807 by decide]at h1;simp at h1;exact⟨h1.1,Int.lt_of_le_of_lt h1.2 zu⟩)⟩
 rw[DataW.weights,underlying60];refine DataW.weights_mem_each (j:=2) (t:=9) (d:= .lit<|.string s.data.toList) rfl rfl _ ?_;rw[DataW.weights];exact Bh.2<|Vp▸rfl
def Zre {enc:TypeId×Value->H}{x:DataW H×List MemPlace}(h:DataW.trod enc prog W base sp held fuel 22 [v]=some x)(hz:(x.1.weights prog 22).all (·<=reachBytes)=true): ∃ p c xs,v= .slice p xs.length c/\xs.length<140737488355328/\rJ W p xs:=by
 rcases DataW.trod_slice underlying22 h with⟨hv,_⟩ | ⟨a,len,cap,elems,rest,n,_,hv,hx,_,_,_,hlen,hel,_,_⟩
 ·cases hv;exact⟨none,0,[],rfl,zu,fun i x hx=>by simp at hx⟩
 cases hv;subst hx;have hr:=reachBytes_lt;simp only[DataW.weights,underlying22,List.all_cons,List.all_append,Bool.and_eq_true,Dj,Yfm,decide_eq_true_eq]at hz;obtain⟨hz0,hz1,_⟩:=hz;have each: ∀ i y,elems[i]?=some y->((Tf y).2.2.size<140737488355328/\ -9223372036854775808<=(Tf y).2.1/\(Tf y).2.1<9223372036854775808)/\ ∃ b o,a=(zm b o)/\W.cell? (zm b (o+i*3))=some (zo (Tf y).1)/\W.cell? (zm b (o+i*3+1))=some (zo (Tf y).2.1)/\W.cell? (zm b (o+i*3+2))=some (.string (Tf y).2.2):=by
  intro i y hy;have hi:i<len:=by rw[<- hlen];exact(DW.1 hy).1
  have h1:=hel i hi;have h0:=hel 0 zx;rw[hy,Option.bind_eq_some_iff]at h1;obtain⟨cs,hcs,ht⟩:=h1;obtain⟨rfl,hw,hA⟩:=Zt5 ht;have hsz:=SI.1 hz1 _<|Z1t (List.mem_map.2 ⟨y,Ej hy,rfl⟩) _ hw;simp only[decide_eq_true_eq]at hsz;have hsp:a.spot=none:=by
   have: ∃ y0,elems[0]?=some y0:=⟨elems[0]' zx,A8 _⟩
   obtain⟨y0,mJ⟩:=this;rw[mJ,Option.bind_eq_some_iff]at h0;obtain⟨cs0,zf,Ib⟩:=h0;obtain⟨rfl,_⟩:=Zt5 Ib;have hc:=(World.cells?_some zf).2.2 0 (by rw[uj];omega);rw[uj]at hc;exact Yas<|hc.trans rfl
  obtain⟨b,o,z⟩:=a;simp only at hsp;subst hsp;rw[uj]at hcs;have hc:=(World.cells?_some hcs).2.2;have ad: ∀ k,((zm b o):Addr).add k=(zm b (o+k)):=fun k=>Addr.add_lit _ _ _;refine⟨⟨zx,hA⟩,b,o,rfl,?_,?_,?_⟩
  ·have:=hc 0 zw;rw[ad,Addr.add_lit]at this;exact this
  ·have:=hc 1 zw;rw[ad,Addr.add_lit]at this;exact this
  ·have:=hc 2 zw;rw[ad,Addr.add_lit]at this;exact this
 refine⟨some a,cap,elems.map Tf,by rw[Dj,hlen],by rw[Dj];omega,fun i x hx=>?_⟩;rw[FK]at hx;obtain⟨y,hy,rfl⟩:=QP.1 hx;obtain⟨h1,b,o,h2,h3⟩:=each i y hy;exact⟨h1,b,o,by rw[h2],h3⟩
end
end Go.P
