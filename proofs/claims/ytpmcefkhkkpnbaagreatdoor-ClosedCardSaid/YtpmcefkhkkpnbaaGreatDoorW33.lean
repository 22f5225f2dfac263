import Derived.Test.YtpmcefkhkkpnbaaGreatDoorW31
set_option linter.all false
set_option maxRecDepth 100000
set_option maxHeartbeats 8000000
open Go.Proofs Go.RowKit Go.W Tryz
namespace Go.W
section
variable [Mem]
def Zsi {w:Bb}{p:Nat}{fs:List Fc}{vs:List T}{F:Cg}(h:Df w p fs vs F){B D:Nat}{gv:Bu}{x:G}(hS:TQ B w D gv x)(hB:B<=w.heap.size)(hFB: ∀ i,i∈F->B<=i)(yx:BR 0 x.a=0)(yw:BR 0 x.b=0)(hl:vs.length+6<100000):
  Calls prog 169 #[zq p 0,.agg gv.toArray] w fun e w'=>e=uY (.agg #[zo x.op,um (Dw vs x.a).1,zo ((Dw vs x.a).2:Int),um (Dw (Eb vs x.a) x.b).1,zo ((Dw (Eb vs x.a) x.b).2:Int)])/\ ∃ F',Df w' p fs (Eb (Eb vs x.a) x.b) F'/\Off F w w'/\ ∀ i,i∈F'->i∈F\/w.heap.size<=i:=by
 obtain⟨va,vb,rfl,ho,hSa,hSb⟩:=hS;have H:=AC h;have GU:(Eb vs x.a).length<100000:=by
  have:=bK vs x.a
  omega
 have CA:=AC fun u (hu:Bl w u)=>Zwb (h.of (w':=u) hu.size fun j hj=>hu.block j (h.lt j hj)) (Ed.cy hSa<|Bq hu hB) (Ab hB hu.size) yx zx;have CB:=AC fun u F' (hd:Df u p fs (Eb vs x.a) F') (hu:Below B w u)=>Zwb hd (Ed.cy hSb<|Go.W.Below.cy hu lr) (Ab hB hu.size) yw GU;obtain⟨pa,ca,rfl,ht,_⟩:=hSa;obtain⟨pb,cb,rfl,mZ,_⟩:=hSb;clear h;generalize Dw vs x.a=s1 at*;generalize Dw (Eb vs x.a) x.b=s2 at*;go_in
 obtain⟨W2,hW2⟩:=cK ((w.alloc<|.cells #[zo x.op,zo x.a.k,zo x.a.i,um x.a.t,sP pa x.a.l.length ca,zo x.b.k,zo x.b.i,um x.b.t,sP pb x.b.l.length cb] 97).alloc (.cells #[zo 0,.string ⟨#[]⟩,zo 0,.string ⟨#[]⟩,zo 0] 313));have B2:AF (Bl w W2):=⟨hW2.o▸((AR _ w).alloc lr _).alloc zw _⟩;have S2:AF (W2.heap.size=w.heap.size+2):=⟨by rw[<- hW2.o];simp⟩;have L0:AF (AO W2 w.heap.size #[zo x.op,zo x.a.k,zo x.a.i,um x.a.t,sP pa x.a.l.length ca,zo x.b.k,zo x.b.i,um x.b.t,sP pb x.b.l.length cb] 97):=⟨hW2.o▸(AO.new w _ _).alloc _⟩;have L1:AF (AO W2 (w.heap.size+1) #[zo 0,.string ⟨#[]⟩,zo 0,.string ⟨#[]⟩,zo 0] 313):=⟨hW2.o▸Ur w _ _ _⟩;have nF: ∀ j,w.heap.size<=j->j∉F:=fun j hj h=>fw (H.o.lt _ h)
 go_wp2_with fail
 rw[hW2.o];obtain⟨y0,y1,y2,y3,y4,y5,y6,y7,y8,sy⟩:=L0.o.nine;go_region_with (first
  | (go_at_call 167;apply(CA.o _ B2.o.drew).mono;rintro e w3 ⟨rfl,F3,Yj,Xa,hs3⟩;have K0:=L0.o.of<|Xa.block w.heap.size (by have:=S2.o;simp;omega)<|nF _ lr;have K1:=L1.o.of<|Xa.block (w.heap.size+1) (by have:=S2.o;simp;omega)<|nF _<|Ny _;obtain⟨z0,z1,z2,z3,z4,z5,z6,z7,z8,sz⟩:=AO.nine K0;have hw3:=Xa.size;have OW:Off F w w3:=(Off.of B2.o.drew).trans Xa fun _ h=> .inl h;clear CA)
  | (go_at_call 167;apply(CB.o _ _ Yj<|OW.be hFB hB).mono;rintro e w4 ⟨rfl,F4,RQ,jA,UL⟩;have yF: ∀ j,w.heap.size<=j->j<w.heap.size+2->j∉F3:=(fun j hj h2 h=>by rcases hs3 j h with h | h;exact nF j hj h;have:=S2.o;simp at h;omega);have M0:=K0.of<|jA.block w.heap.size K0.lt<|yF _ lr zx;have M1:=K1.of<|jA.block (w.heap.size+1) K1.lt<|yF _ (Ny _) zx;have m0:=AO.cell M0 0;have sM:=AO.soft M1;have n0:=AO.cell M1 0;have n1:=AO.cell M1 1;have n2:=AO.cell M1 2;have n3:=AO.cell M1 3;have n4:=AO.cell M1 4;simp at m0 n0 n1 n2 n3 n4))
 all_goals
  have dO: ∀ i,i∈F4->i∈F\/w.heap.size+2<=i:=fun i hi=>by
   have h2:=S2.o;rcases UL i hi with h | h
   .exact(hs3 i h).imp id fun h=>by simp at h;omega
   .simp at hw3;exact .inr zx
  have hne: ∀ i,i∈F4->i≠w.heap.size+1:=fun i hi=>by
   rcases dO i hi with h | h
   .have:=H.o.lt i h;omega
   .omega
  have DJ:=AC<|AJ RQ<|AJ (OW.trans jA fun i hi=>(hs3 i hi).imp id fun h=>by have h2:=S2.o;simp at h;omega)<|AJ dO hne;clear RQ jA UL dO hne Yj Xa hs3 OW K0 K1 z0 z1 z2 z3 z4 z5 z6 z7 z8 sz M0 m0 yF y0 y1 y2 y3 y4 y5 y6 y7 y8 sy CB;go_wp2
  refine Bg (by simp[results,results169,go_sem,n0,n1,n2,n3,n4];try rfl) rfl ?_;have FO:=DJ.o;have hs:=fun j (hj:j∈F4)=>FO.2.2.2 j hj;refine⟨rfl,F4,FO.1.of (by simp[World.setCell]) fun j hj=>(Aw _ _ _ _<|hs j hj).trans ((Aw _ _ _ _<|hs j hj).trans<|(Aw _ _ _ _<|hs j hj).trans<|(Aw _ _ _ _<|hs j hj).trans<|Aw _ _ _ _<|hs j hj),((((FO.2.1.set (w.heap.size+1) 0 _<|.inr<|Ny _).set (w.heap.size+1) 1 _<|.inr<|Ny _).set (w.heap.size+1) 2 _<|.inr<|Ny _).set (w.heap.size+1) 3 _<|.inr<|Ny _).set (w.heap.size+1) 4 _<|.inr<|Ny _,fun i hi=>(FO.2.2.1 i hi).imp id zx⟩
end
end Go.W
set_option linter.unusedSectionVars false
namespace Go.W
section
variable {e:TypeId}{w:Bb}{v:Value}{F S:Cg}
variable [Mem]
def AQ.lK {α:Type}{s:Nat}{Q:Du α}{xs:List α}(h:AQ e s Q w v xs F):AQ e s (fun w vs x G=>Q w vs x G/\ ∀ k,k∈G->k∈F) w v xs F:=by
 obtain⟨zs,h1,h2,h3,h4,h5⟩:=h;refine⟨zs,h1,fun z hz=>⟨(h2 z hz).1,(h2 z hz).2,fun k hk=>?_⟩,h3,h4,h5⟩;rw[h4];simp only[Aj,List.mem_flatten,we];exact .inr ⟨z.2.2,⟨z,hz,rfl⟩,hk⟩
def AQ.Jn {ss:List Sl}(h:AQ e 2 La w v ss F)(hS: ∀ k,k∈F->k∈S)(hz: ∀ s,s∈ss->s.1.size<1000000000): ∃ p c,v= sP p ss.length c/\Ap 2 (VW w S) p ss:=by
 obtain⟨p,c,rfl⟩:=AQ.form h;refine⟨p,c,rfl,AQ.len h,fun i x hx=>?_⟩;obtain⟨g,cap,cs,G,hv,hg,⟨_,rfl⟩,key⟩:=AQ.nth h i x hx;injection hv with h1 h2 h3;subst h1;rw[show i*2=0+i*2 by omega]at key;exact⟨g,0,rfl,hS g hg,key 0 _ rfl,key 1 _ rfl,hz x<|Ej hx⟩
def Zwa {A:Ca}{i:Nat}(h:A[i]?=some v):A.setIfInBounds i v=A:=by
 apply Array.ext zw
 intro j h1 h2;rw[Array.getElem_setIfInBounds];split
 .rename_i e;subst e;exact((PN.1 h).2).symm
 .rfl
def Rq:Du Pt:=fun w vs x F=> ∃ sv,vs=[um x.1,sv]/\AQ 298 2 La w sv x.2 F
def Rq.sb:Ii Rq:=fun _ _ _ _ _ ⟨sv,h1,h2⟩ hb=>⟨sv,h1,AQ.sb La.sb _ _ _ _ _ h2 hb⟩
def Rq.one: ∀ (w:Bb) (vs:Bu) (x:Pt) (F:Cg),Rq w vs x F-> ∀ u,u∈vs->u.oneCell'=true:=fun _ _ _ _ ⟨sv,h1,h2⟩ u hu=>by
 obtain⟨p,c,rfl⟩:=AQ.form h2;subst h1;simp at hu;rcases hu with rfl | rfl <;> rfl
def Uw:Du Gt:=fun _ vs x F=>F=[]/\vs=[zo (x.1:Int),um x.2.1.1,zo (x.2.1.2:Int),um x.2.2.1,zo (x.2.2.2:Int)]
def Uw.sb:Ii Uw:=fun _ _ _ _ _ h _=>h
def Uw.one: ∀ (w:Bb) (vs:Bu) (x:Gt) (F:Cg),Uw w vs x F-> ∀ u,u∈vs->u.oneCell'=true:=fun _ _ _ _ ⟨_,h2⟩ u hu=>by
 subst h2;simp at hu;rcases hu with rfl | rfl | rfl | rfl | rfl <;> rfl
def AQ.Vx {at_:List Pt}(h:AQ e 2 Rq w v at_ F)(hS: ∀ k,k∈F->k∈S)(hz: ∀ p,p∈at_->p.2.length<=6/\ ∀ s,s∈p.2->s.1.size<1000000000): ∃ pa ca,v= sP pa at_.length ca/\ ∀ i x,at_[i]?=some x->xF w S pa i x:=by
 obtain⟨p,c,rfl⟩:=AQ.form h;refine⟨p,c,rfl,fun i x hx=>?_⟩;obtain⟨g,cap,cs,G,hv,hg,⟨⟨sv,rfl,hr⟩,hGF⟩,key⟩:=AQ.nth (AQ.lK h) i x hx;injection hv with h1 h2 h3;subst h1;obtain⟨q,c',rfl,hq⟩:=AQ.Jn hr (fun k hk=>hS k (hGF k hk)) (hz x<|Ej hx).2;exact⟨g,q,c',rfl,hS g hg,key 0 _ rfl,key 1 _ rfl,hq,(hz x<|Ej hx).1⟩
def AQ.fA {gs:List Gt}(h:AQ e 5 Uw w v gs F)(hS: ∀ k,k∈F->k∈S)(hz: ∀ g,g∈gs->g.2.1.1.size<1000000000/\g.2.2.1.size<1000000000/\1<=g.1/\g.1<=7): ∃ pa ca,v= sP pa gs.length ca/\ ∀ i x,gs[i]?=some x->Yj6 w S pa i x:=by
 obtain⟨p,c,rfl⟩:=AQ.form h;refine⟨p,c,rfl,fun i x hx=>?_⟩;obtain⟨g,cap,cs,G,hv,hg,⟨_,rfl⟩,key⟩:=AQ.nth h i x hx;injection hv with h1 h2 h3;subst h1;exact⟨g,rfl,hS g hg,key 0 _ rfl,key 1 _ rfl,key 2 _ rfl,key 3 _ rfl,key 4 _ rfl,hz x<|Ej hx⟩
def Jv (st:List T×List Pt) (a:A):List T×List Pt:=((Cc st.1 a.te).2,st.2++[(a.name,(Cc st.1 a.te).1)])
def Ld (st:List T×List Gt) (g:G):List T×List Gt:=(Eb (Eb st.1 g.a) g.b,st.2++[(g.op.toNat,Dw st.1 g.a,Dw (Eb st.1 g.a) g.b)])
def Zqr: ∀ (l:List A) (st:List T×List Pt),(l.foldl Jv st).2.length=st.2.length+l.length
 | [],_=>rfl
 | a::l,st=>by rw[List.foldl_cons,Zqr l];simp[Jv];omega
def Zqq: ∀ (l:List G) (st:List T×List Gt),(l.foldl Ld st).2.length=st.2.length+l.length
 | [],_=>rfl
 | a::l,st=>by rw[List.foldl_cons,Zqq l];simp[Ld];omega
def vz: ∀ (l:List A) (st:List T×List Pt),(∀ a,a∈l->a.te.length<=6)->(l.foldl Jv st).1.length<=st.1.length+6*l.length
 | [],_,_=>EO _
 | a::l,st,h=>by
  have h1:=vz l (Jv st a) fun b hb=>h b (by simp[hb]);have h2:=(Xx a.te st.1).2;have h3:=h a zw;rw[List.foldl_cons,DU];simp only[Jv]at h1⊢;omega
def Znc: ∀ (l:List G) (st:List T×List Gt),(l.foldl Ld st).1.length<=st.1.length+2*l.length
 | [],_=>EO _
 | g::l,st=>by
  have h1:=Znc l<|Ld st g;have h2:=bK st.1 g.a;have h3:=bK (Eb st.1 g.a) g.b;rw[List.foldl_cons,DU];simp only[Ld]at h1⊢;omega
def O6 (vs:List T) (r:R):List T×List Pt:=r.body.foldl Jv ((Cc vs r.head.te).2,[])
def Jg (vs:List T) (r:R):List T×List Gt:=r.gu.foldl Ld ((O6 vs r).1,[])
def Qh (vs:List T) (r:R):BD:=⟨(r.head.name,(Cc vs r.head.te).1),(O6 vs r).2,(Jg vs r).2,TS (Cc vs r.head.te).1 (O6 vs r).2⟩
end
section
variable [Mem]
def Yfu:J3 prog 302 226 2 40:=by
 obtain⟨i0,hi,hz0,hz1,hz2⟩:=info_parts (by kernel_rfl:(prog.info? 226).map (fun i=>(i.zero,i.size,i.bytes))=some (some<|.agg #[sE,zn],2,40));exact⟨i0,_,underlying302,hi,hz0,hz1,hz2,rfl,zu,zu⟩
def Yfs:J3 prog 303 313 5 56:=by
 obtain⟨i0,hi,hz0,hz1,hz2⟩:=info_parts (by kernel_rfl:(prog.info? 313).map (fun i=>(i.zero,i.size,i.bytes))=some (some<|.agg #[zo 0,sE,zo 0,sE,zo 0],5,56));exact⟨i0,_,underlying303,hi,hz0,hz1,hz2,rfl,zu,zu⟩
def Qg (p m:Nat) (hn:Ay) (hv:Value):Ca:=#[zq p 0,um hn,hv,zn,zn,zn,.map<|some m,zn]++Array.replicate 964 (.int .u64 0)
def Ybo (p m:Nat)(hn:Ay)(hv:Value):((((zeroCells311.setIfInBounds 0<|zq p 0).setIfInBounds 1<|um hn).setIfInBounds 2 hv).setIfInBounds 6<|.map<|some m).setIfInBounds 7 (zn)=Qg p m hn hv:=zt
def qh (p m:Nat)(hn:Ay)(hv:Value):(Qg p m hn hv).size=972:=by simp[Qg]
def jl (p m:Nat)(hn:Ay)(hv:Value)(j:Nat)(hj:j<8):(Qg p m hn hv)[j]?=[zq p 0,um hn,hv,zn,zn,zn,.map<|some m,zn][j]?:=by
 unfold Qg;rw[Ylf (by simpa using hj)];simp
def Z4q (p m:Nat)(hn:Ay)(hv:Value)(j:Nat)(hj:8<=j)(h2:j<972):(Qg p m hn hv)[j]?=some (.int .u64 0):=by
 unfold Qg;rw[Array.getElem?_append_right (by simpa using hj),Array.getElem?_replicate,xj];show j-8<964;omega
def Yey (W0:Bb) (q p:Nat) (CV:Ca) (fs:List Fc) (F0:Cg) (st:List T×List Pt) (wr:Bb):Prop:= ∃ sv Fa F',Df wr p fs st.1 F'/\AO wr q (CV.setIfInBounds 3 sv) 311/\AQ 226 2 Rq wr sv st.2 Fa/\Ag W0.heap.size wr Fa/\(∀ i,i∈F'->i∈F0\/W0.heap.size<=i)/\(∀ i,i∈Fa->i∉F')/\Off (q::F0) W0 wr
def Ye3 (W0:Bb) (q p:Nat) (CV:Ca) (fs:List Fc) (F0:Cg) (st:List T×List Gt) (wr:Bb):Prop:= ∃ sv Fa F',Df wr p fs st.1 F'/\AO wr q (CV.setIfInBounds 4 sv) 311/\AQ 313 5 Uw wr sv st.2 Fa/\Ag W0.heap.size wr Fa/\(∀ i,i∈F'->i∈F0\/W0.heap.size<=i)/\(∀ i,i∈Fa->i∉F')/\Off (q::F0) W0 wr
end
end Go.W
set_option linter.unusedSectionVars false
namespace Go.W
section
variable [Mem]
attribute [local go_sem] Me
abbrev xC (w w':Bb) (e:Ending) (p:Nat) (b:BD) (fs:List Fc) (vs:List T) (F:Cg):Prop:= ∃ q m sv Fa gv Fg hv Gh ov Go F',e=uY (zq q 0)/\AO w' q ((((Qg p m b.hd.1 hv).setIfInBounds 3 sv).setIfInBounds 4 gv).setIfInBounds 5 ov) 311/\w'.heap[m]?=some (.map #[] 0)/\AQ 226 2 Rq w' sv b.at_ Fa/\AQ 313 5 Uw w' gv b.gs Fg/\AQ 298 2 La w' hv b.hd.2 Gh/\AQ 364 3 Ut w' ov b.hs Go/\Df w' p fs vs F'/\Off F w w'/\(∀ i,i∈F'->i∈F\/w.heap.size<=i)/\(∀ i,i∈q::m::(Fa++(Fg++(Gh++Go)))->w.heap.size<=i/\i<w'.heap.size/\i∉F')/\(∀ i,i∈Fa++(Fg++(Gh++Go))->i≠q/\i≠m)/\q≠m
def Ybp {w:Bb}{p:Nat}{fs:List Fc}{vs:List T}{F:Cg}(h:Df w p fs vs F){B D:Nat}{r:R}{pt pb pg:Bp}{ct cb cg:Nat}(ht:Ap 4 (He B w<|D+2) pt r.head.te)(hto: ∀ x,x∈r.head.te->BR 0 x=0)(ht6:r.head.te.length<=6)(hb:Ap 2 (Ep B w<|D+2) pb r.body)(hB:B<=w.heap.size)(hFB: ∀ i,i∈F->B<=i)(h1: ∀ a,a∈r.body->(∀ x,x∈a.te->BR 0 x=0)/\a.te.length<=6)(hl4:r.body.length<=4)(hg:Ap 9 (QK B w<|D+2) pg r.gu)(h2: ∀ g,g∈r.gu->BR 0 g.a=0/\BR 0 g.b=0/\ ∃ n:Nat,g.op=(n:Int))(hg4:r.gu.length<=4)(hl:vs.length+100<100000)(hz:(∀ s,s∈(Cc vs r.head.te).1->s.1.size<1000000000)/\ ∀ p,p∈(O6 vs r).2->p.2.length<=6/\ ∀ s,s∈p.2->s.1.size<1000000000):
  Calls prog 113 #[zq p 0,.agg #[um r.head.name,sP pt r.head.te.length ct,sP pb r.body.length cb,sP pg r.gu.length cg]] w fun e w'=>xC w w' e p (Qh vs r) fs (Jg vs r).1 F:=by
 have Rj:=h.lt;have CP:AF (∀ u,Bl w u->Calls prog 111 #[zq p 0,.agg #[um r.head.name,sP pt r.head.te.length ct]] u fun e w'=> ∃ sv G F',e=uY (.agg #[um r.head.name,sv])/\AQ 298 2 La w' sv (Cc vs r.head.te).1 G/\Ag u.heap.size w' G/\Df w' p fs (Cc vs r.head.te).2 F'/\Off F u w'/\(∀ i,i∈F'->i∈F\/u.heap.size<=i)/\ ∀ i,i∈G->i∉F'):=⟨fun u hu=>Zk9 (h.of hu.size fun j hj=>hu.block j (h.lt j hj)) (ht.cy fun b o x q=>He.cy (Bq hu hB) lr q) (Ab hB hu.size) hto ht6 zx hFB⟩;have hpl:=(Xx r.head.te vs).2;have hlv: ∀ k,((r.body.take k).foldl Jv ((Cc vs r.head.te).2,[])).1.length<99950:=fun k=>by
  have:=vz (r.body.take k) ((Cc vs r.head.te).2,[]) fun a ha=>(h1 a<|List.mem_of_mem_take ha).2
  have:(r.body.take k).length<=r.body.length:=List.length_take_le' k r.body
  dsimp only at*;omega
 have hlg: ∀ k,((r.gu.take k).foldl Ld ((O6 vs r).1,[])).1.length<99950:=fun k=>by
  have:=vz r.body ((Cc vs r.head.te).2,[]) fun a ha=>(h1 a ha).2
  have:=Znc (r.gu.take k) ((O6 vs r).1,[])
  have:(r.gu.take k).length<=r.gu.length:=List.length_take_le' k r.gu
  simp only[O6]at*;omega
 unfold Qh Jg;unfold Jg O6 at*;generalize yT:(Cc vs r.head.te).2=vs1 at*;generalize hhd:(Cc vs r.head.te).1=hd at*;obtain⟨⟨hn,H7⟩,bd,gu⟩:=r;dsimp only at*;generalize H7.length=nt at*;have HZ:=AC hz;clear hz yT hhd ht hto ht6 h hpl;have aI: ∀ w,(Instr.makeMap 142 none).run prog w= .ok (.map<|some w.heap.size) (w.alloc<|.map #[] 0):=Zjv;have Yl:=Ybo;obtain⟨nb,RI⟩:=cK (bd.length);obtain⟨ng,hng⟩:=cK (gu.length);rw[RI.o]at hl4;rw[hng.o]at hg4;rw[RI.o,hng.o];have HBD:=AC hb;have XN:=AC hlv;have H1:=AC h1;have HGD:=AC hg;have H2:=AC h2;have HLG:=AC hlg;clear hb hlv h1 hg h2 hlg;refine X9 func113 rfl ?_;simp only[ntmps113,GN,DU,JC,Nat.reduceAdd,Nat.reduceSub,Qu,Qv,Qr,Qt,JU,EC];go_wp2_with fail
 apply(CP.o _<|(AR _ w).alloc lr _).mono;rintro e w2 ⟨hv0,Gh,F1,rfl,hHh,eU,hw2,FM,hs2,Yu⟩;have hGh: ∀ i,i∈Gh->(w.alloc<|.cells #[um hn,sP pt nt ct,sP pb nb cb,sP pg ng cg] 69).heap.size<=i/\i<w2.heap.size:=fun i hi=>⟨eU.ge i hi,eU.lt i hi⟩;obtain⟨pa,c,rfl⟩:=AQ.form hHh;generalize tX:hd.length=n at*;have HN9:=AC tX;clear tX eU;have Zu:AF (∀ i,i∈Gh->w.heap.size+1<=i/\i<w2.heap.size/\i∉F1):=⟨fun i hi=>⟨by have:=(hGh i hi).1;simpa using this,(hGh i hi).2,Yu i hi⟩⟩;clear hGh Yu;have lF:w.heap.size∉F:=fun h=>fw (Rj _ h)
 have R2:=(AO.new w #[um hn,sP pt nt ct,sP pb nb cb,sP pg ng cg] 69).of<|FM.block w.heap.size zw lF;have l2:w.heap.size<w2.heap.size:=R2.lt;obtain⟨W0,hW0⟩:=cK ((w2.alloc<|.map #[] 0).alloc (.cells (Qg p w2.heap.size hn<|sP pa n c) 311));have B0:Bl w2 W0:=hW0.o▸((AR _ w2).alloc lr _).alloc zw _;have S0:W0.heap.size=w2.heap.size+2:=by rw[<- hW0.o];simp
 have L1:AO W0 (w2.heap.size+1) (Qg p w2.heap.size hn<|sP pa n c) 311:=hW0.o▸Ur w2 _ _ _;have R0:=AC<|R2.of<|B0.block _ l2;obtain⟨r0,r1,r2,r3,rs⟩:=R0.o.four;have r2':=r2;rw[<- hW0.o]at r2';have hO0:Off F w W0:=(((Off.of<|(AR _ w).alloc lr _).trans FM fun _ h=> .inl h)).trans (Off.of (F:=[]) B0) fun _ h=>(by cases h);have hs1: ∀ i,i∈F1->i∈F\/(w.heap.size+1<=i/\i<w2.heap.size):=fun i hi=>(hs2 i hi).imp id fun h=>⟨by simpa using h,hw2.lt i hi⟩;have CVs:(Qg p w2.heap.size hn<|sP pa n c).size=972:=qh _ _ _ _;have CV3:(Qg p w2.heap.size hn<|sP pa n c)[3]?=some (zn):=jl _ _ _ _ 3 zx;have A0:Yey W0 (w2.heap.size+1) p (Qg p w2.heap.size hn<|sP pa n c) fs F1 (vs1,[]) W0:=by
  refine⟨zn,[],F1,hw2.of B0.size fun j hj=>B0.block j (hw2.lt j hj),?_,AQ.nil,Ag.nil _ _,fun _ h=> .inl h,fun _ h=>(by cases h),Off.refl _ _⟩;rw[Zwa CV3];exact L1
 have HA0:=AC A0;have HH:=AC<|AJ hHh<|AJ hw2<|AJ hO0<|AJ hs1 B0;have L1':=AC L1;have M0:AF (W0.heap[w2.heap.size]?=some (.map #[] 0)):=⟨hW0.o▸(Ah _ _ _ zw).trans (World.alloc_heap_new w2 _)⟩;clear hHh hw2 FM hs2 A0 L1 CV3 B0 hO0 hs1 R2;generalize Dt:Qg p w2.heap.size hn (sP pa n c)=CV at*;have oG:=Dt;rw[<- Yl]at oG;clear Yl;go_wp2_with fail
 clear oG;rw[hW0.o];have lq:w2.heap.size+1<W0.heap.size:=zx
 have hBq:B<=w2.heap.size:=zx
 have lV: ∀ i,i∈F1->i<w2.heap.size/\B<=i:=fun i hi=>(HH.o.2.2.2.1 i hi).elim (fun h=>⟨fw (Rj i h),hFB i h⟩) fun h=>⟨h.2,zx⟩;have BC:AF (∀ wr,Off ((w2.heap.size+1)::F1) W0 wr->Below B w wr):=⟨fun wr ho=>(HH.o.2.2.1.be hFB hB).trans (ho.be (fun i hi=>by
  simp only[Ak]at hi;rcases hi with rfl | hi
  .omega
  .exact(lV i hi).2) zx)⟩
 clear r2' aI;go_loopw [22] (fun iv wr=> ∃ k,k<=nb/\iv= zo ((k:Nat):Int)/\Yey W0 (w2.heap.size+1) p CV fs F1 ((bd.take k).foldl Jv (vs1,[])) wr) (fun iv _=>nb-Td iv)
 .exact⟨0,Eg _,rfl,HA0.o⟩
 .obtain⟨k,hk,rfl,sv,Fa,F',hwd,hblk,hrow,Bi,Dh,Po,DL⟩:=hrel;have hlv:=XN.o k;obtain⟨st,hst⟩:=cK ((bd.take k).foldl Jv (vs1,[]));have hk2:st.2.length<=4:=by rw[<- hst.o,Zqr];simp;omega
  rw[hst.o]at hlv hwd hrow;have jK:=BC.o wr DL;have lwr:W0.heap.size<=wr.heap.size:=DL.size;obtain⟨ps,Ja,rfl⟩:=hrow.form;have yB:w2.heap.size+1∉F':=fun h=>by
   rcases Dh _ h with h | h
   .have:=(lV _ h).1;omega
   .omega
  have qFa:w2.heap.size+1∉Fa:=fun h=>fw (Bi.ge _ h)
  have jO: ∀ u,AO u (w2.heap.size+1) (CV.setIfInBounds 3<|sP ps st.2.length Ja) 311->u.cell? (zm (w2.heap.size+1) 3)=some (sP ps st.2.length Ja):=fun u hu=>by rw[hu.cell,Dy,xj rfl,xj zx]
  have HR:=AC<|AJ hwd<|AJ hblk<|AJ hrow<|AJ Bi<|AJ Dh<|AJ Po DL;by_cases hlt:k<nb
  .obtain⟨a,hak⟩: ∃ a,bd[k]?=some a:=⟨_,A8 (fw (RI.o))⟩;obtain⟨Aq,hat⟩:=H1.o a<|Ej hak;obtain⟨bb,oo,rfl,hA⟩:=HBD.o.at_ k a hak;obtain⟨G4,pc,cc,z0,z1,hAS⟩:=(Ep.cy (Go.W.Below.cy jK lr) lr hA).vals;obtain⟨pc',cc',e1,_,_,hrt⟩:=hAS;injection e1 with _ e1;injection e1 with e1 _;injection e1 with e1 _ e3;subst e1;subst e3;have g:(k:Int)<(nb:Int):=zx
   have aT:B<=wr.heap.size:=Ab hB jK.size;have yL: ∀ j,j∈F'->j<wr.heap.size/\B<=j:=fun j hj=>⟨hwd.lt j hj,(Dh j hj).elim (fun h=>(lV j h).2) zx⟩;have CS:=AC fun u (hu:Bl wr u)=>Zk9 (c:=cc) (n:=a.name) (hwd.of hu.size fun j hj=>hu.block j (hwd.lt j hj)) (hrt.cy fun b o x q=>He.cy (Bq hu aT) lr q) (Ab aT hu.size) Aq hat zx (fun j hj=>(yL j hj).2);have z3:=fun ob=>jO _ (hblk.alloc ob);have sW:w2.heap.size+1<wr.heap.size:=zx
   have AK:=AC hak;clear hwd hblk hrow Bi Dh Po DL hA hrt hak hat
   generalize hla:a.te.length=na at*;go_wp2_with fail
   have RA: ∀ j,j∈Fa->j<wr.heap.size:=fun j hj=>HR.o.2.2.2.1.lt j hj;have sj: ∀ j,j∈F'->j<wr.heap.size:=fun j hj=>HR.o.1.lt j hj;have Pq:=AO.new wr #[um a.name,sP pc na cc] 64;obtain⟨WB,hWB⟩:=cK (wr.alloc (.cells #[um a.name,sP pc na cc] 64));rw[hWB.o]at Pq⊢;have szB:WB.heap.size=wr.heap.size+1:=by rw[<- hWB.o];simp
   have BB:Bl wr WB:=hWB.o▸(AR _ wr).alloc lr _;have qB:=HR.o.2.1.of<|BB.block _ sW;have AY:=AJ (jO _<|qB.of (w':=WB.drew) rfl)<|AJ (Pq.of (w':=WB.drew) rfl).two.1 (Pq.of (w':=WB.drew) rfl).two.2.1;clear z3;refine Vj 12 (fun u=>u.cell? (zm (w2.heap.size+1) 3)=some (sP ps st.2.length Ja)/\u.cell? (zm wr.heap.size 0)=some (um a.name)/\u.cell? (zm wr.heap.size 1)=some (sP pc na cc)) zt ?_;refine z9 0 (zq (w2.heap.size+1) 0) AY ?_
   refine z9 1 (zq (w2.heap.size+1) 0) AY ?_
   refine z9 2 (zq (w2.heap.size+1) 0) AY ?_
   refine z9 3 (zq (w2.heap.size+1) 3) AY ?_
   refine z9 4 (sP ps st.2.length Ja) AY ?_
   refine z9 5 (zq p 0) AY ?_
   refine z9 6 (.agg #[um a.name,sP pc na cc]) AY ?_
   refine rz 7 (h:=fun K' hK'=>?_);go_simp;apply(CS.o _ BB.drew).mono;rintro e w5 ⟨sv5,G5,F5,rfl,UK,Pm,RP,Di,hs5,dh⟩;obtain⟨p5,c5,rfl⟩:=AQ.form UK;obtain⟨n5,nL⟩:=cK ((Cc st.1 a.te).1.length);rw[nL.o]at UK⊢;have VD:wr.heap.size+1<=w5.heap.size:=by have:WB.heap.size<=w5.heap.size:=Di.size;omega
   have di: ∀ i,i∈G5->wr.heap.size+1<=i:=fun i hi=>by have:WB.heap.size<=i:=Pm.ge i hi;omega
   have K5:=(qB.of (w':=WB.drew) rfl).of<|Di.block _ (by show _<WB.heap.size;omega) yB;have X5:=(Pq.of (w':=WB.drew) rfl).of (Di.block _ (by show _<WB.heap.size;omega) fun h=>fw (sj _ h));refine hK'.o _ _ ⟨jO _ K5,X5.two.1,X5.two.2.1⟩ ?_;try simp only[zz]
   refine rz 8 (h:=fun K' hK'=>?_);go_simp;obtain⟨W6,hW6⟩:=cK (w5.alloc (.cells #[um a.name,sP p5 n5 c5] 226));rw[hW6.o];have sz6:W6.heap.size=w5.heap.size+1:=by rw[<- hW6.o];simp
   have B6:Bl w5 W6:=hW6.o▸(AR _ w5).alloc lr _;have N6:W6.heap[w5.heap.size]?=some (.cells #[um a.name,sP p5 n5 c5] 226):=hW6.o▸Hw _ _;have K6:=K5.of<|B6.block _ K5.lt;have X6:=X5.of<|B6.block _ X5.lt;refine hK'.o _ _ ⟨jO _ K6,X6.two.1,X6.two.2.1⟩ ?_;try simp only[zz]
   have sl6:=AQ.sb La.sb _ W6 _ _ _ UK fun j hj=>B6.block j (Pm.lt j hj);have R6:AQ 226 2 Rq W6 (sP ps st.2.length Ja) st.2 Fa:=AQ.sb Rq.sb _ _ _ _ _ HR.o.2.2.1 fun j hj=>((B6.block j (fw (RA j hj))).trans<|Di.block j (by have:=RA j hj;show _<WB.heap.size;omega)<|HR.o.2.2.2.2.2.1 j hj).trans (BB.block j<|RA j hj);refine rz 9 (h:=fun K' hK'=>?_);refine X3 Yfu rfl (.tmp 30) (.tmp 34) rfl Rq.sb Rq.one W0.heap.size (sP ps st.2.length Ja) st.2 Fa rfl R6 w5.heap.size #[um a.name,sP p5 n5 c5] 226 (0,0) (a.name,(Cc st.1 a.te).1) G5 rfl N6 rfl ⟨_,rfl,sl6⟩ zx zx (HR.o.2.2.2.1.la lr zx) ⟨Pm.once,fun i hi=>fw (di i hi),fun i hi=>fw (Pm.lt i hi)⟩ (fun i hi h=>jE (di i h) (RA i hi)) ?_;intro g6 Cm w6 F6 AM;have h6w:=AM.size;have K7:=K6.of<|AM.same _ K6.lt qFa;have X7:=X6.of (AM.same _ X6.lt fun h=>fw (RA _ h));have JZ:=AJ (jO _ K7)<|AJ X7.two.1 X7.two.2.1;have ks7:=K7.soft;refine hK'.o _ _ JZ ?_;try simp only[zz]
   refine yp 10 JZ ?_
   refine yp 11 JZ ?_
   have c37:=JZ.1;refine yq ?_;have Gn: ∀ i,i∈F5->i∈F'\/wr.heap.size+1<=i:=fun i hi=>(hs5 i hi).imp id fun h=>by have:WB.heap.size<=i:=h;omega
   have lu: ∀ i,i∈F5->i≠w2.heap.size+1:=fun i hi e=>by
    subst e;rcases Gn _ hi with h | h
    .exact yB h
    .omega
   have cB: ∀ i,i∈F5->i∉Fa:=fun i hi h=>by
    rcases Gn i hi with h' | h'
    .exact HR.o.2.2.2.2.2.1 i h h'
    .have:=RA i h;omega
   have lm: ∀ i,i∈F6->i≠w2.heap.size+1:=fun i hi e=>by
    subst e;rcases AM.sub _ hi with h | h | h
    .exact qFa h
    .have:=di _ h;omega
    .omega
   have l5: ∀ i,i∈F5->i<w5.heap.size:=fun i hi=>RP.lt i hi;have EQ:(bd.take<|k+1).foldl Jv (vs1,[])=((Cc st.1 a.te).2,st.2++[(a.name,(Cc st.1 a.te).1)]):=by
    rw[PM,AK.o,List.foldl_append,hst.o];simp[Jv]
   have A1:Yey W0 (w2.heap.size+1) p CV fs F1 ((bd.take<|k+1).foldl Jv (vs1,[])) (w6.setCell (zm (w2.heap.size+1) 3)<|sP (Qb g6 0) (st.2.length+1) Cm):=by
    rw[EQ];have KS:=K7.set 3<|sP (Qb g6 0) (st.2.length+1) Cm;rw[rM]at KS;refine⟨sP (Qb g6 0) (st.2.length+1) Cm,F6,F5,RP.of (by simp[World.setCell];omega) fun j hj=>(Aw _ _ _ _<|lu j hj).trans ((AM.same j (fw (l5 j hj))<|cB j hj).trans<|B6.block j<|l5 j hj),KS,AQ.sb Rq.sb _ _ _ _ _ AM.row fun j hj=>Aw _ _ _ _ (lm j hj),AM.new.la lr (by simp[World.setCell]),fun i hi=>?_,fun i hi h=>?_,?_⟩
    .rcases Gn i hi with h | h
     .exact HR.o.2.2.2.2.1 i h
     .exact .inr zx
    .rcases AM.sub i hi with h' | h' | h'
     .exact cB i h h'
     .exact dh i h' h
     .have:=l5 i h;omega
    .refine Off.set ((((HR.o.2.2.2.2.2.2.trans (Off.of (F:=[]) BB) fun _ h=>(by cases h)).drew).trans Di fun i hi=>?_).trans (G:=Fa) ?_ fun i hi=> .inr (HR.o.2.2.2.1.ge i hi)) _ _ _<|.inl zw
     .rcases HR.o.2.2.2.2.1 i hi with h | h
      .exact .inl (by simp[h])
      .exact .inr h
     .exact(Off.of B6).trans ⟨AM.os,AM.tape,AM.output,AM.size,AM.same⟩ fun _ h=> .inl h
   have HA1:=AC A1;clear A1 EQ Gn lu cB lm l5 AM RP Di hs5 JZ K7 X7 c37 R6 K6 X6 K5 X5;go_wp2
   exact⟨⟨k+1,zx,zw,HA1.o⟩,by simp[Td];omega⟩
  .have g: ¬ (k:Int)<(nb:Int):=zx
   obtain rfl:k=nb:=zx
   rw[<- hst.o]at HR;have e3:=(BC.o wr DL);clear jO;have rc:=R0.o.of<|DL.block w.heap.size zx (fun h=>by
    simp only[Ak]at h;rcases h with h | h
    .omega
    .rcases HH.o.2.2.2.1 _ h with h | h
     .exact lF h
     .omega)
   obtain⟨x0,x1,x2,x3,xs⟩:=rc.four;have e4:(CV.setIfInBounds 3<|sP ps st.2.length Ja)[4]?=some (zn):=by rw[Dy,xd zx,<- Dt];exact jl _ _ _ _ 4 zx
   have Tz:=AC<|AJ hwd<|AJ hblk<|AJ hrow<|AJ Bi<|AJ Dh<|AJ Po DL;have jN:bd.foldl Jv (vs1,[])=st:=by rw[<- hst.o,U0 (fw (RI.o))]
   rw[jN]at HLG HZ;have HE:=AC jN;clear jN;obtain⟨CW,hCW⟩:=cK (CV.setIfInBounds 3 (sP ps st.2.length Ja));have CWs:CW.size=972:=by rw[<- hCW.o];simpa using CVs
   rw[hCW.o]at hblk e4;have HG0:AF (Ye3 wr (w2.heap.size+1) p CW fs F' (st.1,[]) wr):=⟨zn,[],F',hwd,by rw[Zwa e4];exact hblk,AQ.nil,Ag.nil _ _,fun _ h=> .inl h,fun _ h=>(by cases h),Off.refl _ _⟩;have sW:w2.heap.size+1<wr.heap.size:=zx
   have sj: ∀ j,j∈F'->j<wr.heap.size/\B<=j:=fun j hj=>⟨hwd.lt j hj,(Dh j hj).elim (fun h=>(lV j h).2) zx⟩;clear hwd hblk hrow Bi Dh Po DL;go_wp2_with fail
   obtain⟨W1,rfl⟩: ∃ W1,W1=wr:=⟨_,rfl⟩;have BC1:AF (∀ wr,Off ((w2.heap.size+1)::F') W1 wr->Below B w wr):=⟨fun wr ho=>jK.trans (ho.be (fun i hi=>by
    simp only[Ak]at hi;rcases hi with rfl | hi
    .omega
    .exact(sj i hi).2) zx)⟩
   go_loopw [42] (fun iv wr=> ∃ k,k<=ng/\iv= zo ((k:Nat):Int)/\Ye3 W1 (w2.heap.size+1) p CW fs F' ((gu.take k).foldl Ld (st.1,[])) wr) (fun iv _=>ng-Td iv)
   .exact⟨0,Eg _,rfl,HG0.o⟩
   case round=>
   clear x0 x1 x2 x3 xs rc e3;obtain⟨i,hi,rfl,gsv,Fg,F2,hwd,hblk,hrow,Bi,Dh,Po,DL⟩:=hrel;have zG:=HLG.o i;obtain⟨sg,hsg⟩:=cK ((gu.take i).foldl Ld (st.1,[]));have hk3:sg.2.length<=4:=by rw[<- hsg.o,Zqq];simp;omega
   rw[hsg.o]at zG hwd hrow;have o9:=BC1.o wr DL;have lwr2:W1.heap.size<=wr.heap.size:=DL.size;obtain⟨YP,Yy,rfl⟩:=hrow.form;have sS:w2.heap.size+1∉F2:=fun h=>by
    rcases Dh _ h with h | h
    .exact yB h
    .omega
   have qFg:w2.heap.size+1∉Fg:=fun h=>fw (Bi.ge _ h)
   have cq4: ∀ u,AO u (w2.heap.size+1) (CW.setIfInBounds 4<|sP YP sg.2.length Yy) 311->u.cell? (zm (w2.heap.size+1) 4)=some (sP YP sg.2.length Yy):=fun u hu=>by rw[hu.cell,Dy,xj rfl,xj zx]
   have Ao:=AC<|AJ hwd<|AJ hblk<|AJ hrow<|AJ Bi<|AJ Dh<|AJ Po DL;by_cases hlt:i<ng
   .obtain⟨x,GR⟩: ∃ x,gu[i]?=some x:=⟨_,A8 (fw (hng.o))⟩;obtain⟨hoa,hob,xo,Ou⟩:=H2.o x<|Ej GR;obtain⟨bb,oo,rfl,hG⟩:=HGD.o.at_ i x GR;obtain⟨G4,p1,c1,p2,c2,v0,v1,v2,v3,v4,v5,v6,v7,v8,ow⟩:=(QK.cy (Go.W.Below.cy o9 lr) lr hG).vals;have g:(i:Int)<(ng:Int):=zx
    have aT:B<=wr.heap.size:=Ab hB o9.size;have iU: ∀ j,j∈F2->j<wr.heap.size/\B<=j:=fun j hj=>⟨hwd.lt j hj,(Dh j hj).elim (fun h=>(sj j h).2) zx⟩;have CS:=AC fun u (hu:Bl wr u)=>Zsi (hwd.of hu.size fun j hj=>hu.block j (hwd.lt j hj)) (TQ.cy ow<|Bq hu aT) (Ab aT hu.size) (fun j hj=>(iU j hj).2) hoa hob zx;have sW:w2.heap.size+1<wr.heap.size:=zx
    have XV: ∀ j,j∈Fg->j<wr.heap.size:=fun j hj=>Bi.lt j hj;have AK:=AC GR;have HXO:=AC Ou;clear hwd hblk hrow Bi Dh Po DL hG ow GR Ou;go_wp2_with fail
    have Pq:=AO.new wr #[zo x.op,zo x.a.k,zo x.a.i,um x.a.t,sP p1 x.a.l.length c1,zo x.b.k,zo x.b.i,um x.b.t,sP p2 x.b.l.length c2] 97;obtain⟨WB,hWB⟩:=cK (wr.alloc (.cells #[zo x.op,zo x.a.k,zo x.a.i,um x.a.t,sP p1 x.a.l.length c1,zo x.b.k,zo x.b.i,um x.b.t,sP p2 x.b.l.length c2] 97));rw[hWB.o]at Pq⊢;have szB:WB.heap.size=wr.heap.size+1:=by rw[<- hWB.o];simp
    have BB:Bl wr WB:=hWB.o▸(AR _ wr).alloc lr _;have qB:=Ao.o.2.1.of<|BB.block _ sW;have xU:AF (∀ u,AO u (w2.heap.size+1) (CW.setIfInBounds 4<|sP YP sg.2.length Yy) 311->AO u wr.heap.size #[zo x.op,zo x.a.k,zo x.a.i,um x.a.t,sP p1 x.a.l.length c1,zo x.b.k,zo x.b.i,um x.b.t,sP p2 x.b.l.length c2] 97->u.cell? (zm (w2.heap.size+1) 4)=some (sP YP sg.2.length Yy)/\u.cell? (zm wr.heap.size 0)=some (zo x.op)/\u.cell? (zm wr.heap.size 1)=some (zo x.a.k)/\u.cell? (zm wr.heap.size 2)=some (zo x.a.i)/\u.cell? (zm wr.heap.size 3)=some (um x.a.t)/\u.cell? (zm wr.heap.size 4)=some (sP p1 x.a.l.length c1)/\u.cell? (zm wr.heap.size 5)=some (zo x.b.k)/\u.cell? (zm wr.heap.size 6)=some (zo x.b.i)/\u.cell? (zm wr.heap.size 7)=some (um x.b.t)/\u.cell? (zm wr.heap.size 8)=some (sP p2 x.b.l.length c2)):=⟨fun u h1 h2=>⟨cq4 u h1,(h2.cell 0).trans rfl,(h2.cell 1).trans rfl,(h2.cell 2).trans rfl,(h2.cell 3).trans rfl,(h2.cell 4).trans rfl,(h2.cell 5).trans rfl,(h2.cell 6).trans rfl,(h2.cell 7).trans rfl,(h2.cell 8).trans rfl⟩⟩;have AY:=xU.o WB.drew (qB.of (w':=WB.drew) rfl)<|Pq.of (w':=WB.drew) rfl;clear v0 v1 v2 v3 v4 v5 v6 v7 v8;refine Vj 12 (fun u=>u.cell? (zm (w2.heap.size+1) 4)=some (sP YP sg.2.length Yy)/\u.cell? (zm wr.heap.size 0)=some (zo x.op)/\u.cell? (zm wr.heap.size 1)=some (zo x.a.k)/\u.cell? (zm wr.heap.size 2)=some (zo x.a.i)/\u.cell? (zm wr.heap.size 3)=some (um x.a.t)/\u.cell? (zm wr.heap.size 4)=some (sP p1 x.a.l.length c1)/\u.cell? (zm wr.heap.size 5)=some (zo x.b.k)/\u.cell? (zm wr.heap.size 6)=some (zo x.b.i)/\u.cell? (zm wr.heap.size 7)=some (um x.b.t)/\u.cell? (zm wr.heap.size 8)=some (sP p2 x.b.l.length c2)) zt ?_;refine z9 0 (zq (w2.heap.size+1) 0) AY ?_
    refine z9 1 (zq (w2.heap.size+1) 0) AY ?_
    refine z9 2 (zq (w2.heap.size+1) 0) AY ?_
    refine z9 3 (zq (w2.heap.size+1) 4) AY ?_
    refine z9 4 (sP YP sg.2.length Yy) AY ?_
    refine z9 5 (zq p 0) AY ?_
    refine z9 6 (.agg #[zo x.op,zo x.a.k,zo x.a.i,um x.a.t,sP p1 x.a.l.length c1,zo x.b.k,zo x.b.i,um x.b.t,sP p2 x.b.l.length c2]) AY ?_
    refine rz 7 (h:=fun K' hK'=>?_);go_simp;apply(CS.o _ BB.drew).mono;rintro e w5 ⟨rfl,F5,RP,Di,hs5⟩;have VD:wr.heap.size+1<=w5.heap.size:=by have:WB.heap.size<=w5.heap.size:=Di.size;omega
    have K5:=(qB.of (w':=WB.drew) rfl).of<|Di.block _ (by show _<WB.heap.size;omega) sS;have X5:=(Pq.of (w':=WB.drew) rfl).of (Di.block _ (by show _<WB.heap.size;omega) fun h=>fw ((iU _ h).1));refine hK'.o _ _ (xU.o _ K5 X5) ?_;try simp only[zz]
    refine rz 8 (h:=fun K' hK'=>?_);go_simp;obtain⟨W6,hW6⟩:=cK (w5.alloc (.cells #[zo x.op,um (Dw sg.1 x.a).1,zo ((Dw sg.1 x.a).2:Int),um (Dw (Eb sg.1 x.a) x.b).1,zo ((Dw (Eb sg.1 x.a) x.b).2:Int)] 313));rw[hW6.o];have sz6:W6.heap.size=w5.heap.size+1:=by rw[<- hW6.o];simp
    have B6:Bl w5 W6:=hW6.o▸(AR _ w5).alloc lr _;have N6:W6.heap[w5.heap.size]?=some (.cells #[zo x.op,um (Dw sg.1 x.a).1,zo ((Dw sg.1 x.a).2:Int),um (Dw (Eb sg.1 x.a) x.b).1,zo ((Dw (Eb sg.1 x.a) x.b).2:Int)] 313):=hW6.o▸Hw _ _;have K6:=K5.of<|B6.block _ K5.lt;have X6:=X5.of<|B6.block _ X5.lt;refine hK'.o _ _ (xU.o _ K6 X6) ?_;try simp only[zz]
    have R6:AQ 313 5 Uw W6 (sP YP sg.2.length Yy) sg.2 Fg:=AQ.sb Uw.sb _ _ _ _ _ Ao.o.2.2.1 fun j hj=>((B6.block j (fw (XV j hj))).trans<|Di.block j (by have:=XV j hj;show _<WB.heap.size;omega)<|Ao.o.2.2.2.2.2.1 j hj).trans (BB.block j<|XV j hj);refine rz 9 (h:=fun K' hK'=>?_);refine X3 Yfs rfl (.tmp 50) (.tmp 54) rfl Uw.sb Uw.one W1.heap.size (sP YP sg.2.length Yy) sg.2 Fg rfl R6 w5.heap.size #[zo x.op,um (Dw sg.1 x.a).1,zo ((Dw sg.1 x.a).2:Int),um (Dw (Eb sg.1 x.a) x.b).1,zo ((Dw (Eb sg.1 x.a) x.b).2:Int)] 313 (0,0) (x.op.toNat,Dw sg.1 x.a,Dw (Eb sg.1 x.a) x.b) [] rfl N6 rfl ⟨rfl,by rw[HXO.o];simp⟩ zx zx (Ao.o.2.2.2.1.la lr zx) (Ag.nil _ _) (fun _ _ h=>(by cases h)) ?_;intro g6 Cm w6 F6 AM;have h6w:=AM.size;have K7:=K6.of<|AM.same _ K6.lt qFg;have X7:=X6.of (AM.same _ X6.lt fun h=>fw (XV _ h));have JZ:=xU.o _ K7 X7;have ks7:=K7.soft;refine hK'.o _ _ JZ ?_;try simp only[zz]
    refine yp 10 JZ ?_
    refine yp 11 JZ ?_
    have c37:=JZ.1;refine yq ?_;have Gn: ∀ i,i∈F5->i∈F2\/wr.heap.size+1<=i:=fun i hi=>(hs5 i hi).imp id fun h=>by have:WB.heap.size<=i:=h;omega
    have lu: ∀ i,i∈F5->i≠w2.heap.size+1:=fun i hi e=>by
     subst e;rcases Gn _ hi with h | h
     .exact sS h
     .omega
    have cB: ∀ i,i∈F5->i∉Fg:=fun i hi h=>by
     rcases Gn i hi with h' | h'
     .exact Ao.o.2.2.2.2.2.1 i h h'
     .have:=XV i h;omega
    have lm: ∀ i,i∈F6->i≠w2.heap.size+1:=fun i hi e=>by
     subst e;rcases AM.sub _ hi with h | h | h
     .exact qFg h
     .cases h
     .omega
    have l5: ∀ i,i∈F5->i<w5.heap.size:=fun i hi=>RP.lt i hi;have EQ:(gu.take<|i+1).foldl Ld (st.1,[])=(Eb (Eb sg.1 x.a) x.b,sg.2++[(x.op.toNat,Dw sg.1 x.a,Dw (Eb sg.1 x.a) x.b)]):=by
     rw[PM,AK.o,List.foldl_append,hsg.o];simp[Ld]
    have A1:Ye3 W1 (w2.heap.size+1) p CW fs F' ((gu.take<|i+1).foldl Ld (st.1,[])) (w6.setCell (zm (w2.heap.size+1) 4)<|sP (Qb g6 0) (sg.2.length+1) Cm):=by
     rw[EQ];have KS:=K7.set 4<|sP (Qb g6 0) (sg.2.length+1) Cm;rw[rM]at KS;refine⟨sP (Qb g6 0) (sg.2.length+1) Cm,F6,F5,RP.of (by simp[World.setCell];omega) fun j hj=>(Aw _ _ _ _<|lu j hj).trans ((AM.same j (fw (l5 j hj))<|cB j hj).trans<|B6.block j<|l5 j hj),KS,AQ.sb Uw.sb _ _ _ _ _ AM.row fun j hj=>Aw _ _ _ _ (lm j hj),AM.new.la lr (by simp[World.setCell]),fun i hi=>?_,fun i hi h=>?_,?_⟩
     .rcases Gn i hi with h | h
      .exact Ao.o.2.2.2.2.1 i h
      .exact .inr zx
     .rcases AM.sub i hi with h' | h' | h'
      .exact cB i h h'
      .cases h'
      .have:=l5 i h;omega
     .refine Off.set ((((Ao.o.2.2.2.2.2.2.trans (Off.of (F:=[]) BB) fun _ h=>(by cases h)).drew).trans Di fun i hi=>?_).trans (G:=Fg) ?_ fun i hi=> .inr (Ao.o.2.2.2.1.ge i hi)) _ _ _<|.inl zw
      .rcases Ao.o.2.2.2.2.1 i hi with h | h
       .exact .inl (by simp[h])
       .exact .inr h
      .exact(Off.of B6).trans ⟨AM.os,AM.tape,AM.output,AM.size,AM.same⟩ fun _ h=> .inl h
    have HA1:=AC A1;clear A1 EQ Gn lu cB lm l5 AM RP Di hs5 JZ K7 X7 c37 R6 K6 X6 K5 X5;go_wp2
    exact⟨⟨i+1,zx,zw,HA1.o⟩,by simp[Td];omega⟩
   .have g: ¬ (i:Int)<(ng:Int):=zx
    obtain rfl:i=ng:=zx
    have e1: ∀ j,j<4->(CW.setIfInBounds 4<|sP YP sg.2.length Yy)[j]?=(CV.setIfInBounds 3<|sP ps st.2.length Ja)[j]?:=fun j hj=>by rw[Dy,xd zx,hCW.o]
    have q1:wr.cell? (zm (w2.heap.size+1) 1)=some (um hn):=by rw[hblk.cell,e1 1 zx,Dy,xd zx,<- Dt];exact jl _ _ _ _ 1 zx
    have q2:wr.cell? (zm (w2.heap.size+1) 2)=some (sP pa n c):=by rw[hblk.cell,e1 2 zx,Dy,xd zx,<- Dt];exact jl _ _ _ _ 2 zx
    have q3:wr.cell? (zm (w2.heap.size+1) 3)=some (sP ps st.2.length Ja):=by rw[hblk.cell,e1 3 zx,Dy,xj rfl,xj zx]
    have qs:=hblk.soft;have lqw:=hblk.lt;have esg:gu.foldl Ld (st.1,[])=sg:=by rw[<- hsg.o,U0 (fw (hng.o))]
    have HE2:=AC esg;clear esg;clear hwd hblk hrow Bi Dh Po DL cq4 e1;go_wp2_with fail
    have AY:=AJ q1<|AJ q2 q3;refine Vj 12 (fun u=>u.cell? (zm (w2.heap.size+1) 1)=some (um hn)/\u.cell? (zm (w2.heap.size+1) 2)=some (sP pa n c)/\u.cell? (zm (w2.heap.size+1) 3)=some (sP ps st.2.length Ja)) zt ?_;refine z9 0 (zq (w2.heap.size+1) 0) AY ?_
    refine z9 1 (zq (w2.heap.size+1) 0) AY ?_
    refine z9 2 (zq (w2.heap.size+1) 0) AY ?_
    refine z9 3 (zq (w2.heap.size+1) 1) AY ?_
    refine z9 4 (.agg #[um hn,sP pa n c]) AY ?_
    refine z9 5 (zq (w2.heap.size+1) 0) AY ?_
    refine z9 6 (zq (w2.heap.size+1) 0) AY ?_
    refine z9 7 (zq (w2.heap.size+1) 3) AY ?_
    refine z9 8 (sP ps st.2.length Ja) AY ?_
    have XV: ∀ j,j∈Fg->W1.heap.size<=j/\j<wr.heap.size:=fun j hj=>⟨Ao.o.2.2.2.1.ge j hj,Ao.o.2.2.2.1.lt j hj⟩;have RA: ∀ j,j∈Fa->W0.heap.size<=j/\j<W1.heap.size/\j∉F':=fun j hj=>⟨Tz.o.2.2.2.1.ge j hj,Tz.o.2.2.2.1.lt j hj,Tz.o.2.2.2.2.2.1 j hj⟩;have xu: ∀ j,j<W0.heap.size->j≠w2.heap.size+1->j∉F1->wr.heap[j]?=W0.heap[j]?:=fun j h1 h2 h3=>(Ao.o.2.2.2.2.2.2.block j zx fun h=>by
     simp only[Ak]at h;rcases h with h | h
     .exact h2 h
     .rcases Tz.o.2.2.2.2.1 j h with h | h
      .exact h3 h
      .omega).trans (Tz.o.2.2.2.2.2.2.block j h1 fun h=>by
     simp only[Ak]at h;rcases h with h | h
     .exact h2 h
     .exact h3 h)
    have upa: ∀ j,j∈Fa->wr.heap[j]?=W1.heap[j]?:=fun j hj=>Ao.o.2.2.2.2.2.2.block j (RA j hj).2.1 fun h=>by
     simp only[Ak]at h;rcases h with h | h
     .have:=(RA j hj).1;omega
     .exact(RA j hj).2.2 h
    have hHr:AQ 298 2 La wr (sP pa n c) hd Gh:=AQ.sb La.sb _ wr _ _ _ HH.o.1 fun j hj=>(xu j (fw ((Zu.o j hj).2.1)) (fw ((Zu.o j hj).2.1)) (Zu.o j hj).2.2).trans (HH.o.2.2.2.2.block j (Zu.o j hj).2.1);have hRr:=AQ.sb Rq.sb _ wr _ _ _ Tz.o.2.2.1 upa;obtain⟨CMr⟩:AF (Calls prog 170 #[.agg #[um hn,sP pa n c],sP ps st.2.length Ja] wr.drew fun e w'=> ∃ hv Fh,e=uY hv/\aj wr.drew w' (TS hd st.2) hv Fh):=by
     obtain⟨ph,ch,e1,sV⟩:=AQ.Jn (S:=Gh++Fa) (AQ.sb La.sb _ wr.drew _ _ _ hHr fun _ _=>rfl) (fun k hk=>by simp[hk]) HZ.o.1;obtain⟨pa',ca',e2,q2'⟩:=AQ.Vx (S:=Gh++Fa) (AQ.sb Rq.sb _ wr.drew _ _ _ hRr fun _ _=>rfl) (fun k hk=>by simp[hk]) HZ.o.2;rw[e1,e2];exact⟨Z86 sV q2' (fun j hj=>by
      rcases Aj.1 hj with hj | hj
      .have h3:=(Zu.o j hj).2.1;show j<wr.heap.size;omega
      .have h3:=(RA j hj).2.1;show j<wr.heap.size;omega) hk2⟩
    have CMr:=AC CMr;refine rz 9 (h:=fun K' hK'=>?_);go_simp;apply CMr.o.mono;rintro e w8 ⟨ov8,Go,rfl,VM⟩;obtain⟨po,co,rfl⟩:=AQ.form VM.row;obtain⟨no,hno⟩:=cK ((TS hd st.2).length);rw[hno.o]at VM⊢;have GV:=VM.bel;have B8:Bl wr w8:=(AR _ wr).drew.trans GV;have K8:=Ao.o.2.1.of<|B8.block _ lqw;have cell: ∀ j,w8.cell? (zm (w2.heap.size+1) j)=wr.cell? (zm (w2.heap.size+1) j):=fun j=>A9 (a:=(zm (w2.heap.size+1) j)) (B8.block _ lqw);have eH:=AJ ((cell 1).trans q1)<|AJ ((cell 2).trans q2)<|(cell 3).trans q3;clear cell;refine hK'.o _ _ eH ?_;try simp only[zz]
    refine yp 10 eH ?_
    refine yp 11 eH ?_
    have ks8:=K8.soft;have k58:w8.cell? (zm (w2.heap.size+1) 5)=some (zn):=by rw[K8.cell,Dy,xd zx,<- hCW.o,Dy,xd zx,<- Dt];exact jl _ _ _ _ 5 zx
    refine yq ?_;have K9:=K8.set 5<|sP po no co;rw[<- hCW.o,<- Dt]at K9;have nq: ∀ j,j≠w2.heap.size+1->(w8.setCell (zm (w2.heap.size+1) 5)<|sP po no co).heap[j]?=w8.heap[j]?:=fun j hj=>Aw _ _ _ _ hj;have si: ∀ j,j∈Go->wr.heap.size<=j/\j<w8.heap.size:=fun j hj=>⟨VM.new.ge j hj,VM.new.lt j hj⟩;have iU: ∀ j,j∈F2->j<wr.heap.size:=fun j hj=>Ao.o.1.lt j hj;have s89:(w8.setCell (zm (w2.heap.size+1) 5)<|sP po no co).heap.size=w8.heap.size:=by simp[World.setCell]
    have l8:=B8.size;have SX: ∀ i,i∈F2->i∈F1\/W0.heap.size<=i:=fun i hi=>(Ao.o.2.2.2.2.1 i hi).elim (Tz.o.2.2.2.2.1 i) fun h=> .inr zx;have sF: ∀ i,i∈F1->i∈F\/w.heap.size<=i:=fun i hi=>(HH.o.2.2.2.1 i hi).imp id zx;have yG: ∀ i,w2.heap.size<=i->i∉F1:=fun i hi h=>fw ((lV i h).1)
    have nm:w2.heap.size∉F2:=fun h=>by
     rcases SX _ h with h | h
     .exact yG _ lr h
     .omega
    have DJ:AF (xC w (w8.setCell (zm (w2.heap.size+1) 5)<|sP po no co) (.returned<|zq (w2.heap.size+1) 0) p ⟨(hn,hd),st.2,sg.2,TS hd st.2⟩ fs sg.1 F):=by
     refine⟨w2.heap.size+1,w2.heap.size,_,Fa,_,Fg,_,Gh,_,Go,F2,rfl,K9,?_,AQ.sb Rq.sb _ _ _ _ _ hRr fun j hj=>(nq j (fw ((RA j hj).1))).trans (B8.block j (fw ((RA j hj).2.1))),AQ.sb Uw.sb _ _ _ _ _ Ao.o.2.2.1 fun j hj=>(nq j (fw ((XV j hj).1))).trans (B8.block j (XV j hj).2),AQ.sb La.sb _ _ _ _ _ hHr fun j hj=>(nq j (fw ((Zu.o j hj).2.1))).trans (B8.block j (fw ((Zu.o j hj).2.1))),AQ.sb Ut.sb _ _ _ _ _ VM.row fun j hj=>nq j (fw ((si j hj).1)),Ao.o.1.of zx fun j hj=>(nq j fun e=>sS (e▸hj)).trans (B8.block j<|iU j hj),?_,fun i hi=>(SX i hi).elim (sF i) fun h=> .inr zx,?_,?_,zx⟩
     .exact((nq _ zx).trans<|B8.block _ zx).trans<|(xu _ zx zx<|yG _ lr).trans M0.o
     .refine Off.set ((((HH.o.2.2.1.trans Tz.o.2.2.2.2.2.2 fun i hi=>?_).trans Ao.o.2.2.2.2.2.2 fun i hi=>?_).trans (Off.of (F:=[]) B8) fun _ h=>(by cases h))) _ _ _<|.inr zx
      .simp only[Ak]at hi;rcases hi with rfl | hi
       .exact .inr zx
       .exact sF i hi
      .simp only[Ak]at hi;rcases hi with rfl | hi
       .exact .inr zx
       .exact(Tz.o.2.2.2.2.1 i hi).elim (sF i) fun h=> .inr zx
     .intro i hi;simp only[Ak,Aj]at hi;rw[s89];rcases hi with rfl | rfl | hi | hi | hi | hi
      .exact⟨zx,zx,sS⟩
      .exact⟨zx,zx,nm⟩
      .have h1:=RA i hi;refine⟨zx,zx,fun h=>?_⟩;rcases Ao.o.2.2.2.2.1 i h with h | h
       .exact h1.2.2 h
       .omega
      .have h1:=XV i hi;exact⟨zx,zx,Ao.o.2.2.2.2.2.1 i hi⟩
      .have h1:=Zu.o i hi;refine⟨zx,zx,fun h=>?_⟩;rcases SX i h with h | h
       .exact h1.2.2 h
       .omega
      .have h1:=si i hi;exact⟨zx,zx,fun h=>fw (iU i h)⟩
     .intro i hi;simp only[Aj]at hi;rcases hi with hi | hi | hi | hi
      .have:=RA i hi;omega
      .have:=XV i hi;omega
      .have:=Zu.o i hi;omega
      .have:=si i hi;omega
    clear eH ks8 k58 K9 nq si iU s89 SX sF yG nm K8 VM GV hHr hRr xu upa;go_wp2
    go_ret
    rw[HE.o,HE2.o];exact DJ.o
end
end Go.W
