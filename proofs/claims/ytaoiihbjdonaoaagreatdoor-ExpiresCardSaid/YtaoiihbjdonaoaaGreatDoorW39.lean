import Derived.Test.YtaoiihbjdonaoaaGreatDoorW36
import Derived.Test.YtaoiihbjdonaoaaGreatDoorW38
set_option linter.defProp false
set_option maxRecDepth 100000
set_option maxHeartbeats 8000000
set_option linter.unusedSimpArgs false
open Go.Proofs Go.RowKit Go.W Tryz
namespace Go.W
variable {e:TypeId}{w:World}{v:Value}{F S:List Nat}
def AQ.lK {α:Type}{s:Nat}{Q:Du α}{xs:List α}(h:AQ e s Q w v xs F):AQ e s (fun w vs x G=>Q w vs x G/\ ∀ k,k∈G->k∈F) w v xs F:=by
 obtain⟨zs,h1,h2,h3,h4,h5⟩:=h;refine⟨zs,h1,fun z hz=>⟨(h2 z hz).1,(h2 z hz).2,fun k hk=>?_⟩,h3,h4,h5⟩;rw[h4];simp only[Aj,List.mem_flatten,List.mem_map];exact .inr ⟨z.2.2,⟨z,hz,rfl⟩,hk⟩
def AQ.Jn {ss:List Sl}(h:AQ e 2 La w v ss F)(hS: ∀ k,k∈F->k∈S)(hz: ∀ s,s∈ss->s.1.size<1000000000): ∃ p c,v= .slice p ss.length c/\Ap 2 (VW w S) p ss:=by
 obtain⟨p,c,rfl⟩:=AQ.form h;refine⟨p,c,rfl,AQ.len h,fun i x hx=>?_⟩;obtain⟨g,cap,cs,G,hv,hg,⟨_,rfl⟩,key⟩:=AQ.nth h i x hx;injection hv with h1 h2 h3;subst h1;rw[show i*2=0+i*2 by omega]at key;exact⟨g,0,rfl,hS g hg,key 0 _ rfl,key 1 _ rfl,hz x<|Ej hx⟩
def Zwa {A:Array Value}{i:Nat}(h:A[i]?=some v):A.setIfInBounds i v=A:=by
 apply Array.ext zw
 intro j h1 h2;rw[Array.getElem_setIfInBounds];split
 ·rename_i e;subst e;exact((PN.1 h).2).symm
 ·rfl
def Rq:Du Pt:=fun w vs x F=> ∃ sv,vs=[.string x.1,sv]/\AQ 332 2 La w sv x.2 F
def Rq.stable:Ii Rq:=fun _ _ _ _ _ ⟨sv,h1,h2⟩ hb=>⟨sv,h1,AQ.stable La.stable _ _ _ _ _ h2 hb⟩
def Rq.one: ∀ (w:World) (vs:List Value) (x:Pt) (F:List Nat),Rq w vs x F-> ∀ u,u∈vs->u.oneCell'=true:=fun _ _ _ _ ⟨sv,h1,h2⟩ u hu=>by
 obtain⟨p,c,rfl⟩:=AQ.form h2;subst h1;simp at hu;rcases hu with rfl | rfl <;> rfl
def Uw:Du Gt:=fun _ vs x F=>F=[]/\vs=[zo (x.1:Int),.string x.2.1.1,zo (x.2.1.2:Int),.string x.2.2.1,zo (x.2.2.2:Int)]
def Uw.stable:Ii Uw:=fun _ _ _ _ _ h _=>h
def Uw.one: ∀ (w:World) (vs:List Value) (x:Gt) (F:List Nat),Uw w vs x F-> ∀ u,u∈vs->u.oneCell'=true:=fun _ _ _ _ ⟨_,h2⟩ u hu=>by
 subst h2;simp at hu;rcases hu with rfl | rfl | rfl | rfl | rfl <;> rfl
def AQ.Vx {at_:List Pt}(h:AQ e 2 Rq w v at_ F)(hS: ∀ k,k∈F->k∈S)(hz: ∀ p,p∈at_->p.2.length<=6/\ ∀ s,s∈p.2->s.1.size<1000000000): ∃ pa ca,v= .slice pa at_.length ca/\ ∀ i x,at_[i]?=some x->xF w S pa i x:=by
 obtain⟨p,c,rfl⟩:=AQ.form h;refine⟨p,c,rfl,fun i x hx=>?_⟩;obtain⟨g,cap,cs,G,hv,hg,⟨⟨sv,rfl,hr⟩,hGF⟩,key⟩:=AQ.nth (AQ.lK h) i x hx;injection hv with h1 h2 h3;subst h1;obtain⟨q,c',rfl,hq⟩:=AQ.Jn hr (fun k hk=>hS k (hGF k hk)) (hz x<|Ej hx).2;exact⟨g,q,c',rfl,hS g hg,key 0 _ rfl,key 1 _ rfl,hq,(hz x<|Ej hx).1⟩
def AQ.fA {gs:List Gt}(h:AQ e 5 Uw w v gs F)(hS: ∀ k,k∈F->k∈S)(hz: ∀ g,g∈gs->g.2.1.1.size<1000000000/\g.2.2.1.size<1000000000/\1<=g.1/\g.1<=7): ∃ pa ca,v= .slice pa gs.length ca/\ ∀ i x,gs[i]?=some x->Yj6 w S pa i x:=by
 obtain⟨p,c,rfl⟩:=AQ.form h;refine⟨p,c,rfl,fun i x hx=>?_⟩;obtain⟨g,cap,cs,G,hv,hg,⟨_,rfl⟩,key⟩:=AQ.nth h i x hx;injection hv with h1 h2 h3;subst h1;exact⟨g,rfl,hS g hg,key 0 _ rfl,key 1 _ rfl,key 2 _ rfl,key 3 _ rfl,key 4 _ rfl,hz x<|Ej hx⟩
def Jv (st:List T×List Pt) (a:A):List T×List Pt:=((Cc st.1 a.terms).2,st.2++[(a.name,(Cc st.1 a.terms).1)])
def Ld (st:List T×List Gt) (g:G):List T×List Gt:=(Eb (Eb st.1 g.a) g.b,st.2++[(g.op.toNat,Dw st.1 g.a,Dw (Eb st.1 g.a) g.b)])
def Zqr: ∀ (l:List A) (st:List T×List Pt),(l.foldl Jv st).2.length=st.2.length+l.length
 | [],_=>rfl
 | a::l,st=>by rw[List.foldl_cons,Zqr l];simp[Jv];omega
def Zqq: ∀ (l:List G) (st:List T×List Gt),(l.foldl Ld st).2.length=st.2.length+l.length
 | [],_=>rfl
 | a::l,st=>by rw[List.foldl_cons,Zqq l];simp[Ld];omega
def vz: ∀ (l:List A) (st:List T×List Pt),(∀ a,a∈l->a.terms.length<=6)->(l.foldl Jv st).1.length<=st.1.length+6*l.length
 | [],_,_=>EO _
 | a::l,st,h=>by
  have h1:=vz l (Jv st a) fun b hb=>h b (by simp[hb]);have h2:=(Xx a.terms st.1).2;have h3:=h a zw;rw[List.foldl_cons,DU];simp only[Jv]at h1⊢;omega
def Znc: ∀ (l:List G) (st:List T×List Gt),(l.foldl Ld st).1.length<=st.1.length+2*l.length
 | [],_=>EO _
 | g::l,st=>by
  have h1:=Znc l<|Ld st g;have h2:=bK st.1 g.a;have h3:=bK (Eb st.1 g.a) g.b;rw[List.foldl_cons,DU];simp only[Ld]at h1⊢;omega
def O6 (vs:List T) (r:R):List T×List Pt:=r.body.foldl Jv ((Cc vs r.head.terms).2,[])
def Jg (vs:List T) (r:R):List T×List Gt:=r.guards.foldl Ld ((O6 vs r).1,[])
def Qh (vs:List T) (r:R):BD:=⟨(r.head.name,(Cc vs r.head.terms).1),(O6 vs r).2,(Jg vs r).2,TS (Cc vs r.head.terms).1 (O6 vs r).2⟩
end Go.W
namespace Go.P
def Yfu:J3 prog 304 292 2 40:=by
 obtain⟨i0,hi,hz0,hz1,hz2⟩:=info_parts (by kernel_rfl:(prog.info? 292).map (fun i=>(i.zero,i.size,i.bytes))=some (some<|.agg #[.string ⟨#[]⟩,zn],2,40));exact⟨i0,_,underlying304,hi,hz0,hz1,hz2,rfl,zu,zu⟩
def Yfs:J3 prog 305 337 5 56:=by
 obtain⟨i0,hi,hz0,hz1,hz2⟩:=info_parts (by kernel_rfl:(prog.info? 337).map (fun i=>(i.zero,i.size,i.bytes))=some (some<|.agg #[zo 0,.string ⟨#[]⟩,zo 0,.string ⟨#[]⟩,zo 0],5,56));exact⟨i0,_,underlying305,hi,hz0,hz1,hz2,rfl,zu,zu⟩
def Qg (p m:Nat) (hn:ByteArray) (hv:Value):Array Value:=#[zq p 0,.string hn,hv,zn,zn,zn,.map<|some m,zn]++Array.replicate 964 (.int .u64 0)
def Ybo (p m:Nat)(hn:ByteArray)(hv:Value):((((zeroCells313.setIfInBounds 0<|zq p 0).setIfInBounds 1<|.string hn).setIfInBounds 2 hv).setIfInBounds 6<|.map<|some m).setIfInBounds 7 (zn)=Qg p m hn hv:=zt
def qh (p m:Nat)(hn:ByteArray)(hv:Value):(Qg p m hn hv).size=972:=by simp[Qg]
def jl (p m:Nat)(hn:ByteArray)(hv:Value)(j:Nat)(hj:j<8):(Qg p m hn hv)[j]?=[zq p 0,.string hn,hv,zn,zn,zn,.map<|some m,zn][j]?:=by
 unfold Qg;rw[Ylf (by simpa using hj)];simp
def Z4q (p m:Nat)(hn:ByteArray)(hv:Value)(j:Nat)(hj:8<=j)(h2:j<972):(Qg p m hn hv)[j]?=some (.int .u64 0):=by
 unfold Qg;rw[Array.getElem?_append_right (by simpa using hj),Array.getElem?_replicate,if_pos];show j-8<964;omega
def Yey (W0:World) (q p:Nat) (CV:Array Value) (fs:List Fc) (F0:List Nat) (st:List T×List Pt) (wr:World):Prop:= ∃ sv Fa F',Df wr p fs st.1 F'/\AO wr q (CV.setIfInBounds 3 sv) 313/\AQ 292 2 Rq wr sv st.2 Fa/\Ag W0.heap.size wr Fa/\(∀ i,i∈F'->i∈F0\/W0.heap.size<=i)/\(∀ i,i∈Fa->i∉F')/\Off (q::F0) W0 wr
def Ye3 (W0:World) (q p:Nat) (CV:Array Value) (fs:List Fc) (F0:List Nat) (st:List T×List Gt) (wr:World):Prop:= ∃ sv Fa F',Df wr p fs st.1 F'/\AO wr q (CV.setIfInBounds 4 sv) 313/\AQ 337 5 Uw wr sv st.2 Fa/\Ag W0.heap.size wr Fa/\(∀ i,i∈F'->i∈F0\/W0.heap.size<=i)/\(∀ i,i∈Fa->i∉F')/\Off (q::F0) W0 wr
end Go.P
namespace Go.P
attribute [local go_sem] Me
abbrev xC (w w':World) (e:Ending) (p:Nat) (b:BD) (fs:List Fc) (vs:List T) (F:List Nat):Prop:= ∃ q m sv Fa gv Fg hv Gh ov Go F',e= .returned (zq q 0)/\AO w' q ((((Qg p m b.hd.1 hv).setIfInBounds 3 sv).setIfInBounds 4 gv).setIfInBounds 5 ov) 313/\w'.heap[m]?=some (.map #[] 0)/\AQ 292 2 Rq w' sv b.at_ Fa/\AQ 337 5 Uw w' gv b.gs Fg/\AQ 332 2 La w' hv b.hd.2 Gh/\AQ 371 3 Ut w' ov b.hs Go/\Df w' p fs vs F'/\Off F w w'/\(∀ i,i∈F'->i∈F\/w.heap.size<=i)/\(∀ i,i∈q::m::(Fa++(Fg++(Gh++Go)))->w.heap.size<=i/\i<w'.heap.size/\i∉F')/\(∀ i,i∈Fa++(Fg++(Gh++Go))->i≠q/\i≠m)/\q≠m
def Ybp {w:World}{p:Nat}{fs:List Fc}{vs:List T}{F:List Nat}(h:Df w p fs vs F){B D:Nat}{r:R}{pt pb pg:Option Addr}{ct cb cg:Nat}(ht:Ap 4 (He B w<|D+2) pt r.head.terms)(hto: ∀ x,x∈r.head.terms->BR 0 x=0)(ht6:r.head.terms.length<=6)(hb:Ap 2 (Ep B w<|D+2) pb r.body)(hB:B<=w.heap.size)(hFB: ∀ i,i∈F->B<=i)(h1: ∀ a,a∈r.body->(∀ x,x∈a.terms->BR 0 x=0)/\a.terms.length<=6)(hl4:r.body.length<=4)(hg:Ap 9 (QK B w<|D+2) pg r.guards)(h2: ∀ g,g∈r.guards->BR 0 g.a=0/\BR 0 g.b=0/\ ∃ n:Nat,g.op=(n:Int))(hg4:r.guards.length<=4)(hl:vs.length+100<100000)(hz:(∀ s,s∈(Cc vs r.head.terms).1->s.1.size<1000000000)/\ ∀ p,p∈(O6 vs r).2->p.2.length<=6/\ ∀ s,s∈p.2->s.1.size<1000000000):
  Calls prog 181 #[zq p 0,.agg #[.string r.head.name,.slice pt r.head.terms.length ct,.slice pb r.body.length cb,.slice pg r.guards.length cg]] w fun e w'=>xC w w' e p (Qh vs r) fs (Jg vs r).1 F:=by
 have Rj:=h.lt;have CP:AF (∀ u,Bl w u->Calls prog 179 #[zq p 0,.agg #[.string r.head.name,.slice pt r.head.terms.length ct]] u fun e w'=> ∃ sv G F',e= .returned (.agg #[.string r.head.name,sv])/\AQ 332 2 La w' sv (Cc vs r.head.terms).1 G/\Ag u.heap.size w' G/\Df w' p fs (Cc vs r.head.terms).2 F'/\Off F u w'/\(∀ i,i∈F'->i∈F\/u.heap.size<=i)/\ ∀ i,i∈G->i∉F'):=⟨fun u hu=>Zk9 (h.of hu.size fun j hj=>hu.block j (h.lt j hj)) (ht.carry fun b o x q=>He.carry (Bq hu hB) lr q) (Ab hB hu.size) hto ht6 zx hFB⟩;have hpl:=(Xx r.head.terms vs).2;have hlv: ∀ k,((r.body.take k).foldl Jv ((Cc vs r.head.terms).2,[])).1.length<99950:=fun k=>by
  have:=vz (r.body.take k) ((Cc vs r.head.terms).2,[]) fun a ha=>(h1 a<|List.mem_of_mem_take ha).2
  have:(r.body.take k).length<=r.body.length:=List.length_take_le' k r.body
  dsimp only at*;omega
 have hlg: ∀ k,((r.guards.take k).foldl Ld ((O6 vs r).1,[])).1.length<99950:=fun k=>by
  have:=vz r.body ((Cc vs r.head.terms).2,[]) fun a ha=>(h1 a ha).2
  have:=Znc (r.guards.take k) ((O6 vs r).1,[])
  have:(r.guards.take k).length<=r.guards.length:=List.length_take_le' k r.guards
  simp only[O6]at*;omega
 unfold Qh Jg;unfold Jg O6 at*;generalize yT:(Cc vs r.head.terms).2=vs1 at*;generalize hhd:(Cc vs r.head.terms).1=hd at*;obtain⟨⟨hn,H7⟩,bd,gu⟩:=r;dsimp only at*;generalize H7.length=nt at*;have HZ:=AC hz;clear hz yT hhd ht hto ht6 h hpl;have aI: ∀ w,(Instr.makeMap 282 none).run prog w= .ok (.map<|some w.heap.size) (w.alloc<|.map #[] 0):=Zjv;have Yl:=Ybo;obtain⟨nb,RI⟩: ∃ nb,AF (bd.length=nb):=⟨_,⟨rfl⟩⟩;obtain⟨ng,hng⟩: ∃ ng,AF (gu.length=ng):=⟨_,⟨rfl⟩⟩;rw[RI.out]at hl4;rw[hng.out]at hg4;rw[RI.out,hng.out];have HBD:=AC hb;have XN:=AC hlv;have H1:=AC h1;have HGD:=AC hg;have H2:=AC h2;have HLG:=AC hlg;clear hb hlv h1 hg h2 hlg;refine X9 func181 rfl ?_;simp only[ntmps181,GN,DU,JC,Nat.reduceAdd,Nat.reduceSub,Qu,Qv,Qr,Qt,JU,EC];go_wp2_with fail
 refine(CP.out _<|(AR _ w).alloc lr _).mono ?_;rintro e w2 ⟨hv0,Gh,F1,rfl,hHh,eU,hw2,FM,hs2,Yu⟩;have hGh: ∀ i,i∈Gh->(w.alloc<|.cells #[.string hn,.slice pt nt ct,.slice pb nb cb,.slice pg ng cg] 44).heap.size<=i/\i<w2.heap.size:=fun i hi=>⟨eU.ge i hi,eU.lt i hi⟩;obtain⟨pa,c,rfl⟩:=AQ.form hHh;generalize tX:hd.length=n at*;have HN9:=AC tX;clear tX eU;have Zu:AF (∀ i,i∈Gh->w.heap.size+1<=i/\i<w2.heap.size/\i∉F1):=⟨fun i hi=>⟨by have:=(hGh i hi).1;simpa using this,(hGh i hi).2,Yu i hi⟩⟩;clear hGh Yu;have lF:w.heap.size∉F:=fun h=>by have:=Rj _ h;omega
 have R2:=(AO.new w #[.string hn,.slice pt nt ct,.slice pb nb cb,.slice pg ng cg] 44).of<|FM.block w.heap.size zw lF;have l2:w.heap.size<w2.heap.size:=R2.lt;obtain⟨W0,hW0⟩: ∃ W0,AF ((w2.alloc<|.map #[] 0).alloc (.cells (Qg p w2.heap.size hn<|.slice pa n c) 313)=W0):=⟨_,⟨rfl⟩⟩;have B0:Bl w2 W0:=hW0.out▸((AR _ w2).alloc lr _).alloc zw _;have S0:W0.heap.size=w2.heap.size+2:=by rw[<- hW0.out];simp
 have L1:AO W0 (w2.heap.size+1) (Qg p w2.heap.size hn<|.slice pa n c) 313:=hW0.out▸Ur w2 _ _ _;have R0:=AC<|R2.of<|B0.block _ l2;obtain⟨r0,r1,r2,r3,rs⟩:=R0.out.four;have r2':=r2;rw[<- hW0.out]at r2';have hO0:Off F w W0:=(((Off.of<|(AR _ w).alloc lr _).trans FM fun _ h=> .inl h)).trans (Off.of (F:=[]) B0) fun _ h=>(by cases h);have hs1: ∀ i,i∈F1->i∈F\/(w.heap.size+1<=i/\i<w2.heap.size):=fun i hi=>(hs2 i hi).imp id fun h=>⟨by simpa using h,hw2.lt i hi⟩;have CVs:(Qg p w2.heap.size hn<|.slice pa n c).size=972:=qh _ _ _ _;have CV3:(Qg p w2.heap.size hn<|.slice pa n c)[3]?=some (zn):=jl _ _ _ _ 3 zx;have A0:Yey W0 (w2.heap.size+1) p (Qg p w2.heap.size hn<|.slice pa n c) fs F1 (vs1,[]) W0:=by
  refine⟨zn,[],F1,hw2.of B0.size fun j hj=>B0.block j (hw2.lt j hj),?_,AQ.nil,Ag.nil _ _,fun _ h=> .inl h,fun _ h=>(by cases h),Off.refl _ _⟩;rw[Zwa CV3];exact L1
 have HA0:=AC A0;have HH:=AC<|AJ hHh<|AJ hw2<|AJ hO0<|AJ hs1 B0;have L1':=AC L1;have M0:AF (W0.heap[w2.heap.size]?=some (.map #[] 0)):=⟨hW0.out▸(Ah _ _ _ zw).trans (World.alloc_heap_new w2 _)⟩;clear hHh hw2 FM hs2 A0 L1 CV3 B0 hO0 hs1 R2;generalize Dt:Qg p w2.heap.size hn (.slice pa n c)=CV at*;have oG:=Dt;rw[<- Yl]at oG;clear Yl;go_wp2_with fail
 clear oG;rw[hW0.out];have lq:w2.heap.size+1<W0.heap.size:=zx
 have hBq:B<=w2.heap.size:=zx
 have lV: ∀ i,i∈F1->i<w2.heap.size/\B<=i:=fun i hi=>(HH.out.2.2.2.1 i hi).elim (fun h=>⟨by have:=Rj i h;omega,hFB i h⟩) fun h=>⟨h.2,zx⟩;have BC:AF (∀ wr,Off ((w2.heap.size+1)::F1) W0 wr->Below B w wr):=⟨fun wr ho=>(HH.out.2.2.1.below hFB hB).trans (ho.below (fun i hi=>by
  simp only[Ak]at hi;rcases hi with rfl | hi
  ·omega
  ·exact(lV i hi).2) zx)⟩
 clear r2' aI;go_loopw [22] (fun iv wr=> ∃ k,k<=nb/\iv= zo ((k:Nat):Int)/\Yey W0 (w2.heap.size+1) p CV fs F1 ((bd.take k).foldl Jv (vs1,[])) wr) (fun iv _=>nb-Td iv)
 case atStart=>exact⟨0,Eg _,rfl,HA0.out⟩
 case round=>
  obtain⟨k,hk,rfl,sv,Fa,F',hwd,hblk,hrow,Bi,Dh,Po,DL⟩:=hrel;have hlv:=XN.out k;obtain⟨st,hst⟩: ∃ st,AF ((bd.take k).foldl Jv (vs1,[])=st):=⟨_,⟨rfl⟩⟩;have hk2:st.2.length<=4:=by rw[<- hst.out,Zqr];simp;omega
  rw[hst.out]at hlv hwd hrow;have jK:=BC.out wr DL;have lwr:W0.heap.size<=wr.heap.size:=DL.size;obtain⟨ps,Ja,rfl⟩:=hrow.form;have yB:w2.heap.size+1∉F':=fun h=>by
   rcases Dh _ h with h | h
   ·have:=(lV _ h).1;omega
   ·omega
  have qFa:w2.heap.size+1∉Fa:=fun h=>by have:=Bi.ge _ h;omega
  have jO: ∀ u,AO u (w2.heap.size+1) (CV.setIfInBounds 3<|.slice ps st.2.length Ja) 313->u.cell? (zm (w2.heap.size+1) 3)=some (.slice ps st.2.length Ja):=fun u hu=>by rw[hu.cell,Dy,if_pos rfl,if_pos zx]
  have HR:=AC<|AJ hwd<|AJ hblk<|AJ hrow<|AJ Bi<|AJ Dh<|AJ Po DL;by_cases hlt:k<nb
  ·obtain⟨a,hak⟩: ∃ a,bd[k]?=some a:=⟨_,A8 (by have:=RI.out;omega)⟩;obtain⟨Aq,hat⟩:=H1.out a<|Ej hak;obtain⟨bb,oo,rfl,hA⟩:=HBD.out.at_ k a hak;obtain⟨G4,pc,cc,z0,z1,hAS⟩:=(Ep.carry (Go.W.Below.carry jK lr) lr hA).vals;obtain⟨pc',cc',e1,_,_,hrt⟩:=hAS;injection e1 with _ e1;injection e1 with e1 _;injection e1 with e1 _ e3;subst e1;subst e3;have g:(k:Int)<(nb:Int):=zx
   have aT:B<=wr.heap.size:=Ab hB jK.size;have yL: ∀ j,j∈F'->j<wr.heap.size/\B<=j:=fun j hj=>⟨hwd.lt j hj,(Dh j hj).elim (fun h=>(lV j h).2) zx⟩;have CS:=AC fun u (hu:Bl wr u)=>Zk9 (c:=cc) (n:=a.name) (hwd.of hu.size fun j hj=>hu.block j (hwd.lt j hj)) (hrt.carry fun b o x q=>He.carry (Bq hu aT) lr q) (Ab aT hu.size) Aq hat zx (fun j hj=>(yL j hj).2);have z3:=fun ob=>jO _ (hblk.alloc ob);have sW:w2.heap.size+1<wr.heap.size:=zx
   have AK:=AC hak;clear hwd hblk hrow Bi Dh Po DL hA hrt hak hat
   generalize hla:a.terms.length=na at*;go_wp2_with fail
   have RA: ∀ j,j∈Fa->j<wr.heap.size:=fun j hj=>HR.out.2.2.2.1.lt j hj;have sj: ∀ j,j∈F'->j<wr.heap.size:=fun j hj=>HR.out.1.lt j hj;have Pq:=AO.new wr #[.string a.name,.slice pc na cc] 41;obtain⟨WB,hWB⟩: ∃ WB,AF (wr.alloc (.cells #[.string a.name,.slice pc na cc] 41)=WB):=⟨_,⟨rfl⟩⟩;rw[hWB.out]at Pq⊢;have szB:WB.heap.size=wr.heap.size+1:=by rw[<- hWB.out];simp
   have BB:Bl wr WB:=hWB.out▸(AR _ wr).alloc lr _;have qB:=HR.out.2.1.of<|BB.block _ sW;have AY:=AJ (jO _<|qB.of (w':=WB.drew) rfl)<|AJ (Pq.of (w':=WB.drew) rfl).two.1 (Pq.of (w':=WB.drew) rfl).two.2.1;clear z3;refine Vj 12 (fun u=>u.cell? (zm (w2.heap.size+1) 3)=some (.slice ps st.2.length Ja)/\u.cell? (zm wr.heap.size 0)=some (.string a.name)/\u.cell? (zm wr.heap.size 1)=some (.slice pc na cc)) zt ?_;refine tz 0 (zq (w2.heap.size+1) 0) AY ?_;try simp only[zz]
   refine tz 1 (zq (w2.heap.size+1) 0) AY ?_;try simp only[zz]
   refine tz 2 (zq (w2.heap.size+1) 0) AY ?_;try simp only[zz]
   refine tz 3 (zq (w2.heap.size+1) 3) AY ?_;try simp only[zz]
   refine tz 4 (.slice ps st.2.length Ja) AY (hy:=fun _ ⟨s0,s1,s2⟩=>by go_simp) ?_;try simp only[zz]
   refine tz 5 (zq p 0) AY ?_;try simp only[zz]
   refine tz 6 (.agg #[.string a.name,.slice pc na cc]) AY (hy:=fun _ ⟨s0,s1,s2⟩=>by go_simp) ?_;try simp only[zz]
   refine rz 7 (h:=fun K' hK'=>?_);go_simp;refine(CS.out _ BB.drew).mono ?_;rintro e w5 ⟨sv5,G5,F5,rfl,UK,Pm,RP,Di,hs5,dh⟩;obtain⟨p5,c5,rfl⟩:=AQ.form UK;obtain⟨n5,nL⟩: ∃ n5,AF ((Cc st.1 a.terms).1.length=n5):=⟨_,⟨rfl⟩⟩;rw[nL.out]at UK⊢;have VD:wr.heap.size+1<=w5.heap.size:=by have:WB.heap.size<=w5.heap.size:=Di.size;omega
   have di: ∀ i,i∈G5->wr.heap.size+1<=i:=fun i hi=>by have:WB.heap.size<=i:=Pm.ge i hi;omega
   have K5:=(qB.of (w':=WB.drew) rfl).of<|Di.block _ (by show _<WB.heap.size;omega) yB;have X5:=(Pq.of (w':=WB.drew) rfl).of (Di.block _ (by show _<WB.heap.size;omega) fun h=>by have:=sj _ h;omega);refine hK'.out _ _ ⟨jO _ K5,X5.two.1,X5.two.2.1⟩ ?_;try simp only[zz]
   refine rz 8 (h:=fun K' hK'=>?_);go_simp;obtain⟨W6,hW6⟩: ∃ W6,AF (w5.alloc (.cells #[.string a.name,.slice p5 n5 c5] 292)=W6):=⟨_,⟨rfl⟩⟩;rw[hW6.out];have sz6:W6.heap.size=w5.heap.size+1:=by rw[<- hW6.out];simp
   have B6:Bl w5 W6:=hW6.out▸(AR _ w5).alloc lr _;have N6:W6.heap[w5.heap.size]?=some (.cells #[.string a.name,.slice p5 n5 c5] 292):=hW6.out▸Hw _ _;have K6:=K5.of<|B6.block _ K5.lt;have X6:=X5.of<|B6.block _ X5.lt;refine hK'.out _ _ ⟨jO _ K6,X6.two.1,X6.two.2.1⟩ ?_;try simp only[zz]
   have sl6:=AQ.stable La.stable _ W6 _ _ _ UK fun j hj=>B6.block j (Pm.lt j hj);have R6:AQ 292 2 Rq W6 (.slice ps st.2.length Ja) st.2 Fa:=AQ.stable Rq.stable _ _ _ _ _ HR.out.2.2.1 fun j hj=>((B6.block j (by have:=RA j hj;omega)).trans<|Di.block j (by have:=RA j hj;show _<WB.heap.size;omega)<|HR.out.2.2.2.2.2.1 j hj).trans (BB.block j<|RA j hj);refine rz 9 (h:=fun K' hK'=>?_);refine X3 Yfu rfl (.tmp 30) (.tmp 34) rfl Rq.stable Rq.one W0.heap.size (.slice ps st.2.length Ja) st.2 Fa rfl R6 w5.heap.size #[.string a.name,.slice p5 n5 c5] 292 (0,0) (a.name,(Cc st.1 a.terms).1) G5 rfl N6 rfl ⟨_,rfl,sl6⟩ zx zx (HR.out.2.2.2.1.later lr zx) ⟨Pm.once,fun i hi=>by have:=di i hi;omega,fun i hi=>by have:=Pm.lt i hi;omega⟩ (fun i hi h=>by have:=di i h;have:=RA i hi;omega) ?_;intro g6 Cm w6 F6 AM;have h6w:=AM.size;have K7:=K6.of<|AM.same _ K6.lt qFa;have X7:=X6.of (AM.same _ X6.lt fun h=>by have:=RA _ h;omega);have JZ:=AJ (jO _ K7)<|AJ X7.two.1 X7.two.2.1;have ks7:=K7.soft;refine hK'.out _ _ JZ ?_;try simp only[zz]
   refine rz 10 (h:=fun K' hK'=>?_);go_simp;refine hK'.out _ _ JZ ?_;try simp only[zz]
   refine rz 11 (h:=fun K' hK'=>?_);go_simp;refine hK'.out _ _ JZ ?_;try simp only[zz]
   have c37:=JZ.1;refine Q0 (h:=fun K' hK'=>?_);go_simp;refine hK'.out _ _ ?_;try simp only[zz]
   refine dz (h:=?_);have Gn: ∀ i,i∈F5->i∈F'\/wr.heap.size+1<=i:=fun i hi=>(hs5 i hi).imp id fun h=>by have:WB.heap.size<=i:=h;omega
   have lu: ∀ i,i∈F5->i≠w2.heap.size+1:=fun i hi e=>by
    subst e;rcases Gn _ hi with h | h
    ·exact yB h
    ·omega
   have cB: ∀ i,i∈F5->i∉Fa:=fun i hi h=>by
    rcases Gn i hi with h' | h'
    ·exact HR.out.2.2.2.2.2.1 i h h'
    ·have:=RA i h;omega
   have lm: ∀ i,i∈F6->i≠w2.heap.size+1:=fun i hi e=>by
    subst e;rcases AM.sub _ hi with h | h | h
    ·exact qFa h
    ·have:=di _ h;omega
    ·omega
   have l5: ∀ i,i∈F5->i<w5.heap.size:=fun i hi=>RP.lt i hi;have EQ:(bd.take<|k+1).foldl Jv (vs1,[])=((Cc st.1 a.terms).2,st.2++[(a.name,(Cc st.1 a.terms).1)]):=by
    rw[PM,AK.out,List.foldl_append,hst.out];simp[Jv]
   have A1:Yey W0 (w2.heap.size+1) p CV fs F1 ((bd.take<|k+1).foldl Jv (vs1,[])) (w6.setCell (zm (w2.heap.size+1) 3)<|.slice (Qb g6 0) (st.2.length+1) Cm):=by
    rw[EQ];have KS:=K7.set 3<|.slice (Qb g6 0) (st.2.length+1) Cm;rw[rM]at KS;refine⟨.slice (Qb g6 0) (st.2.length+1) Cm,F6,F5,RP.of (by simp[World.setCell];omega) fun j hj=>(Aw _ _ _ _<|lu j hj).trans ((AM.same j (by have:=l5 j hj;omega)<|cB j hj).trans<|B6.block j<|l5 j hj),KS,AQ.stable Rq.stable _ _ _ _ _ AM.row fun j hj=>Aw _ _ _ _ (lm j hj),AM.new.later lr (by simp[World.setCell]),fun i hi=>?_,fun i hi h=>?_,?_⟩
    ·rcases Gn i hi with h | h
     ·exact HR.out.2.2.2.2.1 i h
     ·exact .inr zx
    ·rcases AM.sub i hi with h' | h' | h'
     ·exact cB i h h'
     ·exact dh i h' h
     ·have:=l5 i h;omega
    ·refine Off.set ((((HR.out.2.2.2.2.2.2.trans (Off.of (F:=[]) BB) fun _ h=>(by cases h)).drew).trans Di fun i hi=>?_).trans (G:=Fa) ?_ fun i hi=> .inr (HR.out.2.2.2.1.ge i hi)) _ _ _<|.inl zw
     ·rcases HR.out.2.2.2.2.1 i hi with h | h
      ·exact .inl (by simp[h])
      ·exact .inr h
     ·exact(Off.of B6).trans ⟨AM.os,AM.tape,AM.output,AM.size,AM.same⟩ fun _ h=> .inl h
   have HA1:=AC A1;clear A1 EQ Gn lu cB lm l5 AM RP Di hs5 JZ K7 X7 c37 R6 K6 X6 K5 X5;go_wp2
   exact⟨⟨k+1,zx,zw,HA1.out⟩,by simp[Td];omega⟩
  ·have g: ¬ (k:Int)<(nb:Int):=zx
   obtain rfl:k=nb:=zx
   rw[<- hst.out]at HR;have e3:=(BC.out wr DL);clear jO;have rc:=R0.out.of<|DL.block w.heap.size zx (fun h=>by
    simp only[Ak]at h;rcases h with h | h
    ·omega
    ·rcases HH.out.2.2.2.1 _ h with h | h
     ·exact lF h
     ·omega)
   obtain⟨x0,x1,x2,x3,xs⟩:=rc.four;have e4:(CV.setIfInBounds 3<|.slice ps st.2.length Ja)[4]?=some (zn):=by rw[Dy,if_neg zx,<- Dt];exact jl _ _ _ _ 4 zx
   have Tz:=AC<|AJ hwd<|AJ hblk<|AJ hrow<|AJ Bi<|AJ Dh<|AJ Po DL;have jN:bd.foldl Jv (vs1,[])=st:=by rw[<- hst.out,U0 (by have:=RI.out;omega)]
   rw[jN]at HLG HZ;have HE:=AC jN;clear jN;obtain⟨CW,hCW⟩: ∃ CW,AF (CV.setIfInBounds 3 (.slice ps st.2.length Ja)=CW):=⟨_,⟨rfl⟩⟩;have CWs:CW.size=972:=by rw[<- hCW.out];simpa using CVs
   rw[hCW.out]at hblk e4;have HG0:AF (Ye3 wr (w2.heap.size+1) p CW fs F' (st.1,[]) wr):=⟨zn,[],F',hwd,by rw[Zwa e4];exact hblk,AQ.nil,Ag.nil _ _,fun _ h=> .inl h,fun _ h=>(by cases h),Off.refl _ _⟩;have sW:w2.heap.size+1<wr.heap.size:=zx
   have sj: ∀ j,j∈F'->j<wr.heap.size/\B<=j:=fun j hj=>⟨hwd.lt j hj,(Dh j hj).elim (fun h=>(lV j h).2) zx⟩;clear hwd hblk hrow Bi Dh Po DL;go_wp2_with fail
   obtain⟨W1,rfl⟩: ∃ W1,W1=wr:=⟨_,rfl⟩;have BC1:AF (∀ wr,Off ((w2.heap.size+1)::F') W1 wr->Below B w wr):=⟨fun wr ho=>jK.trans (ho.below (fun i hi=>by
    simp only[Ak]at hi;rcases hi with rfl | hi
    ·omega
    ·exact(sj i hi).2) zx)⟩
   go_loopw [42] (fun iv wr=> ∃ k,k<=ng/\iv= zo ((k:Nat):Int)/\Ye3 W1 (w2.heap.size+1) p CW fs F' ((gu.take k).foldl Ld (st.1,[])) wr) (fun iv _=>ng-Td iv)
   case atStart=>exact⟨0,Eg _,rfl,HG0.out⟩
   case round=>
   clear x0 x1 x2 x3 xs rc e3;obtain⟨i,hi,rfl,gsv,Fg,F2,hwd,hblk,hrow,Bi,Dh,Po,DL⟩:=hrel;have zG:=HLG.out i;obtain⟨sg,hsg⟩: ∃ sg,AF ((gu.take i).foldl Ld (st.1,[])=sg):=⟨_,⟨rfl⟩⟩;have hk3:sg.2.length<=4:=by rw[<- hsg.out,Zqq];simp;omega
   rw[hsg.out]at zG hwd hrow;have o9:=BC1.out wr DL;have lwr2:W1.heap.size<=wr.heap.size:=DL.size;obtain⟨YP,Yy,rfl⟩:=hrow.form;have sS:w2.heap.size+1∉F2:=fun h=>by
    rcases Dh _ h with h | h
    ·exact yB h
    ·omega
   have qFg:w2.heap.size+1∉Fg:=fun h=>by have:=Bi.ge _ h;omega
   have cq4: ∀ u,AO u (w2.heap.size+1) (CW.setIfInBounds 4<|.slice YP sg.2.length Yy) 313->u.cell? (zm (w2.heap.size+1) 4)=some (.slice YP sg.2.length Yy):=fun u hu=>by rw[hu.cell,Dy,if_pos rfl,if_pos zx]
   have Ao:=AC<|AJ hwd<|AJ hblk<|AJ hrow<|AJ Bi<|AJ Dh<|AJ Po DL;by_cases hlt:i<ng
   ·obtain⟨x,GR⟩: ∃ x,gu[i]?=some x:=⟨_,A8 (by have:=hng.out;omega)⟩;obtain⟨hoa,hob,xo,Ou⟩:=H2.out x<|Ej GR;obtain⟨bb,oo,rfl,hG⟩:=HGD.out.at_ i x GR;obtain⟨G4,p1,c1,p2,c2,v0,v1,v2,v3,v4,v5,v6,v7,v8,ow⟩:=(QK.carry (Go.W.Below.carry o9 lr) lr hG).vals;have g:(i:Int)<(ng:Int):=zx
    have aT:B<=wr.heap.size:=Ab hB o9.size;have iU: ∀ j,j∈F2->j<wr.heap.size/\B<=j:=fun j hj=>⟨hwd.lt j hj,(Dh j hj).elim (fun h=>(sj j h).2) zx⟩;have CS:=AC fun u (hu:Bl wr u)=>Zsi (hwd.of hu.size fun j hj=>hu.block j (hwd.lt j hj)) (TQ.carry ow<|Bq hu aT) (Ab aT hu.size) (fun j hj=>(iU j hj).2) hoa hob zx;have sW:w2.heap.size+1<wr.heap.size:=zx
    have XV: ∀ j,j∈Fg->j<wr.heap.size:=fun j hj=>Bi.lt j hj;have AK:=AC GR;have HXO:=AC Ou;clear hwd hblk hrow Bi Dh Po DL hG ow GR Ou;go_wp2_with fail
    have Pq:=AO.new wr #[zo x.op,zo x.a.k,zo x.a.i,.string x.a.t,.slice p1 x.a.l.length c1,zo x.b.k,zo x.b.i,.string x.b.t,.slice p2 x.b.l.length c2] 48;obtain⟨WB,hWB⟩: ∃ WB,AF (wr.alloc (.cells #[zo x.op,zo x.a.k,zo x.a.i,.string x.a.t,.slice p1 x.a.l.length c1,zo x.b.k,zo x.b.i,.string x.b.t,.slice p2 x.b.l.length c2] 48)=WB):=⟨_,⟨rfl⟩⟩;rw[hWB.out]at Pq⊢;have szB:WB.heap.size=wr.heap.size+1:=by rw[<- hWB.out];simp
    have BB:Bl wr WB:=hWB.out▸(AR _ wr).alloc lr _;have qB:=Ao.out.2.1.of<|BB.block _ sW;have xU:AF (∀ u,AO u (w2.heap.size+1) (CW.setIfInBounds 4<|.slice YP sg.2.length Yy) 313->AO u wr.heap.size #[zo x.op,zo x.a.k,zo x.a.i,.string x.a.t,.slice p1 x.a.l.length c1,zo x.b.k,zo x.b.i,.string x.b.t,.slice p2 x.b.l.length c2] 48->u.cell? (zm (w2.heap.size+1) 4)=some (.slice YP sg.2.length Yy)/\u.cell? (zm wr.heap.size 0)=some (zo x.op)/\u.cell? (zm wr.heap.size 1)=some (zo x.a.k)/\u.cell? (zm wr.heap.size 2)=some (zo x.a.i)/\u.cell? (zm wr.heap.size 3)=some (.string x.a.t)/\u.cell? (zm wr.heap.size 4)=some (.slice p1 x.a.l.length c1)/\u.cell? (zm wr.heap.size 5)=some (zo x.b.k)/\u.cell? (zm wr.heap.size 6)=some (zo x.b.i)/\u.cell? (zm wr.heap.size 7)=some (.string x.b.t)/\u.cell? (zm wr.heap.size 8)=some (.slice p2 x.b.l.length c2)):=⟨fun u h1 h2=>⟨cq4 u h1,(h2.cell 0).trans rfl,(h2.cell 1).trans rfl,(h2.cell 2).trans rfl,(h2.cell 3).trans rfl,(h2.cell 4).trans rfl,(h2.cell 5).trans rfl,(h2.cell 6).trans rfl,(h2.cell 7).trans rfl,(h2.cell 8).trans rfl⟩⟩;have AY:=xU.out WB.drew (qB.of (w':=WB.drew) rfl)<|Pq.of (w':=WB.drew) rfl;clear v0 v1 v2 v3 v4 v5 v6 v7 v8;refine Vj 12 (fun u=>u.cell? (zm (w2.heap.size+1) 4)=some (.slice YP sg.2.length Yy)/\u.cell? (zm wr.heap.size 0)=some (zo x.op)/\u.cell? (zm wr.heap.size 1)=some (zo x.a.k)/\u.cell? (zm wr.heap.size 2)=some (zo x.a.i)/\u.cell? (zm wr.heap.size 3)=some (.string x.a.t)/\u.cell? (zm wr.heap.size 4)=some (.slice p1 x.a.l.length c1)/\u.cell? (zm wr.heap.size 5)=some (zo x.b.k)/\u.cell? (zm wr.heap.size 6)=some (zo x.b.i)/\u.cell? (zm wr.heap.size 7)=some (.string x.b.t)/\u.cell? (zm wr.heap.size 8)=some (.slice p2 x.b.l.length c2)) zt ?_;refine tz 0 (zq (w2.heap.size+1) 0) AY ?_;try simp only[zz]
    refine tz 1 (zq (w2.heap.size+1) 0) AY ?_;try simp only[zz]
    refine tz 2 (zq (w2.heap.size+1) 0) AY ?_;try simp only[zz]
    refine tz 3 (zq (w2.heap.size+1) 4) AY ?_;try simp only[zz]
    refine tz 4 (.slice YP sg.2.length Yy) AY (hy:=fun _ ⟨s0,s1,s2,s3,s4,s5,s6,s7,s8,s9⟩=>by go_simp) ?_;try simp only[zz]
    refine tz 5 (zq p 0) AY ?_;try simp only[zz]
    refine tz 6 (.agg #[zo x.op,zo x.a.k,zo x.a.i,.string x.a.t,.slice p1 x.a.l.length c1,zo x.b.k,zo x.b.i,.string x.b.t,.slice p2 x.b.l.length c2]) AY (hy:=fun _ ⟨s0,s1,s2,s3,s4,s5,s6,s7,s8,s9⟩=>by go_simp) ?_;try simp only[zz]
    refine rz 7 (h:=fun K' hK'=>?_);go_simp;refine(CS.out _ BB.drew).mono ?_;rintro e w5 ⟨rfl,F5,RP,Di,hs5⟩;have VD:wr.heap.size+1<=w5.heap.size:=by have:WB.heap.size<=w5.heap.size:=Di.size;omega
    have K5:=(qB.of (w':=WB.drew) rfl).of<|Di.block _ (by show _<WB.heap.size;omega) sS;have X5:=(Pq.of (w':=WB.drew) rfl).of (Di.block _ (by show _<WB.heap.size;omega) fun h=>by have:=(iU _ h).1;omega);refine hK'.out _ _ (xU.out _ K5 X5) ?_;try simp only[zz]
    refine rz 8 (h:=fun K' hK'=>?_);go_simp;obtain⟨W6,hW6⟩: ∃ W6,AF (w5.alloc (.cells #[zo x.op,.string (Dw sg.1 x.a).1,zo ((Dw sg.1 x.a).2:Int),.string (Dw (Eb sg.1 x.a) x.b).1,zo ((Dw (Eb sg.1 x.a) x.b).2:Int)] 337)=W6):=⟨_,⟨rfl⟩⟩;rw[hW6.out];have sz6:W6.heap.size=w5.heap.size+1:=by rw[<- hW6.out];simp
    have B6:Bl w5 W6:=hW6.out▸(AR _ w5).alloc lr _;have N6:W6.heap[w5.heap.size]?=some (.cells #[zo x.op,.string (Dw sg.1 x.a).1,zo ((Dw sg.1 x.a).2:Int),.string (Dw (Eb sg.1 x.a) x.b).1,zo ((Dw (Eb sg.1 x.a) x.b).2:Int)] 337):=hW6.out▸Hw _ _;have K6:=K5.of<|B6.block _ K5.lt;have X6:=X5.of<|B6.block _ X5.lt;refine hK'.out _ _ (xU.out _ K6 X6) ?_;try simp only[zz]
    have R6:AQ 337 5 Uw W6 (.slice YP sg.2.length Yy) sg.2 Fg:=AQ.stable Uw.stable _ _ _ _ _ Ao.out.2.2.1 fun j hj=>((B6.block j (by have:=XV j hj;omega)).trans<|Di.block j (by have:=XV j hj;show _<WB.heap.size;omega)<|Ao.out.2.2.2.2.2.1 j hj).trans (BB.block j<|XV j hj);refine rz 9 (h:=fun K' hK'=>?_);refine X3 Yfs rfl (.tmp 50) (.tmp 54) rfl Uw.stable Uw.one W1.heap.size (.slice YP sg.2.length Yy) sg.2 Fg rfl R6 w5.heap.size #[zo x.op,.string (Dw sg.1 x.a).1,zo ((Dw sg.1 x.a).2:Int),.string (Dw (Eb sg.1 x.a) x.b).1,zo ((Dw (Eb sg.1 x.a) x.b).2:Int)] 337 (0,0) (x.op.toNat,Dw sg.1 x.a,Dw (Eb sg.1 x.a) x.b) [] rfl N6 rfl ⟨rfl,by rw[HXO.out];simp⟩ zx zx (Ao.out.2.2.2.1.later lr zx) (Ag.nil _ _) (fun _ _ h=>(by cases h)) ?_;intro g6 Cm w6 F6 AM;have h6w:=AM.size;have K7:=K6.of<|AM.same _ K6.lt qFg;have X7:=X6.of (AM.same _ X6.lt fun h=>by have:=XV _ h;omega);have JZ:=xU.out _ K7 X7;have ks7:=K7.soft;refine hK'.out _ _ JZ ?_;try simp only[zz]
    refine rz 10 (h:=fun K' hK'=>?_);go_simp;refine hK'.out _ _ JZ ?_;try simp only[zz]
    refine rz 11 (h:=fun K' hK'=>?_);go_simp;refine hK'.out _ _ JZ ?_;try simp only[zz]
    have c37:=JZ.1;refine Q0 (h:=fun K' hK'=>?_);go_simp;refine hK'.out _ _ ?_;try simp only[zz]
    refine dz (h:=?_);have Gn: ∀ i,i∈F5->i∈F2\/wr.heap.size+1<=i:=fun i hi=>(hs5 i hi).imp id fun h=>by have:WB.heap.size<=i:=h;omega
    have lu: ∀ i,i∈F5->i≠w2.heap.size+1:=fun i hi e=>by
     subst e;rcases Gn _ hi with h | h
     ·exact sS h
     ·omega
    have cB: ∀ i,i∈F5->i∉Fg:=fun i hi h=>by
     rcases Gn i hi with h' | h'
     ·exact Ao.out.2.2.2.2.2.1 i h h'
     ·have:=XV i h;omega
    have lm: ∀ i,i∈F6->i≠w2.heap.size+1:=fun i hi e=>by
     subst e;rcases AM.sub _ hi with h | h | h
     ·exact qFg h
     ·cases h
     ·omega
    have l5: ∀ i,i∈F5->i<w5.heap.size:=fun i hi=>RP.lt i hi;have EQ:(gu.take<|i+1).foldl Ld (st.1,[])=(Eb (Eb sg.1 x.a) x.b,sg.2++[(x.op.toNat,Dw sg.1 x.a,Dw (Eb sg.1 x.a) x.b)]):=by
     rw[PM,AK.out,List.foldl_append,hsg.out];simp[Ld]
    have A1:Ye3 W1 (w2.heap.size+1) p CW fs F' ((gu.take<|i+1).foldl Ld (st.1,[])) (w6.setCell (zm (w2.heap.size+1) 4)<|.slice (Qb g6 0) (sg.2.length+1) Cm):=by
     rw[EQ];have KS:=K7.set 4<|.slice (Qb g6 0) (sg.2.length+1) Cm;rw[rM]at KS;refine⟨.slice (Qb g6 0) (sg.2.length+1) Cm,F6,F5,RP.of (by simp[World.setCell];omega) fun j hj=>(Aw _ _ _ _<|lu j hj).trans ((AM.same j (by have:=l5 j hj;omega)<|cB j hj).trans<|B6.block j<|l5 j hj),KS,AQ.stable Uw.stable _ _ _ _ _ AM.row fun j hj=>Aw _ _ _ _ (lm j hj),AM.new.later lr (by simp[World.setCell]),fun i hi=>?_,fun i hi h=>?_,?_⟩
     ·rcases Gn i hi with h | h
      ·exact Ao.out.2.2.2.2.1 i h
      ·exact .inr zx
     ·rcases AM.sub i hi with h' | h' | h'
      ·exact cB i h h'
      ·cases h'
      ·have:=l5 i h;omega
     ·refine Off.set ((((Ao.out.2.2.2.2.2.2.trans (Off.of (F:=[]) BB) fun _ h=>(by cases h)).drew).trans Di fun i hi=>?_).trans (G:=Fg) ?_ fun i hi=> .inr (Ao.out.2.2.2.1.ge i hi)) _ _ _<|.inl zw
      ·rcases Ao.out.2.2.2.2.1 i hi with h | h
       ·exact .inl (by simp[h])
       ·exact .inr h
      ·exact(Off.of B6).trans ⟨AM.os,AM.tape,AM.output,AM.size,AM.same⟩ fun _ h=> .inl h
    have HA1:=AC A1;clear A1 EQ Gn lu cB lm l5 AM RP Di hs5 JZ K7 X7 c37 R6 K6 X6 K5 X5;go_wp2
    exact⟨⟨i+1,zx,zw,HA1.out⟩,by simp[Td];omega⟩
   ·have g: ¬ (i:Int)<(ng:Int):=zx
    obtain rfl:i=ng:=zx
    have e1: ∀ j,j<4->(CW.setIfInBounds 4<|.slice YP sg.2.length Yy)[j]?=(CV.setIfInBounds 3<|.slice ps st.2.length Ja)[j]?:=fun j hj=>by rw[Dy,if_neg zx,hCW.out]
    have q1:wr.cell? (zm (w2.heap.size+1) 1)=some (.string hn):=by rw[hblk.cell,e1 1 zx,Dy,if_neg zx,<- Dt];exact jl _ _ _ _ 1 zx
    have q2:wr.cell? (zm (w2.heap.size+1) 2)=some (.slice pa n c):=by rw[hblk.cell,e1 2 zx,Dy,if_neg zx,<- Dt];exact jl _ _ _ _ 2 zx
    have q3:wr.cell? (zm (w2.heap.size+1) 3)=some (.slice ps st.2.length Ja):=by rw[hblk.cell,e1 3 zx,Dy,if_pos rfl,if_pos zx]
    have qs:=hblk.soft;have lqw:=hblk.lt;have esg:gu.foldl Ld (st.1,[])=sg:=by rw[<- hsg.out,U0 (by have:=hng.out;omega)]
    have HE2:=AC esg;clear esg;clear hwd hblk hrow Bi Dh Po DL cq4 e1;go_wp2_with fail
    have AY:=AJ q1<|AJ q2 q3;refine Vj 12 (fun u=>u.cell? (zm (w2.heap.size+1) 1)=some (.string hn)/\u.cell? (zm (w2.heap.size+1) 2)=some (.slice pa n c)/\u.cell? (zm (w2.heap.size+1) 3)=some (.slice ps st.2.length Ja)) zt ?_;refine tz 0 (zq (w2.heap.size+1) 0) AY ?_;try simp only[zz]
    refine tz 1 (zq (w2.heap.size+1) 0) AY ?_;try simp only[zz]
    refine tz 2 (zq (w2.heap.size+1) 0) AY ?_;try simp only[zz]
    refine tz 3 (zq (w2.heap.size+1) 1) AY ?_;try simp only[zz]
    refine tz 4 (.agg #[.string hn,.slice pa n c]) AY (hy:=fun _ ⟨s0,s1,s2⟩=>by go_simp) ?_;try simp only[zz]
    refine tz 5 (zq (w2.heap.size+1) 0) AY ?_;try simp only[zz]
    refine tz 6 (zq (w2.heap.size+1) 0) AY ?_;try simp only[zz]
    refine tz 7 (zq (w2.heap.size+1) 3) AY ?_;try simp only[zz]
    refine tz 8 (.slice ps st.2.length Ja) AY (hy:=fun _ ⟨s0,s1,s2⟩=>by go_simp) ?_;try simp only[zz]
    have XV: ∀ j,j∈Fg->W1.heap.size<=j/\j<wr.heap.size:=fun j hj=>⟨Ao.out.2.2.2.1.ge j hj,Ao.out.2.2.2.1.lt j hj⟩;have RA: ∀ j,j∈Fa->W0.heap.size<=j/\j<W1.heap.size/\j∉F':=fun j hj=>⟨Tz.out.2.2.2.1.ge j hj,Tz.out.2.2.2.1.lt j hj,Tz.out.2.2.2.2.2.1 j hj⟩;have xu: ∀ j,j<W0.heap.size->j≠w2.heap.size+1->j∉F1->wr.heap[j]?=W0.heap[j]?:=fun j h1 h2 h3=>(Ao.out.2.2.2.2.2.2.block j zx fun h=>by
     simp only[Ak]at h;rcases h with h | h
     ·exact h2 h
     ·rcases Tz.out.2.2.2.2.1 j h with h | h
      ·exact h3 h
      ·omega).trans (Tz.out.2.2.2.2.2.2.block j h1 fun h=>by
     simp only[Ak]at h;rcases h with h | h
     ·exact h2 h
     ·exact h3 h)
    have upa: ∀ j,j∈Fa->wr.heap[j]?=W1.heap[j]?:=fun j hj=>Ao.out.2.2.2.2.2.2.block j (RA j hj).2.1 fun h=>by
     simp only[Ak]at h;rcases h with h | h
     ·have:=(RA j hj).1;omega
     ·exact(RA j hj).2.2 h
    have hHr:AQ 332 2 La wr (.slice pa n c) hd Gh:=AQ.stable La.stable _ wr _ _ _ HH.out.1 fun j hj=>(xu j (by have:=(Zu.out j hj).2.1;omega) (by have:=(Zu.out j hj).2.1;omega) (Zu.out j hj).2.2).trans (HH.out.2.2.2.2.block j (Zu.out j hj).2.1);have hRr:=AQ.stable Rq.stable _ wr _ _ _ Tz.out.2.2.1 upa;obtain⟨CMr⟩:AF (Calls prog 212 #[.agg #[.string hn,.slice pa n c],.slice ps st.2.length Ja] wr.drew fun e w'=> ∃ hv Fh,e= .returned hv/\aj wr.drew w' (TS hd st.2) hv Fh):=by
     obtain⟨ph,ch,e1,sV⟩:=AQ.Jn (S:=Gh++Fa) (AQ.stable La.stable _ wr.drew _ _ _ hHr fun _ _=>rfl) (fun k hk=>by simp[hk]) HZ.out.1;obtain⟨pa',ca',e2,q2'⟩:=AQ.Vx (S:=Gh++Fa) (AQ.stable Rq.stable _ wr.drew _ _ _ hRr fun _ _=>rfl) (fun k hk=>by simp[hk]) HZ.out.2;rw[e1,e2];exact⟨Z86 sV q2' (fun j hj=>by
      rcases Aj.1 hj with hj | hj
      ·have h3:=(Zu.out j hj).2.1;show j<wr.heap.size;omega
      ·have h3:=(RA j hj).2.1;show j<wr.heap.size;omega) hk2⟩
    have CMr:=AC CMr;refine rz 9 (h:=fun K' hK'=>?_);go_simp;refine CMr.out.mono ?_;rintro e w8 ⟨ov8,Go,rfl,VM⟩;obtain⟨po,co,rfl⟩:=AQ.form VM.row;obtain⟨no,hno⟩: ∃ no,AF ((TS hd st.2).length=no):=⟨_,⟨rfl⟩⟩;rw[hno.out]at VM⊢;have GV:=VM.bel;have B8:Bl wr w8:=(AR _ wr).drew.trans GV;have K8:=Ao.out.2.1.of<|B8.block _ lqw;have cell: ∀ j,w8.cell? (zm (w2.heap.size+1) j)=wr.cell? (zm (w2.heap.size+1) j):=fun j=>A9 (a:=(zm (w2.heap.size+1) j)) (B8.block _ lqw);have eH:=AJ ((cell 1).trans q1)<|AJ ((cell 2).trans q2)<|(cell 3).trans q3;clear cell;refine hK'.out _ _ eH ?_;try simp only[zz]
    refine rz 10 (h:=fun K' hK'=>?_);go_simp;refine hK'.out _ _ eH ?_;try simp only[zz]
    refine rz 11 (h:=fun K' hK'=>?_);go_simp;refine hK'.out _ _ eH ?_;try simp only[zz]
    have ks8:=K8.soft;have k58:w8.cell? (zm (w2.heap.size+1) 5)=some (zn):=by rw[K8.cell,Dy,if_neg zx,<- hCW.out,Dy,if_neg zx,<- Dt];exact jl _ _ _ _ 5 zx
    refine Q0 (h:=fun K' hK'=>?_);go_simp;refine hK'.out _ _ ?_;try simp only[zz]
    refine dz (h:=?_);have K9:=K8.set 5<|.slice po no co;rw[<- hCW.out,<- Dt]at K9;have nq: ∀ j,j≠w2.heap.size+1->(w8.setCell (zm (w2.heap.size+1) 5)<|.slice po no co).heap[j]?=w8.heap[j]?:=fun j hj=>Aw _ _ _ _ hj;have si: ∀ j,j∈Go->wr.heap.size<=j/\j<w8.heap.size:=fun j hj=>⟨VM.new.ge j hj,VM.new.lt j hj⟩;have iU: ∀ j,j∈F2->j<wr.heap.size:=fun j hj=>Ao.out.1.lt j hj;have s89:(w8.setCell (zm (w2.heap.size+1) 5)<|.slice po no co).heap.size=w8.heap.size:=by simp[World.setCell]
    have l8:=B8.size;have SX: ∀ i,i∈F2->i∈F1\/W0.heap.size<=i:=fun i hi=>(Ao.out.2.2.2.2.1 i hi).elim (Tz.out.2.2.2.2.1 i) fun h=> .inr zx;have sF: ∀ i,i∈F1->i∈F\/w.heap.size<=i:=fun i hi=>(HH.out.2.2.2.1 i hi).imp id zx;have yG: ∀ i,w2.heap.size<=i->i∉F1:=fun i hi h=>by have:=(lV i h).1;omega
    have nm:w2.heap.size∉F2:=fun h=>by
     rcases SX _ h with h | h
     ·exact yG _ lr h
     ·omega
    have DJ:AF (xC w (w8.setCell (zm (w2.heap.size+1) 5)<|.slice po no co) (.returned<|zq (w2.heap.size+1) 0) p ⟨(hn,hd),st.2,sg.2,TS hd st.2⟩ fs sg.1 F):=by
     refine⟨w2.heap.size+1,w2.heap.size,_,Fa,_,Fg,_,Gh,_,Go,F2,rfl,K9,?_,AQ.stable Rq.stable _ _ _ _ _ hRr fun j hj=>(nq j (by have:=(RA j hj).1;omega)).trans (B8.block j (by have:=(RA j hj).2.1;omega)),AQ.stable Uw.stable _ _ _ _ _ Ao.out.2.2.1 fun j hj=>(nq j (by have:=(XV j hj).1;omega)).trans (B8.block j (XV j hj).2),AQ.stable La.stable _ _ _ _ _ hHr fun j hj=>(nq j (by have:=(Zu.out j hj).2.1;omega)).trans (B8.block j (by have:=(Zu.out j hj).2.1;omega)),AQ.stable Ut.stable _ _ _ _ _ VM.row fun j hj=>nq j (by have:=(si j hj).1;omega),Ao.out.1.of zx fun j hj=>(nq j fun e=>sS (e▸hj)).trans (B8.block j<|iU j hj),?_,fun i hi=>(SX i hi).elim (sF i) fun h=> .inr zx,?_,?_,zx⟩
     ·exact((nq _ zx).trans<|B8.block _ zx).trans<|(xu _ zx zx<|yG _ lr).trans M0.out
     ·refine Off.set ((((HH.out.2.2.1.trans Tz.out.2.2.2.2.2.2 fun i hi=>?_).trans Ao.out.2.2.2.2.2.2 fun i hi=>?_).trans (Off.of (F:=[]) B8) fun _ h=>(by cases h))) _ _ _<|.inr zx
      ·simp only[Ak]at hi;rcases hi with rfl | hi
       ·exact .inr zx
       ·exact sF i hi
      ·simp only[Ak]at hi;rcases hi with rfl | hi
       ·exact .inr zx
       ·exact(Tz.out.2.2.2.2.1 i hi).elim (sF i) fun h=> .inr zx
     ·intro i hi;simp only[Ak,Aj]at hi;rw[s89];rcases hi with rfl | rfl | hi | hi | hi | hi
      ·exact⟨zx,zx,sS⟩
      ·exact⟨zx,zx,nm⟩
      ·have h1:=RA i hi;refine⟨zx,zx,fun h=>?_⟩;rcases Ao.out.2.2.2.2.1 i h with h | h
       ·exact h1.2.2 h
       ·omega
      ·have h1:=XV i hi;exact⟨zx,zx,Ao.out.2.2.2.2.2.1 i hi⟩
      ·have h1:=Zu.out i hi;refine⟨zx,zx,fun h=>?_⟩;rcases SX i h with h | h
       ·exact h1.2.2 h
       ·omega
      ·have h1:=si i hi;exact⟨zx,zx,fun h=>by have:=iU i h;omega⟩
     ·intro i hi;simp only[Aj]at hi;rcases hi with hi | hi | hi | hi
      ·have:=RA i hi;omega
      ·have:=XV i hi;omega
      ·have:=Zu.out i hi;omega
      ·have:=si i hi;omega
    clear eH ks8 k58 K9 nq si iU s89 SX sF yG nm K8 VM GV hHr hRr xu upa;go_wp2
    go_ret
    rw[HE.out,HE2.out];exact DJ.out
end Go.P
