import Derived.Test.YtpmcefkhkkpnbaaGreatDoorW27
set_option linter.all false
set_option maxRecDepth 100000
set_option maxHeartbeats 8000000
open Go.Proofs Go.RowKit Go.W Tryz
namespace Go.W
variable {s:Nat}
def Z2n: ∀ (QT:List Bu),(∀ v,v∈QT->v.length=s)-> ∀ j u,QT.flatten[j]?=some u-> ∃ i r v,j=i*s+r/\QT[i]?=some v/\v[r]?=some u
 | [],_,j,u,h=>by simp at h
 | v::l,hv,j,u,h=>by
  have h0:=hv v zw;rw[List.flatten_cons]at h;by_cases hj:j<v.length
  ·rw[PK hj]at h;exact⟨0,j,v,zw,zw,h⟩
  ·rw[PL zx]at h;obtain⟨i,r,v',e,h1,h2⟩:=Z2n l (fun v hm=>hv v (by simp[hm])) _ _ h;exact⟨i+1,r,v',by rw[Nat.succ_mul];omega,by simpa using h1,h2⟩
def Z2p: ∀ (QT:List Bu),(∀ v,v∈QT->v.length=s)-> ∀ i v r u,QT[i]?=some v->v[r]?=some u->QT.flatten[i*s+r]?=some u
 | [],_,i,v,r,u,h,_=>by simp at h
 | v0::l,hv,0,v,r,u,h,h2=>by
  simp at h;subst h;rw[List.flatten_cons,YC,Gx,PK (DW.1 h2).1];exact h2
 | v0::l,hv,i+1,v,r,u,h,h2=>by
  have h0:=hv v0 zw;rw[List.flatten_cons,PL (by rw[Nat.succ_mul];omega),show(i+1)*s+r-v0.length=i*s+r by rw[Nat.succ_mul];omega];exact Z2p l (fun v hm=>hv v (by simp[hm])) i v r u (by simpa using h) h2
def Z2o: ∀ (QT:List Bu),(∀ v,v∈QT->v.length=s)->QT.flatten.length=QT.length*s
 | [],_=>zw
 | v::l,hv=>by rw[List.flatten_cons,JS,hv v zw,Z2o l fun v hm=>hv v (by simp[hm])];simp[Nat.succ_mul];omega
def Zxg {α β:Type}{R:α->β->Prop}: ∀ (xs:List α),(∀ (i:Nat) x,xs[i]?=some x-> ∃ y,R x y)-> ∃ ys:List β,ys.length=xs.length/\ ∀ (i:Nat) x,xs[i]?=some x-> ∃ y,ys[i]?=some y/\R x y
 | [],_=>⟨[],rfl,fun i x h=>by simp at h⟩
 | x::l,h=>by
  obtain⟨y,hy⟩:=h 0 x rfl;obtain⟨ys,h1,h2⟩:=Zxg l fun i z hz=>h (i+1) z (by simpa using hz);refine⟨y::ys,by simp[h1],fun i z hz=>?_⟩;cases i with
  | zero=>simp at hz;subst hz;exact⟨y,rfl,hy⟩
  | succ i=>simpa using h2 i z (by simpa using hz)
def Ap.sl {α:Type}{c:Nat}{w:Bb}{p:Bp}{Q:Nat->Nat->α->Prop}{S:Bu->α->Prop}{xs:List α}(h:Ap s Q p xs)(hv: ∀ b o x,Q b o x->b<w.heap.size/\ ∃ vs:Bu,(vs.length=s/\(∀ u,u∈vs->u.oneCell'=true)/\S vs x)/\ ∀ j u,vs[j]?=some u->w.cell? (zm b (o+j))=some u)(hl:xs.length<1000000)(hp:p=none->xs=[]): ∃ QT:List Bu,QT.length=xs.length/\(∀ v,v∈QT->v.length=s)/\(∀ (i:Nat) x,xs[i]?=some x-> ∃ vs,QT[i]?=some vs/\S vs x)/\P8 s w (sP p xs.length c) xs.length QT.flatten:=by
 cases p with
 | none=>
  obtain rfl:=hp rfl;exact⟨[],rfl,fun _ h=>(by cases h),fun i x h=>(by simp at h),none,c,rfl,zw,zw,fun _ h=>(by simp at h),fun _ h=>(by cases h),fun _=>rfl⟩
 | some a=>
  by_cases h0:xs=[]
  .subst h0;exact⟨[],rfl,fun _ h=>(by cases h),fun i x h=>(by simp at h),some a,c,rfl,zw,zw,fun _ h=>(by simp at h),fun _ _ j u h=>(by simp at h),fun h=>(by cases h)⟩
  .obtain⟨x0,hx0⟩: ∃ x0,xs[0]?=some x0:=⟨_,A8<|List.length_pos_iff.2 h0⟩;obtain⟨b,o,e,il⟩:=h.at_ 0 x0 hx0;injection e with e;subst e;have hb:=(hv _ _ _ il).1;obtain⟨ps,h1,h2⟩:=Zxg (R:=fun(ix:Nat×α) (vs:Bu)=>(vs.length=s/\(∀ u,u∈vs->u.oneCell'=true)/\S vs ix.2)/\ ∀ j u,vs[j]?=some u->w.cell? (zm b (o+ix.1*s+j))=some u) ((List.range xs.length).zip xs) fun i ix hix=>by
    obtain⟨h3,h4⟩:=List.getElem?_zip_eq_some.1 hix;obtain⟨b',o',e,hq⟩:=h.at_ i ix.2 h4;injection e with e;injection e with e1 e2;subst e1 e2
    have:ix.1=i:=by rw[List.getElem?_range (fw ((DW.1 h4).1))]at h3;injection h3 with h3;exact h3.symm
    rw[this];exact(hv _ _ _ hq).2
   have dQ:ps.length=xs.length:=by rw[h1];simp
   have key: ∀ i v,ps[i]?=some v-> ∃ x,xs[i]?=some x/\(v.length=s/\(∀ u,u∈v->u.oneCell'=true)/\S v x)/\ ∀ j u,v[j]?=some u->w.cell? (zm b (o+i*s+j))=some u:=fun i v hi=>by
    have hlt:i<xs.length:=fw ((DW.1 hi).1)
    obtain⟨v',hv',hR,hcell⟩:=h2 i (i,xs[i])<|List.getElem?_zip_eq_some.2 ⟨List.getElem?_range hlt,A8 hlt⟩;rw[hi]at hv';injection hv' with hv';subst hv';exact⟨xs[i],A8 hlt,hR,hcell⟩
   have hlen: ∀ v,v∈ps->v.length=s:=fun v hm=>by
    obtain⟨i,hi⟩:=List.getElem?_of_mem hm;obtain⟨_,_,h3,_⟩:=key i v hi;exact h3.1
   refine⟨ps,dQ,hlen,fun i x hx=>?_,some (zm b o),c,rfl,hl,by rw[Z2o ps hlen,dQ],fun u hu=>?_,fun a' e j u hj=>?_,fun h=>(by cases h)⟩
   .have hlt:i<ps.length:=fw ((DW.1 hx).1)
    obtain⟨x',UH,h3,_⟩:=key i _<|A8 hlt;rw[hx]at UH;injection UH with UH;subst UH;exact⟨_,A8 hlt,h3.2.2⟩
   .obtain⟨v,Et,hv2⟩:=List.mem_flatten.1 hu;obtain⟨i,hi⟩:=List.getElem?_of_mem Et;obtain⟨_,_,h3,_⟩:=key i v hi;exact h3.2.1 u hv2
   .injection e with e;subst e;obtain⟨i,r,v,rfl,h3,h4⟩:=Z2n ps hlen j u hj;obtain⟨_,_,_,h5⟩:=key i v h3;refine⟨hb,?_⟩
    have:=h5 r u h4
    rwa [show(Addr.mk b o none).add (i*s+r)=(zm b (o+i*s+r))from by simp[Addr.add_lit,Nat.add_assoc]]
section
open Go
variable {n B:Nat}{w:Bb}{nv:Value}{cs:Bu}
def lU {P:Program}{md:Region.Mode}{ops:Array Oper}{Q:Exit->Act->Bb->Prop}{S:Bb->Prop}{z:Nat}(i j:Nat){o o':Oper}{l:Array Bool}{a:Act}(hr:Region.ready md ops l=[i,j]:=by kernel_rfl)(ho:ops[i]?=some o:=by rfl)(zA:ops[j]?=some o':=by rfl)(h: ∀ K':Act->Bb->Prop,Shut (∀ a w,S w->Oh z P md ops Q S n (l.setIfInBounds i true) a w->K' a w)->if Region.wanted o (yielded ops a.tmps)=true then Oper.wp P o a w K' Q else K' (a.put o.dst undef) w)(h': ∀ K':Act->Bb->Prop,Shut (∀ a w,S w->Oh z P md ops Q S n (l.setIfInBounds j true) a w->K' a w)->if Region.wanted o' (yielded ops a.tmps)=true then Oper.wp P o' a w K' Q else K' (a.put o'.dst undef) w):Oh z P md ops Q S (n+1) l a w:=
 ⟨fun e=>(by rw[hr]at e;cases e),fun k hk=>by
  rw[hr]at hk;simp only[Ak,Lj,or_false]at hk;rcases hk with rfl | rfl
  .exact wpOp_step ho fun K' hK=>h K' fun a w hS hW=>hK a w ⟨fun _=>hS,hW⟩
  .exact wpOp_step zA fun K' hK=>h' K' fun a w hS hW=>hK a w ⟨fun _=>hS,hW⟩⟩
def Qj (B:Nat) (w:Bb) (nv:Value) (cs:Bu) (n:Nat):Prop:=(n=0/\nv= zn/\cs=[])\/ ∃ g cap,B<=g/\nv= sP (Qb g 0) n cap/\n<=cap/\g<w.heap.size/\ ∀ j u,cs[j]?=some u->w.cell? (zm g j)=some u
def Qj.of {B':Nat}{w':Bb}(h:Qj B w nv cs n)(hB:B'<=B)(hb:Bl w w'):Qj B' w' nv cs n:=by
 rcases h with h | ⟨g,cap,h1,h2,h3,h4,h5⟩
 .exact .inl h
 .exact .inr ⟨g,cap,Ab hB h1,h2,h3,BK h4 hb.size,fun j u hj=>(A9 (a:=(zm g j))<|hb.block g h4).trans (h5 j u hj)⟩
def Qj.set (h:Qj B w nv cs n)(k:Nat)(hk:k<B)(o:Nat)(v:Value):Qj B (w.setCell (zm k o) v) nv cs n:=by
 rcases h with h | ⟨g,cap,h1,h2,h3,h4,h5⟩
 .exact .inl h
 .exact .inr ⟨g,cap,h1,h2,h3,by simpa[World.setCell]using h4,fun j u hj=>(A9 (a:=(zm g j))<|Aw _ _ _ _ (by show g≠k;omega)).trans (h5 j u hj)⟩
def SA {u:Bb}(k:Nat)(h:Below B w u)(hk:B<=k)(o:Nat)(v:Value):Below B w (u.setCell (zm k o) v):=
 ⟨h.os,h.tape,h.output,by simpa[World.setCell]using h.size,fun i hi=>(Aw _ _ _ _ (by show i≠k;omega)).trans (h.block i hi)⟩
def QD.is {E s:Nat}{wr:Bb}(h:QD E s w nv cs n n wr):Qj w.heap.size wr nv cs n/\Bl w wr:=by
 obtain⟨hb,_,h | ⟨cap,vs,h1,h2,h3,h4,h5⟩⟩:=h
 .exact⟨.inl ⟨h.1,h.2.2.1,h.2.2.2⟩,hb⟩
 .refine⟨.inr ⟨w.heap.size,cap,EO _,h2,h1,h3.lt,fun j u hj=>?_⟩,hb⟩;have hjl:=(DW.1 hj).1;rw[h3.cell,<- Qq];rw[<- h5,List.getElem?_take,xj hjl]at hj;exact hj
end
section
attribute [local go_sem] Me
def Z6z {w:Bb}{fa fb ra rb ka kb:Bp}{OJ Rl OI MH Lr Pz Lp KN mG pN mD WV:Nat}{xa xb ya yb:Bu}(hfa:P8 2 w (sP fa OJ Rl) OJ xa)(hfb:P8 2 w (sP fb OI MH) OI xb)(iZ:P8 4 w (sP ra Lr Pz) Lr ya)(aC:P8 4 w (sP rb Lp KN) Lp yb)(hsm:OJ<1000/\OI<1000/\Lr<1000/\Lp<1000):
  Calls prog 156 #[.agg #[sP fa OJ Rl,sP ra Lr Pz,sP ka mG pN],.agg #[sP fb OI MH,sP rb Lp KN,sP kb mD WV]] w fun e w'=> ∃ pf nf cf pr nr cr,e=uY (.agg #[sP pf nf cf,sP pr nr cr,zn])/\Qj w.heap.size w' (sP pf nf cf) (xa++xb) (OJ+OI)/\Qj w.heap.size w' (sP pr nr cr) (ya++yb) (Lr+Lp)/\Bl w w':=by
 have CA:AF (∀ u vb,Bl w u->AO u vb #[sP fa OJ Rl,sP fb OI MH] 32->Calls prog 216 #[sP (Qb vb 0) 2 2] u fun e w'=> ∃ pf nf cf,e=uY (sP pf nf cf)/\Qj u.heap.size w' (sP pf nf cf) (xa++xb) (OJ+OI)/\Bl u w'):=⟨fun u vb hu hv=>by
  refine(Zz5 (xs:=[(OJ,xa),(OI,xb)]) (c:=2) (o:=0) (b:=vb) (fun i x hx=>?_) zw (by simp[Dv];omega)).mono ?_
  .match i with
   | 0=>simp at hx;subst hx;exact⟨hv.lt,_,hv.two.1,hfa.be hu⟩
   | 1=>simp at hx;subst hx;exact⟨hv.lt,_,hv.two.2.1,hfb.be hu⟩
   | i+2=>simp at hx
  .rintro e w' ⟨nv,rfl,hc⟩;have h2:=QD.is (by simpa[Dv,Xj]using hc:QD 64 2 u nv (xa++xb) (OJ+OI) (OJ+OI) w');rcases h2.1 with⟨_,rfl,_⟩ | ⟨g,cap,_,rfl,_⟩
   .exact⟨_,_,_,rfl,h2⟩
   .exact⟨_,_,_,rfl,h2⟩⟩
 have CR:AF (∀ u vb,Bl w u->AO u vb #[sP ra Lr Pz,sP rb Lp KN] 35->Calls prog 217 #[sP (Qb vb 0) 2 2] u fun e w'=> ∃ pf nf cf,e=uY (sP pf nf cf)/\Qj u.heap.size w' (sP pf nf cf) (ya++yb) (Lr+Lp)/\Bl u w'):=⟨fun u vb hu hv=>by
  refine(Zz6 (xs:=[(Lr,ya),(Lp,yb)]) (c:=2) (o:=0) (b:=vb) (fun i x hx=>?_) zw (by simp[Dv];omega)).mono ?_
  .match i with
   | 0=>simp at hx;subst hx;exact⟨hv.lt,_,hv.two.1,iZ.be hu⟩
   | 1=>simp at hx;subst hx;exact⟨hv.lt,_,hv.two.2.1,aC.be hu⟩
   | i+2=>simp at hx
  .rintro e w' ⟨nv,rfl,hc⟩;have h2:=QD.is (by simpa[Dv,Xj]using hc:QD 69 4 u nv (ya++yb) (Lr+Lp) (Lr+Lp) w');rcases h2.1 with⟨_,rfl,_⟩ | ⟨g,cap,_,rfl,_⟩
   .exact⟨_,_,_,rfl,h2⟩
   .exact⟨_,_,_,rfl,h2⟩⟩
 clear hfa hfb iZ aC;refine X9 func156 rfl ?_;simp only[ntmps156,GN,DU,JC,Nat.reduceAdd,Nat.reduceSub,Qu,Qv,Qr,Qt,JU,EC];go_wp2_with fail
 obtain⟨W3,hW3⟩:=cK (((w.alloc<|.cells #[sP fa OJ Rl,sP ra Lr Pz,sP ka mG pN] 38).alloc<|.cells #[sP fb OI MH,sP rb Lp KN,sP kb mD WV] 38).alloc (.cells #[zn,zn,zn] 38));rw[hW3.o];have B3:Bl w W3:=hW3.o▸(((AR _ w).alloc lr _).alloc zw _).alloc zc _;have L0:AO W3 w.heap.size #[sP fa OJ Rl,sP ra Lr Pz,sP ka mG pN] 38:=hW3.o▸((AO.new w _ _).alloc _).alloc _;have L1:AO W3 (w.heap.size+1) #[sP fb OI MH,sP rb Lp KN,sP kb mD WV] 38:=hW3.o▸(Ur w _ _ _).alloc _;have L2:AO W3 (w.heap.size+1+1) #[zn,zn,zn] 38:=hW3.o▸bU w _ _ _ _;have HS:AF (∀ u,Bl W3 u->u.cell? (zm w.heap.size 0)=some (sP fa OJ Rl)/\u.cell? (zm w.heap.size 1)=some (sP ra Lr Pz)/\u.cell? (zm (w.heap.size+1) 0)=some (sP fb OI MH)/\u.cell? (zm (w.heap.size+1) 1)=some (sP rb Lp KN)):=⟨fun u hu=>⟨(L0.of<|hu.block _ L0.lt).three.1,(L0.of<|hu.block _ L0.lt).three.2.1,(L1.of<|hu.block _ L1.lt).three.1,(L1.of<|hu.block _ L1.lt).three.2.1⟩⟩;have HZ:AF (∀ u,Bl W3 u->AO u (w.heap.size+1+1) #[zn,zn,zn] 38):=⟨fun u hu=>L2.of (hu.block _ L2.lt)⟩;have iQ:Bl W3 W3.drew:=(AR _ W3).drew;have AY:=HS.o _ iQ;clear L0 L1 L2;refine Vj 13 (fun u=>u.cell? (zm w.heap.size 0)=some (sP fa OJ Rl)/\u.cell? (zm w.heap.size 1)=some (sP ra Lr Pz)/\u.cell? (zm (w.heap.size+1) 0)=some (sP fb OI MH)/\u.cell? (zm (w.heap.size+1) 1)=some (sP rb Lp KN)) zt ?_;refine z9 0 (zq w.heap.size 0) AY ?_
 refine z9 1 (sP fa OJ Rl) AY ?_
 refine z9 2 (zq (w.heap.size+1) 0) AY ?_
 refine z9 3 (sP fb OI MH) AY ?_
 refine z9 6 (zq w.heap.size 1) AY ?_
 refine z9 7 (sP ra Lr Pz) AY ?_
 refine z9 8 (zq (w.heap.size+1) 1) AY ?_
 refine z9 9 (sP rb Lp KN) AY ?_
 obtain⟨W4,Eh⟩:=cK (W3.drew);have xf:Bl W3 W4:=Eh.o▸iQ;have z3:W3.heap.size=w.heap.size+3:=by rw[<- hW3.o];simp
 rw[Eh.o];clear AY iQ;refine lU 4 10 (h:=fun K' hK'=>?_) (h':=fun K' hK'=>?_)
 .go_simp;obtain⟨WA,hWA⟩:=cK (W4.alloc (.cells #[sP fa OJ Rl,sP fb OI MH] 32));rw[hWA.o];have bWA:Bl W4 WA:=hWA.o▸(AR _ W4).alloc lr _;have XR:Bl W3 WA:=xf.trans<|bWA.mono xf.size;have Vf:AO WA W4.heap.size #[sP fa OJ Rl,sP fb OI MH] 32:=hWA.o▸AO.new W4 _ _;refine hK'.o _ _ (HS.o _ XR) ?_;try simp only[zz]
  refine lU 5 10 (h:=fun K' hK'=>?_) (h':=fun K' hK'=>?_)
  .go_simp;apply(CA.o WA _ (B3.trans<|XR.mono B3.size) Vf).mono;rintro e WB ⟨pf,nf,cf,rfl,If,fC⟩;have SQ:Bl W3 WB:=XR.trans<|fC.mono XR.size;refine hK'.o _ _ (HS.o _ SQ) ?_;try simp only[zz]
   refine rz 10 (h:=fun K' hK'=>?_);go_simp;obtain⟨WC,hWC⟩:=cK (WB.alloc (.cells #[sP ra Lr Pz,sP rb Lp KN] 35));rw[hWC.o];have aZ:Bl WB WC:=hWC.o▸(AR _ WB).alloc lr _;have QS:Bl W3 WC:=SQ.trans<|aZ.mono SQ.size;have Vr:AO WC WB.heap.size #[sP ra Lr Pz,sP rb Lp KN] 35:=hWC.o▸AO.new WB _ _;refine hK'.o _ _ (HS.o _ QS) ?_;try simp only[zz]
   have If:=If.of lr aZ;refine rz 11 (h:=fun K' hK'=>?_);go_simp;apply(CR.o WC _ (B3.trans<|QS.mono B3.size) Vr).mono;rintro e WD ⟨pr,nr,cr,rfl,Ir,aY⟩;have QQ:Bl W3 WD:=QS.trans<|aY.mono QS.size;refine hK'.o _ _ (HS.o _ QQ) ?_;try simp only[zz]
   have If:=If.of lr aY;have lWA:=XR.size;have lWC:=QS.size;have lWD:=QQ.size;have If:=If.of (B':=w.heap.size+3) zx<|AR _ _;have Ir:=Ir.of (B':=w.heap.size+3) zx<|AR _ _;have oU:=HS.o _ QQ;have kz:=HZ.o _ QQ;obtain⟨y0,y1,y2,ys⟩:=kz.three;refine z9 12 (.agg #[sP pf nf cf,sP pr nr cr,zn]) oU ?_
   refine yq ?_;have k9:=((kz.set 0<|sP pf nf cf).set 1<|sP pr nr cr).set 2<|zn;obtain⟨d0,d1,d2,ds⟩:=AO.three (by simpa using k9);have FO:=AC<|AJ (((If.set (w.heap.size+1+1) zx 0<|sP pf nf cf).set (w.heap.size+1+1) zx 1<|sP pr nr cr).set (w.heap.size+1+1) zx 2<|zn)<|AJ (((Ir.set (w.heap.size+1+1) zx 0<|sP pf nf cf).set (w.heap.size+1+1) zx 1<|sP pr nr cr).set (w.heap.size+1+1) zx 2<|zn)<|SA (w.heap.size+1+1) (SA (w.heap.size+1+1) (SA (w.heap.size+1+1) (B3.trans<|QQ.mono B3.size) zx 0<|sP pf nf cf) zx 1<|sP pr nr cr) zx 2<|zn;clear kz k9 y0 y1 y2 ys If Ir;go_wp2
   refine Bg (by simp[results,results156,go_sem,d0,d1,d2];try rfl) rfl ?_;exact⟨pf,nf,cf,pr,nr,cr,rfl,FO.o.1.of zx<|AR _ _,FO.o.2.1.of zx<|AR _ _,FO.o.2.2⟩
  .go_simp;obtain⟨WB,hWB⟩:=cK (WA.alloc (.cells #[sP ra Lr Pz,sP rb Lp KN] 35));rw[hWB.o];have fC:Bl WA WB:=hWB.o▸(AR _ WA).alloc lr _;have SQ:Bl W3 WB:=XR.trans<|fC.mono XR.size;have Vr:AO WB WA.heap.size #[sP ra Lr Pz,sP rb Lp KN] 35:=hWB.o▸AO.new WA _ _;refine hK'.o _ _ (HS.o _ SQ) ?_;try simp only[zz]
   have Vf:=Vf.of<|fC.block _ Vf.lt;refine rz 5 (h:=fun K' hK'=>?_);go_simp;apply(CA.o WB _ (B3.trans<|SQ.mono B3.size) Vf).mono;rintro e WC ⟨pf,nf,cf,rfl,If,aZ⟩;have QS:Bl W3 WC:=SQ.trans<|aZ.mono SQ.size;refine hK'.o _ _ (HS.o _ QS) ?_;try simp only[zz]
   have Vr:=Vr.of<|aZ.block _ Vr.lt;refine rz 11 (h:=fun K' hK'=>?_);go_simp;apply(CR.o WC _ (B3.trans<|QS.mono B3.size) Vr).mono;rintro e WD ⟨pr,nr,cr,rfl,Ir,aY⟩;have QQ:Bl W3 WD:=QS.trans<|aY.mono QS.size;refine hK'.o _ _ (HS.o _ QQ) ?_;try simp only[zz]
   have If:=If.of lr aY;have lWB:=SQ.size;have lWC:=QS.size;have lWD:=QQ.size;have If:=If.of (B':=w.heap.size+3) zx<|AR _ _;have Ir:=Ir.of (B':=w.heap.size+3) zx<|AR _ _;have oU:=HS.o _ QQ;have kz:=HZ.o _ QQ;obtain⟨y0,y1,y2,ys⟩:=kz.three;refine z9 12 (.agg #[sP pf nf cf,sP pr nr cr,zn]) oU ?_
   refine yq ?_;have k9:=((kz.set 0<|sP pf nf cf).set 1<|sP pr nr cr).set 2<|zn;obtain⟨d0,d1,d2,ds⟩:=AO.three (by simpa using k9);have FO:=AC<|AJ (((If.set (w.heap.size+1+1) zx 0<|sP pf nf cf).set (w.heap.size+1+1) zx 1<|sP pr nr cr).set (w.heap.size+1+1) zx 2<|zn)<|AJ (((Ir.set (w.heap.size+1+1) zx 0<|sP pf nf cf).set (w.heap.size+1+1) zx 1<|sP pr nr cr).set (w.heap.size+1+1) zx 2<|zn)<|SA (w.heap.size+1+1) (SA (w.heap.size+1+1) (SA (w.heap.size+1+1) (B3.trans<|QQ.mono B3.size) zx 0<|sP pf nf cf) zx 1<|sP pr nr cr) zx 2<|zn;clear kz k9 y0 y1 y2 ys If Ir;go_wp2
   refine Bg (by simp[results,results156,go_sem,d0,d1,d2];try rfl) rfl ?_;exact⟨pf,nf,cf,pr,nr,cr,rfl,FO.o.1.of zx<|AR _ _,FO.o.2.1.of zx<|AR _ _,FO.o.2.2⟩
 .go_simp;obtain⟨WA,hWA⟩:=cK (W4.alloc (.cells #[sP ra Lr Pz,sP rb Lp KN] 35));rw[hWA.o];have bWA:Bl W4 WA:=hWA.o▸(AR _ W4).alloc lr _;have XR:Bl W3 WA:=xf.trans<|bWA.mono xf.size;have Vr:AO WA W4.heap.size #[sP ra Lr Pz,sP rb Lp KN] 35:=hWA.o▸AO.new W4 _ _;refine hK'.o _ _ (HS.o _ XR) ?_;try simp only[zz]
  refine rz 4 (h:=fun K' hK'=>?_);go_simp;obtain⟨WB,hWB⟩:=cK (WA.alloc (.cells #[sP fa OJ Rl,sP fb OI MH] 32));rw[hWB.o];have fC:Bl WA WB:=hWB.o▸(AR _ WA).alloc lr _;have SQ:Bl W3 WB:=XR.trans<|fC.mono XR.size;have Vf:AO WB WA.heap.size #[sP fa OJ Rl,sP fb OI MH] 32:=hWB.o▸AO.new WA _ _;refine hK'.o _ _ (HS.o _ SQ) ?_;try simp only[zz]
  have Vr:=Vr.of<|fC.block _ Vr.lt;refine rz 5 (h:=fun K' hK'=>?_);go_simp;apply(CA.o WB _ (B3.trans<|SQ.mono B3.size) Vf).mono;rintro e WC ⟨pf,nf,cf,rfl,If,aZ⟩;have QS:Bl W3 WC:=SQ.trans<|aZ.mono SQ.size;refine hK'.o _ _ (HS.o _ QS) ?_;try simp only[zz]
  have Vr:=Vr.of<|aZ.block _ Vr.lt;refine rz 11 (h:=fun K' hK'=>?_);go_simp;apply(CR.o WC _ (B3.trans<|QS.mono B3.size) Vr).mono;rintro e WD ⟨pr,nr,cr,rfl,Ir,aY⟩;have QQ:Bl W3 WD:=QS.trans<|aY.mono QS.size;refine hK'.o _ _ (HS.o _ QQ) ?_;try simp only[zz]
  have If:=If.of lr aY;have lWB:=SQ.size;have lWC:=QS.size;have lWD:=QQ.size;have If:=If.of (B':=w.heap.size+3) zx<|AR _ _;have Ir:=Ir.of (B':=w.heap.size+3) zx<|AR _ _;have oU:=HS.o _ QQ;have kz:=HZ.o _ QQ;obtain⟨y0,y1,y2,ys⟩:=kz.three;refine z9 12 (.agg #[sP pf nf cf,sP pr nr cr,zn]) oU ?_
  refine yq ?_;have k9:=((kz.set 0<|sP pf nf cf).set 1<|sP pr nr cr).set 2<|zn;obtain⟨d0,d1,d2,ds⟩:=AO.three (by simpa using k9);have FO:=AC<|AJ (((If.set (w.heap.size+1+1) zx 0<|sP pf nf cf).set (w.heap.size+1+1) zx 1<|sP pr nr cr).set (w.heap.size+1+1) zx 2<|zn)<|AJ (((Ir.set (w.heap.size+1+1) zx 0<|sP pf nf cf).set (w.heap.size+1+1) zx 1<|sP pr nr cr).set (w.heap.size+1+1) zx 2<|zn)<|SA (w.heap.size+1+1) (SA (w.heap.size+1+1) (SA (w.heap.size+1+1) (B3.trans<|QQ.mono B3.size) zx 0<|sP pf nf cf) zx 1<|sP pr nr cr) zx 2<|zn;clear kz k9 y0 y1 y2 ys If Ir;go_wp2
  refine Bg (by simp[results,results156,go_sem,d0,d1,d2];try rfl) rfl ?_;exact⟨pf,nf,cf,pr,nr,cr,rfl,FO.o.1.of zx<|AR _ _,FO.o.2.1.of zx<|AR _ _,FO.o.2.2⟩
end
variable {B B' d b o:Nat}{w w':Bb}{vs:Bu}{x:A}
def Jz.at (h:Jz B w d vs x)(c:EG B B' w w')(hb:b<B')(hv: ∀ j u,vs[j]?=some u->w'.cell? (zm b (o+j))=some u):Ep B' w' (d+1) b o x:=by
 obtain⟨p,k,rfl,hs,hc,hr⟩:=h;exact⟨hb,hv 0 _ rfl,hs,_,hv 1 _ rfl,p,k,rfl,hc,hr.cy fun _ _ _ hT=>He.cy c lr hT⟩
def Ep.sl (h:Ep B w (d+1) b o x)(hB:B<=w.heap.size):b<w.heap.size/\ ∃ vs:Bu,(vs.length=2/\(∀ u,u∈vs->u.oneCell'=true)/\Jz B w d vs x)/\ ∀ j u,vs[j]?=some u->w.cell? (zm b (o+j))=some u:=by
 obtain⟨hb,p,c,c0,c1,hs⟩:=h.vals;refine⟨BK hb hB,_,⟨rfl,fun u hu=>?_,hs⟩,fun j u hj=>?_⟩
 .simp at hu;rcases hu with rfl | rfl <;> rfl
 .match j with
  | 0=>simp at hj;subst hj;exact c0
  | 1=>simp at hj;subst hj;exact c1
  | j+2=>simp at hj
def Jy.at {x:R}(h:Jy B w (d+1) vs x)(c:EG B B' w w')(hb:b<B')(hv: ∀ j u,vs[j]?=some u->w'.cell? (zm b (o+j))=some u):FJ B' w' (d+2) b o x:=by
 obtain⟨va,p,k,p',k',rfl,ha,h1,hr,h2,hr'⟩:=h;obtain⟨pa,ka,rfl,hs,hc,iZ⟩:=ha;have e0:=hv 0 _ rfl;have e1:=hv 1 _ rfl;have e2:=hv 2 _ rfl;have e3:=hv 3 _ rfl;exact⟨hb,⟨hb,e0,hs,_,e1,pa,ka,rfl,hc,iZ.cy fun _ _ _ hT=>He.cy c zx hT⟩,⟨_,e2,p,k,rfl,h1,hr.cy fun _ _ _ hT=>Ep.cy c zx hT⟩,_,e3,p',k',rfl,h2,hr'.cy fun _ _ _ hT=>QK.cy c zx hT⟩
def FJ.sl {x:R}(h:FJ B w (d+1) b o x)(hB:B<=w.heap.size):b<w.heap.size/\ ∃ vs:Bu,(vs.length=4/\(∀ u,u∈vs->u.oneCell'=true)/\Jy B w d vs x)/\ ∀ j u,vs[j]?=some u->w.cell? (zm b (o+j))=some u:=by
 obtain⟨hb,p,c,p',c',p2,c2,e0,e1,e2,e3,hs⟩:=h.vals;refine⟨BK hb hB,_,⟨rfl,fun u hu=>?_,hs⟩,fun j u hj=>?_⟩
 .simp at hu;rcases hu with rfl | rfl | rfl | rfl <;> rfl
 .match j with
  | 0=>simp at hj;subst hj;exact e0
  | 1=>simp at hj;subst hj;exact e1
  | 2=>simp at hj;subst hj;exact e2
  | 3=>simp at hj;subst hj;exact e3
  | j+4=>simp at hj
def Qj.row {α:Type}{s N:Nat}{nv:Value}{va vb:List Bu}{xs ys:List α}{S:Bu->α->Prop}{Q:Nat->Nat->α->Prop}(h:Qj N w nv (va.flatten++vb.flatten) (xs.length+ys.length))(la:va.length=xs.length)(lb:vb.length=ys.length)(ha: ∀ v,v∈va->v.length=s)(hb: ∀ v,v∈vb->v.length=s)(sa: ∀ (i:Nat) x,xs[i]?=some x-> ∃ vs,va[i]?=some vs/\S vs x)(sb: ∀ (i:Nat) x,ys[i]?=some x-> ∃ vs,vb[i]?=some vs/\S vs x)(hq: ∀ g o vs x,g<w.heap.size->S vs x->(∀ j u,vs[j]?=some u->w.cell? (zm g (o+j))=some u)->Q g o x)(hl:xs.length+ys.length<1000000000): ∃ p c,nv= sP p (xs++ys).length c/\(xs++ys).length<=c/\Ap s Q p (xs++ys):=by
 rcases h with⟨h0,rfl,_⟩ | ⟨g,cap,_,rfl,h3,h4,h5⟩
 .obtain rfl:xs=[]:=List.length_eq_zero_iff.1 zx;obtain rfl:ys=[]:=List.length_eq_zero_iff.1 zx;exact⟨none,0,rfl,EO _,zw,fun i x hx=>by simp at hx⟩
 .refine⟨some (zm g 0),cap,zw,by simpa using h3,by simpa using hl,fun i x hx=>⟨g,0,rfl,?_⟩⟩;have hm: ∀ v,v∈va++vb->v.length=s:=fun v hv=>(Aj.1 hv).elim (ha v) (hb v);have key: ∃ vs,(va++vb)[i]?=some vs/\S vs x:=by
   by_cases hi:i<xs.length
   .rw[PK hi]at hx;obtain⟨vs,h1,h2⟩:=sa i x hx;exact⟨vs,by rw[PK zx];exact h1,h2⟩
   .rw[PL zx]at hx;obtain⟨vs,h1,h2⟩:=sb _ x hx;exact⟨vs,by rw[PL zx,la];exact h1,h2⟩
  obtain⟨vs,h1,h2⟩:=key;refine hq g _ vs x h4 h2 fun j u hj=>?_
  have:=h5 (i*s+j) u (by rw[<- List.flatten_append];exact Z2p _ hm i vs j u h1 hj)
  simpa using this
def Ap.none {α:Type}{s:Nat}{Q:Nat->Nat->α->Prop}{p:Bp}{xs:List α}(h:Ap s Q p xs):p=none->xs=[]:=fun e=>by
 cases xs with
 | nil=>rfl
 | cons x l=>
  obtain⟨b,o,h,_⟩:=h.at_ 0 x rfl;rw[e]at h;cases h
def Qj.at {B:Nat}{w v:Bb}{nv:Value}{cs:Bu}{n:Nat}(h:Qj B w nv cs n)(hs:w.heap.size<=v.heap.size)(hc: ∀ j,B<=j->j<w.heap.size->v.heap[j]?=w.heap[j]?):Qj B v nv cs n:=by
 rcases h with h | ⟨g,cap,h1,h2,h3,h4,h5⟩
 .exact .inl h
 .exact .inr ⟨g,cap,h1,h2,h3,BK h4 hs,fun j u hj=>(A9 (a:=(zm g j))<|hc g h1 h4).trans (h5 j u hj)⟩
def Zr0 {w:Bb}{B D:Nat}(hB:B<=w.heap.size){fa fb ra rb ka kb:Bp}{Rl MH Pz KN mG pN mD WV:Nat}{xs ys:List A}{rs ss:List R}(h1:Ap 2 (Ep B w<|D+2) fa xs)(h2:Ap 2 (Ep B w<|D+2) fb ys)(h3:Ap 4 (FJ B w<|D+2) ra rs)(h4:Ap 4 (FJ B w<|D+2) rb ss)(hl:xs.length<1000/\ys.length<1000/\rs.length<1000/\ss.length<1000):
  Calls prog 156 #[.agg #[sP fa xs.length Rl,sP ra rs.length Pz,sP ka mG pN],.agg #[sP fb ys.length MH,sP rb ss.length KN,sP kb mD WV]] w fun e w'=> ∃ pf cf pr cr,e=uY (.agg #[sP pf (xs++ys).length cf,sP pr (rs++ss).length cr,zn])/\(∀ v,w'.heap.size<=v.heap.size->(∀ j,j<B->v.heap[j]?=w'.heap[j]?)->(∀ j,w.heap.size<=j->j<w'.heap.size->v.heap[j]?=w'.heap[j]?)->Ap 2 (Ep v.heap.size v<|D+2) pf (xs++ys)/\Ap 4 (FJ v.heap.size v<|D+2) pr (rs++ss))/\Bl w w':=by
 obtain⟨va,la,ma,sa,ta⟩:=Ap.sl (c:=Rl) (w:=w) (S:=Jz B w<|D+1) h1 (fun _ _ _ h=>Ep.sl h hB) zx h1.none;obtain⟨vb,lb,mb,sb,tb⟩:=Ap.sl (c:=MH) (w:=w) (S:=Jz B w<|D+1) h2 (fun _ _ _ h=>Ep.sl h hB) zx h2.none;obtain⟨ua,lc,mc,sc,tc⟩:=Ap.sl (c:=Pz) (w:=w) (S:=Jy B w<|D+1) h3 (fun _ _ _ h=>FJ.sl h hB) zx h3.none;obtain⟨ub,ld,md,sd,td⟩:=Ap.sl (c:=KN) (w:=w) (S:=Jy B w<|D+1) h4 (fun _ _ _ h=>FJ.sl h hB) zx h4.none;apply(Z6z ta tb tc td zx).mono;rintro e w' ⟨pf,nf,cf,pr,nr,cr,rfl,i1,i2,hb⟩;obtain⟨p1,k1,e1,_,_⟩:=i1.row (Q:=fun _ _ _=>True) la lb ma mb sa sb (fun _ _ _ _ _ _ _=>trivial) zx;obtain⟨p2,k2,e2,_,_⟩:=i2.row (Q:=fun _ _ _=>True) lc ld mc md sc sd (fun _ _ _ _ _ _ _=>trivial) zx;cases e1;cases e2;refine⟨pf,cf,pr,cr,rfl,fun v hs hc hn=>?_,hb⟩;have hc:EG B v.heap.size w v:=⟨Ab hB<|Ab hb.size hs,fun j o hj=>A9 (a:=(zm j o)) ((hc j hj).trans<|hb.block j zx)⟩;obtain⟨p1,k1,e1,_,r1⟩:=(i1.at hs hn).row (Q:=Ep v.heap.size v<|D+2) la lb ma mb sa sb (fun g o vs x hg hs hv=>hs.at hc hg hv) zx;obtain⟨p2,k2,e2,_,r2⟩:=(i2.at hs hn).row (Q:=FJ v.heap.size v<|D+2) lc ld mc md sc sd (fun g o vs x hg hs hv=>hs.at hc hg hv) zx;cases e1;cases e2;exact⟨r1,r2⟩
end Go.W
