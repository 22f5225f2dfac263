import Derived.Test.YtpmcefkhkkpnbaaGreatDoorW32
import Derived.Test.YtpmcefkhkkpnbaaGreatDoorW33
set_option linter.all false
set_option maxRecDepth 100000
set_option maxHeartbeats 8000000
open Go.Proofs Go.RowKit Go.W Tryz
namespace Go.W
variable {body:List A}{r:R}{n m:Nat}{x:T}{vs:List T}
structure Jj (r:R):Prop where
 hn:r.head.name.size<=16
 ht: ∀ x,x∈r.head.te->BR 0 x=0
 h6:r.head.te.length<=6
 bt: ∀ a,a∈r.body->(∀ x,x∈a.te->BR 0 x=0)/\a.te.length<=6
 b4:r.body.length<=4
 gt: ∀ g,g∈r.gu->BR 0 g.a=0/\BR 0 g.b=0/\1<=g.op/\g.op<=7
 g4:r.gu.length<=4
 hb:ET r.head.te r.body=true
 gb: ∀ g,g∈r.gu->ET [g.a] r.body=true/\ET [g.b] r.body=true
def NI {P:Prop}[Decidable P]{a b:Int}(ha:P->a≠0)(h:(if P then a else b)=0): ¬ P/\b=0:=by
 by_cases hp:P
 .rw[xj hp]at h;exact absurd h<|ha hp
 .rw[xd hp]at h;exact⟨hp,h⟩
def Z21 {t:Ay}(h:IR t=true):1<=t.size/\t.size<=16:=by
 unfold IR at h;simp only[wx,wA]at h;exact⟨h.1.2,h.2⟩
def Yfg {a:A}(h:FH a=0):a.name.size<=16/\(∀ x,x∈a.te->BR 0 x=0)/\a.te.length<=6:=by
 obtain⟨h1,h2⟩:=NI (fun _=>zu) h;obtain⟨h3,h4⟩:=MX h2;exact⟨(Z21 (by simpa using h1)).2,h4,h3⟩
def Yi1 {t:T}(h:PI body t=0):BR 0 t=0/\ET [t] body=true:=by
 obtain⟨h1,h2⟩:=NI (fun q=>q) h;obtain⟨h3,_⟩:=NI (fun _=>zu) h2;exact⟨zx,by simpa using h3⟩
def Yh9 (h:JQ r=0):(∀ a,a∈r.body->(∀ x,x∈a.te->BR 0 x=0)/\a.te.length<=6)/\r.body.length<=4/\(∀ g,g∈r.gu->BR 0 g.a=0/\BR 0 g.b=0/\1<=g.op/\g.op<=7)/\r.gu.length<=4/\ ∀ g,g∈r.gu->ET [g.a] r.body=true/\ET [g.b] r.body=true:=by
 obtain⟨_,h1⟩:=NI (fun _=>zu) h;obtain⟨h2,h3⟩:=NI (fun _=>zu) h1;obtain⟨h4,h5⟩:=NI (fun q=>q) h3;have ha:=fun a (q:a∈r.body)=>(Yfg<|kF (by omega:EU FH r.body=0) a q).2;have hg:=fun g (q:g∈r.gu)=>kF h5 g q;have key: ∀ g,g∈r.gu->(1<=g.op/\g.op<=7)/\(BR 0 g.a=0/\ET [g.a] r.body=true)/\(BR 0 g.b=0/\ET [g.b] r.body=true):=fun g q=>by
  obtain⟨k1,k2⟩:=NI (fun _=>zu)<|hg g q;obtain⟨k3,k4⟩:=NI (fun q=>q) k2;exact⟨zx,Yi1 zx,Yi1 k4⟩
 exact⟨ha,zx,fun g q=>⟨(key g q).2.1.1,(key g q).2.2.1,(key g q).1⟩,zx,fun g q=>⟨(key g q).2.1.2,(key g q).2.2.2⟩⟩
def Jj.rule (h:TZ r=0):Jj r:=by
 obtain⟨h1,h2⟩:=NI (fun q=>q) h;obtain⟨h3,h4⟩:=NI (fun q=>q) h2;obtain⟨h5,_⟩:=NI (fun _=>zu) h4;obtain⟨k1,k2,k3⟩:=Yfg (by omega:FH r.head=0);obtain⟨b1,b2,b3,b4,b5⟩:=Yh9 (by omega:JQ r=0);exact⟨k1,k2,k3,b1,b2,b3,b4,by simpa using h5,b5⟩
def Jj.bare (h:SE r=0):Jj r:=by
 obtain⟨h1,h2⟩:=NI (fun _=>zu) h;obtain⟨b1,b2,b3,b4,b5⟩:=Yh9 h2;have ht:r.head.te=[]:=List.length_eq_zero_iff.1 zx;exact⟨zx,by rw[ht];simp,by rw[ht];simp,b1,b2,b3,b4,by rw[ht];rfl,b5⟩
def Low (n:Nat) (s:Sl):Prop:=s.1.size<1000000000/\s.2<1000000000/\(s.1.size=0->s.2<n)
structure PD (n:Nat) (b:BD):Prop where
 ok:fI b
 name:b.hd.1.size<=16
 len:b.hd.2.length<=6
 hd: ∀ s,s∈b.hd.2->Low n s
 at_: ∀ p,p∈b.at_-> ∀ s,s∈p.2->Low n s
 gs: ∀ g,g∈b.gs->Low n g.2.1/\Low n g.2.2/\1<=g.1/\g.1<=7
 g4:b.gs.length<=4
def Low.mono {s:Sl}(h:Low n s)(k:n<=m):Low m s:=⟨h.1,h.2.1,fun q=>BK (h.2.2 q) k⟩
def PD.mono {b:BD}(h:PD n b)(k:n<=m):PD m b:=⟨h.ok,h.name,h.len,fun s q=>(h.hd s q).mono k,fun p q s q'=>(h.at_ p q s q').mono k,fun g q=>⟨(h.gs g q).1.mono k,(h.gs g q).2.1.mono k,(h.gs g q).2.2⟩,h.g4⟩
def Zyi (k:Ay): ∀ (l:List Ay) (i:Nat) {j:Nat},TP k l i=some j->j<i+l.length
 | [],i,j,h=>by simp[TP]at h
 | y::l,i,j,h=>by
  rw[TP]at h;split at h
  ·injection h with h;simp only[DU];omega
  ·have:=Zyi k l (i+1) h
   simp only[DU];omega
def Z3a (vs:List T)(x:T):vs.length<=(Wz vs x).length/\bS vs x<(Wz vs x).length:=by
 unfold Wz bS;cases h:TP (C8 x) (vs.map C8) 0 with
 | none=>simp
 | some j=>
  have:=Zyi _ _ _ h
  simp at this;simpa using this
def Znv (vs:List T)(x:T):vs.length<=(Eb vs x).length:=by
 unfold Eb;split
 .exact EO _
 .exact(Z3a vs x).1
def Ydv (h:BR 0 x=0)(hk:x.k=1):1<=x.t.size/\x.t.size<=16:=by
 rw[qd]at h;obtain⟨h1,_⟩:=NI (fun q=>q) h;have h2:Oc 0 x.k x.i x.t x.l.length=0:=zx
 unfold Oc at h2;obtain⟨h3,_⟩:=NI (fun _=>zu) h2;have h4:Ih x.k x.i x.t x.l.length=true:=by
  cases e:Ih x.k x.i x.t x.l.length with
  | true=>rfl
  | false=>exact absurd (.inl e) h3
 unfold Ih UX at h4;rw[xj hk,wx]at h4;exact Z21 h4.2
def Zrp (h:BR 0 x=0)(hl:vs.length<100000):Low (Eb vs x).length (Dw vs x):=by
 unfold Dw Eb;by_cases hk:x.k=1
 .rw[xj hk,xj hk]
  have:=Ydv h hk
  exact⟨by show x.t.size<_;omega,by show 0<_;omega,fun q=>by have q:x.t.size=0:=q;omega⟩
 .rw[xd hk,xd hk];have h1:=(Z3a vs x).2;have h2:=Z29 vs x;exact⟨by show 0<_;omega,by show bS vs x<_;omega,fun _=>h1⟩
def qL: ∀ (xs:List T) (vs:List T),(∀ x,x∈xs->BR 0 x=0)->vs.length+xs.length<100000->vs.length<=(Cc vs xs).2.length/\ ∀ s,s∈(Cc vs xs).1->Low (Cc vs xs).2.length s
 | [],vs,_,_=>⟨EO _,fun _ h=>by simp[Cc]at h⟩
 | x::xs,vs,h,hl=>by
  have h1:=Znv vs x;have h2:=bK vs x;rw[DU]at hl;obtain⟨i1,i2⟩:=qL xs (Eb vs x) (fun y hy=>h y (by simp[hy])) zx;simp only[Cc];refine⟨zx,fun s hs=>?_⟩;rcases Ak.1 hs with rfl | hs
  ·exact(Zrp (h x zw) zx).mono i1
  ·exact i2 s hs
def Z3i: ∀ (xs:List T) (vs:List T) {x:T},x∈xs->x.k=1->(x.t,0)∈(Cc vs xs).1
 | [],_,_,h,_=>by cases h
 | y::xs,vs,x,h,hk=>by
  simp only[Cc];rcases Ak.1 h with rfl | h
  ·rw[Dw,xj hk];exact List.mem_cons_self
  ·exact wj _<|Z3i xs _ h hk
def Zrf: ∀ (xs:List T) (vs:List T) {s:Sl},s∈(Cc vs xs).1->s.1.size≠0-> ∃ x,x∈xs/\x.k=1/\s=(x.t,0)
 | [],_,_,h,_=>by simp[Cc]at h
 | y::xs,vs,s,h,h0=>by
  simp only[Cc]at h;rcases Ak.1 h with rfl | h
  ·by_cases hk:y.k=1
   ·exact⟨y,zw,hk,by rw[Dw,xj hk]⟩
   ·rw[Dw,xd hk]at h0;exact absurd rfl h0
  ·obtain⟨x,h1,h2⟩:=Zrf xs _ h h0;exact⟨x,by simp[h1],h2⟩
def Zxu: ∀ (l:List A) (st:List T×List Pt),(∀ a,a∈l->(∀ x,x∈a.te->BR 0 x=0)/\a.te.length<=6)->st.1.length+6*l.length<100000->st.1.length<=(l.foldl Jv st).1.length/\(∀ p,p∈(l.foldl Jv st).2->p∈st.2\/(p.2.length<=6/\ ∀ s,s∈p.2->Low (l.foldl Jv st).1.length s))/\(∀ p,p∈st.2->p∈(l.foldl Jv st).2)/\(∀ a,a∈l-> ∃ vs,(a.name,(Cc vs a.te).1)∈(l.foldl Jv st).2)/\ ∀ p,p∈(l.foldl Jv st).2->p∈st.2\/ ∃ a vs,a∈l/\p=(a.name,(Cc vs a.te).1)
 | [],st,_,_=>⟨EO _,fun _ h=> .inl h,fun _ h=>h,fun _ h=>(by cases h),fun _ h=> .inl h⟩
 | a::l,st,h,hl=>by
  rw[DU]at hl;have ha:=h a zw;have hp:=qL a.te st.1 ha.1 zx;have hq:=(Xx a.te st.1).2;obtain⟨i1,i2,i3,i4,i5⟩:=Zxu l (Jv st a) (fun b hb=>h b (by simp[hb])) (by simp only[Jv];omega);rw[List.foldl_cons];have e1:(Jv st a).1=(Cc st.1 a.te).2:=rfl;have e2:(Jv st a).2=st.2++[(a.name,(Cc st.1 a.te).1)]:=rfl;rw[e1]at i1;rw[e2]at i2 i3 i5;refine⟨zx,fun p q=>?_,fun p q=>i3 p (by simp[q]),fun b q=>?_,fun p q=>?_⟩
  ·rcases i2 p q with q | q
   ·rcases Aj.1 q with q | q
    ·exact .inl q
    ·rw[Bh.1 q];exact .inr ⟨by rw[(Xx _ _).1];exact ha.2,fun s hs=>(hp.2 s hs).mono i1⟩
   ·exact .inr q
  ·rcases Ak.1 q with rfl | q
   ·exact⟨st.1,i3 _ zw⟩
   ·exact i4 b q
  ·rcases i5 p q with q | ⟨b,vs,q1,q2⟩
   ·rcases Aj.1 q with q | q
    ·exact .inl q
    ·exact .inr ⟨a,st.1,zw,Bh.1 q⟩
   ·exact .inr ⟨b,vs,by simp[q1],q2⟩
def Zxt: ∀ (l:List G) (st:List T×List Gt),(∀ g,g∈l->BR 0 g.a=0/\BR 0 g.b=0/\1<=g.op/\g.op<=7)->st.1.length+2*l.length<100000->st.1.length<=(l.foldl Ld st).1.length/\ ∀ p,p∈(l.foldl Ld st).2->p∈st.2\/(Low (l.foldl Ld st).1.length p.2.1/\Low (l.foldl Ld st).1.length p.2.2/\1<=p.1/\p.1<=7/\ ∃ g vs us,g∈l/\p=(g.op.toNat,Dw vs g.a,Dw us g.b))
 | [],st,_,_=>⟨EO _,fun _ h=> .inl h⟩
 | g::l,st,h,hl=>by
  rw[DU]at hl;obtain⟨ha,hb,ho⟩:=h g zw;have l1:=bK st.1 g.a;have l2:=bK (Eb st.1 g.a) g.b;have m1:=Znv st.1 g.a;have m2:=Znv (Eb st.1 g.a) g.b;obtain⟨i1,i2⟩:=Zxt l (Ld st g) (fun b hb=>h b (by simp[hb])) (by simp only[Ld];omega);rw[List.foldl_cons];have e1:(Ld st g).1=Eb (Eb st.1 g.a) g.b:=rfl;have e2:(Ld st g).2=st.2++[(g.op.toNat,Dw st.1 g.a,Dw (Eb st.1 g.a) g.b)]:=rfl;rw[e1]at i1;rw[e2]at i2;refine⟨zx,fun p q=>?_⟩;rcases i2 p q with q | ⟨q1,q2,q3,q4,g',vs,us,q5,q6⟩
  ·rcases Aj.1 q with q | q
   ·exact .inl q
   ·rw[Bh.1 q];exact .inr ⟨(Zrp ha zx).mono zx,(Zrp hb zx).mono zx,by show 1<=g.op.toNat;omega,by show g.op.toNat<=7;omega,g,_,_,zw,rfl⟩
  ·exact .inr ⟨q1,q2,q3,q4,g',vs,us,by simp[q5],q6⟩
def Ztd {l:List T}(h:ET l body=true)(hx:x∈l)(hk:x.k=1): ∃ a y,a∈body/\y∈a.te/\y.k=1/\y.t=x.t:=by
 unfold ET at h
 have:=SI.1 h x hx
 simp only[Z9e,hk,decide_true,Bool.not_true,Bool.false_or,List.any_eq_true,wx,wA]at this;obtain⟨a,h1,y,h2,h3,h4⟩:=this;exact⟨a,y,h1,h2,h3,h4⟩
def Jj.pQ (h:Jj r)(hl:vs.length+100<100000):vs.length<=(Jg vs r).1.length/\(Jg vs r).1.length<=vs.length+38/\PD (Jg vs r).1.length (Qh vs r):=by
 have hp:=qL r.head.te vs h.ht (fw (h.h6));have hpl:=Xx r.head.te vs;have h6:=h.h6;have hb4:=h.b4;have hg4:=h.g4;obtain⟨a1,a2,_,a4,a5⟩:=Zxu r.body ((Cc vs r.head.te).2,[]) h.bt (by dsimp only;omega);have al:=vz r.body ((Cc vs r.head.te).2,[]) fun a ha=>(h.bt a ha).2;have ap:=Zqr r.body ((Cc vs r.head.te).2,[]);obtain⟨g1,g2⟩:=Zxt r.gu ((O6 vs r).1,[]) h.gt (by show(O6 vs r).1.length+_<_;unfold O6;dsimp only at*;omega);have gl:=Znc r.gu ((O6 vs r).1,[]);have gn:=Zqq r.gu ((O6 vs r).1,[]);have eP:r.body.foldl Jv ((Cc vs r.head.te).2,[])=O6 vs r:=rfl;have eG:r.gu.foldl Ld ((O6 vs r).1,[])=Jg vs r:=rfl;rw[eP]at a1 a2 a4 a5 al ap;rw[eG]at g1 g2 gl gn;dsimp only at a1 a2 a4 a5 al ap g1 g2 gl gn;have var: ∀ {l:List T},ET l r.body=true-> ∀ x,x∈l->x.k=1-> ∃ p,p∈(O6 vs r).2/\(x.t,0)∈p.2:=fun hb x hx hk=>by
  obtain⟨a,y,h1,h2,h3,h4⟩:=Ztd hb hx hk;obtain⟨us,hu⟩:=a4 a h1;exact⟨_,hu,by rw[<- h4];exact Z3i a.te us h2 h3⟩
 refine⟨zx,zx,⟨⟨fun g hg s hs=>?_,fun s hs=>?_,rfl,?_,fun p q=>?_⟩,h.hn,?_,fun s hs=>(hp.2 s hs).mono zx,fun p q s hs=>?_,fun g q=>?_,?_⟩⟩
 .rcases g2 g hg with q | ⟨_,_,_,_,g',us,ws,q1,q2⟩
  .cases q
  .have side: ∀ {t:T} {us:List T},ET [t] r.body=true->(Dw us t).1.size=0\/ ∃ x,x∈(O6 vs r).2/\ ∃ y,y∈x.2/\y.1=(Dw us t).1:=fun{t us} hb=>by
    by_cases hk:t.k=1
    .obtain⟨p,h1,h2⟩:=var hb t zw hk;exact .inr ⟨p,h1,_,h2,by rw[Dw,xj hk]⟩
    .exact .inl (by rw[Dw,xd hk];rfl)
   rcases hs with rfl | rfl
   .rw[q2];exact side (h.gb g' q1).1
   .rw[q2];exact side (h.gb g' q1).2
 .by_cases h0:s.1.size=0
  .exact .inl h0
  .obtain⟨x,h1,h2,rfl⟩:=Zrf r.head.te vs hs h0;exact .inr<|var h.hb x h1 h2
 .show(O6 vs r).2.length<=4;simp at ap;omega
 .rcases a2 p q with q | q
  .cases q
  .exact q.1
 .show(Cc vs r.head.te).1.length<=6;omega
 .rcases a2 p q with q | q
  .cases q
  .exact(q.2 s hs).mono g1
 .rcases g2 g q with q | ⟨q1,q2,q3,q4,_⟩
  .cases q
  .exact⟨q1,q2,q3,q4⟩
 .show(Jg vs r).2.length<=4;simp at gn;omega
structure MM (n:Nat) (f:Fc):Prop where
 name:f.1.size<=16
 len:f.2.length<=6
 val: ∀ v,v∈f.2->v<n
def MM.mono {f:Fc}(h:MM n f)(k:n<=m):MM m f:=⟨h.name,h.len,fun v q=>BK (h.val v q) k⟩
def TG.in {b:BD}{P:Fc->Prop}(hb:PD n b)(hP: ∀ f,P f->MM n f){x:Fc}(h:TG b vs P x):MM n x:=by
 obtain⟨σ,⟨h1,_⟩,rfl⟩:=h;refine⟨hb.name,by show(b.hd.2.map _).length<=6;rw[Dj];exact hb.len,fun v hv=>?_⟩;obtain⟨s,hs,rfl⟩:=List.mem_map.1 hv;by_cases h0:s.1.size=0
 .rw[P7,xj h0];exact(hb.hd s hs).2.2 h0
 .rcases hb.ok.head s hs with q | ⟨x,hx,hq⟩
  .exact absurd q h0
  .exact(hP _<|h1 x hx).val _<|List.mem_map.2 ⟨s,hq,rfl⟩
end Go.W
set_option linter.unusedSectionVars false
namespace Go.W
section
variable {a:Nat->Addr}{w w':Bb}{vs:List T}{F X':Cg}
variable [Mem]
def xC.ctx {p:Nat}{b:BD}{fs:List Fc}{e:Ending}(h:xC w w' e p b fs vs F)(hG:Oq a w)(hF: ∀ i,i∈F->24<=i){n:Nat}(hb:PD n b):
  ∃ c cs F',e=uY (zq c.q 0)/\c.p=p/\c.b=b/\Ctx a c cs fs vs F' [] (zn) [] w'/\Hy cs (fun _=>0) (fun _ _ _=>0)/\Off F w w'/\(∀ i,i∈F'->i∈F\/w.heap.size<=i)/\ ∀ i,i∈c.q::c.m::c.S->w.heap.size<=i:=by
 obtain⟨q,m,sv,Fa,gv,Fg,hv,Gh,ov,Go,F',h1,h2,h3,h4,h5,h6,h7,h8,h9,hA,hB,hC,hD⟩:=h;obtain⟨cs,hcs⟩:=fu ((((Qg p m b.hd.1 hv).setIfInBounds 3 sv).setIfInBounds 4 gv).setIfInBounds 5 ov);have sz:cs.size=972:=by rw[<- hcs];simp[qh]
 have lo: ∀ j,j≠3->j≠4->j≠5->cs[j]?=(Qg p m b.hd.1 hv)[j]?:=fun j j3 j4 j5=>by rw[<- hcs,Dy,xd zx,Dy,xd zx,Dy,xd zx]
 have l3:cs[3]?=some sv:=by rw[<- hcs,Dy,xd zx,Dy,xd zx,Dy,xj rfl,xj (by simp[qh])]
 have l4:cs[4]?=some gv:=by rw[<- hcs,Dy,xd zx,Dy,xj rfl,xj (by simp[qh])]
 have l5:cs[5]?=some ov:=by rw[<- hcs,Dy,xj rfl,xj (by simp[qh])]
 have low: ∀ j,j<8->j≠3->j≠4->j≠5->cs[j]?=_:=fun j j8 j3 j4 j5=>(lo j j3 j4 j5).trans (jl _ _ _ _ j j8);have l7:cs[7]?=some (zn):=low 7 zx zx zx zx;have hi: ∀ j,8<=j->j<972->cs[j]?=some (.int .u64 0):=fun j h1 h2=>(lo j zx zx zx).trans (Z4q _ _ _ _ j h1 h2);rw[hcs]at h2;have tZ:24<=w.heap.size:=hG.most;obtain⟨S,hS⟩:=fu (Fa++(Fg++(Gh++Go)));rw[hS]at hB hC;obtain⟨pa,ca,rfl,kA⟩:=AQ.Vx (S:=S) h4 (fun k hk=>by rw[<- hS];simp[hk]) fun p q=>⟨hb.ok.l6 p q,fun s hs=>(hb.at_ p q s hs).1⟩;obtain⟨pg,cg,rfl,kG⟩:=AQ.fA (S:=S) h5 (fun k hk=>by rw[<- hS];simp[hk]) fun g q=>⟨(hb.gs g q).1.1,(hb.gs g q).2.1.1,(hb.gs g q).2.2⟩;obtain⟨ph,ch,rfl,kH⟩:=AQ.Jn (S:=S) h6 (fun k hk=>by rw[<- hS];simp[hk]) fun s hs=>(hb.hd s hs).1;obtain⟨pm,cm,rfl,kM⟩:=AQ.YX (S:=S) h7 (fun k hk=>by rw[<- hS];simp[hk]);have zJ:b.hs.length<=24:=by
  have:=Zqy (hd:=b.hd.2) hb.ok.l4 hb.ok.l6
  have:=hb.len
  rw[hb.ok.hs];omega
 refine⟨⟨q,p,m,b,S,pa,ca⟩,cs,F',h1,rfl,rfl,⟨⟨by rw[Zwa l7];exact h2,low 6 zx zx zx zx,zx,AQ.nil,⟨#[],0,h3,rfl⟩,hD,Ag.nil _ _,zw,zw⟩,⟨sz,low 0 zx zx zx zx,low 1 zx zx zx zx,⟨ph,ch,low 2 zx zx zx zx,kH,hb.len⟩,⟨l3,hb.ok.l4,kA⟩,⟨pg,cg,l4,hb.g4,kG⟩,⟨pm,cm,l5,zJ,kM⟩,fun j hj=>(hB j (by simp[hj])).2.1⟩,h8,hG.of h9 hF,fun j hj=>?_,fun j hj=>⟨fun h=>(hB j (by have h:j∈S:=h;simp[h])).2.2 hj,(hA j hj).elim (hF j) fun h=>zx⟩⟩,⟨fun k hk=>⟨hi _ zx zx,zu⟩,fun i n k h1 h2 h3=>⟨hi _ zx zx,zu⟩⟩,h9,hA,fun i hi=>(hB i hi).1⟩;simp only[Ak,Lj,or_false]at hj;rcases hj with rfl | rfl
 .exact⟨(hB _ zw).2.2,fun h=>(hC _ h).1 rfl,fw ((hB j zw).1)⟩
 .exact⟨(hB _ zw).2.2,fun h=>(hC _ h).2 rfl,fw ((hB j zw).1)⟩
def Ctx.bY {c:Cx}{cs:Ca}{fs fs':List Fc}{Ia:List T}{F' G:Cg}{xs:Bn}{ov:Value}{Fo:Cg}(h:Ctx a c cs fs vs F xs ov Fo w)(hw:Df w' c.p fs' Ia F')(ho:Off (G++F) w w')(hG: ∀ j,j∈G->j∉c.q::c.m::Fo/\j∉c.S/\24<=j)(hs: ∀ i,i∈F'->i∈F\/w.heap.size<=i):Ctx a c cs fs' Ia F' xs ov Fo w':=by
 refine⟨h.bd.off ho fun j hj q=>(Aj.1 q).elim (fun q=>(hG j q).1 hj) (h.dB j hj).1,h.rd.of ho.size (fun k hk=>ho.block k (h.rd.lS k hk) fun q=>(Aj.1 q).elim (fun q=>(hG k q).2.1 hk) fun q=>(h.dF k q).1 hk) ⟨rfl,fun _ _=>rfl⟩,hw,h.gl.of ho fun j hj=>(Aj.1 hj).elim (fun q=>(hG j q).2.2) fun q=>(h.dF j q).2,fun j hj=>⟨fun q=>?_,(h.dB j hj).2⟩,fun j hj=>?_⟩
 .rcases hs j q with q | q
  .exact(h.dB j hj).1 q
  .have:=h.bd.lt j hj;omega
 .rcases hs j hj with q | q
  .exact h.dF j q
  .exact⟨fun r=>fw (h.rd.lS j r),Ab h.gl.most q⟩
structure BS where
 c:Cx
 cs:Ca
 ov:Value
 Fo:Cg
 A:Nat->Nat
 B:Nat->Nat->Nat->Nat
def BS.own (x:BS):Cg:=x.c.q::x.c.m::(x.Fo++x.c.S)
structure MI (a:Nat->Addr) (p:Nat) (fs:List Fc) (vs:List T) (F X:Cg) (l:List BS) (w:Bb):Prop where
 each: ∀ x,x∈l->Ctx a x.c x.cs fs vs F [] x.ov x.Fo w/\Hy x.cs x.A x.B/\x.c.p=p
 apart:l.Pairwise fun x y=> ∀ j,j∈x.own->j∉y.own
 rest: ∀ j,j∈X->j<w.heap.size/\j∉F/\ ∀ x,x∈l->j∉x.own
section
variable {a:Nat->Addr} {p:Nat} {fs fs':List Fc} {vs Ia:List T} {F F' X:Cg} {l l':List BS} {w w':Bb}
def Z92 {x:BS}(h:Ctx a x.c x.cs fs vs F [] x.ov x.Fo w){j:Nat}(hj:j∈x.own):j<w.heap.size:=by
 unfold BS.own at hj;rw[<- EC,<- EC]at hj;rcases Aj.1 hj with q | q
 .exact h.bd.lt j q
 .exact h.rd.lS j q
def MI.be (h:MI a p fs vs F X l w)(hb:Bl w w'):MI a p fs vs F X l w':=⟨fun x hx=>⟨(h.each x hx).1.be hb,(h.each x hx).2⟩,h.apart,fun j hj=>⟨BK (h.rest j hj).1 hb.size,(h.rest j hj).2⟩⟩
def MI.world (h:MI a p fs vs F X l w)(hw:Df w' p fs' Ia F')(ho:Off F w w')(hs: ∀ i,i∈F'->i∈F\/w.heap.size<=i):MI a p fs' Ia F' X l w':=
 ⟨fun x hx=>⟨(h.each x hx).1.world (by rw[(h.each x hx).2.2];exact hw) ho hs,(h.each x hx).2⟩,h.apart,fun j hj=>⟨BK (h.rest j hj).1 ho.size,fun q=>(hs j q).elim (h.rest j hj).2.1 fun q=>by have:=(h.rest j hj).1;omega,(h.rest j hj).2.2⟩⟩
def MI.step {l1 l2:List BS}{x x':BS}(h:MI a p fs vs F X (l1++x::l2) w)(hx:Ctx a x'.c x'.cs fs' vs F' [] x'.ov x'.Fo w')(hT:Hy x'.cs x'.A x'.B)(hc:x'.c=x.c)(ho:Off (x.c.q::x.c.m::(x.Fo++F)) w w')(hs: ∀ i,i∈F'->i∈F\/w.heap.size<=i)(hf: ∀ i,i∈x'.Fo->i∈x.Fo\/w.heap.size<=i):MI a p fs' vs F' X (l1++x'::l2) w':=by
 have hx0:=h.each x zw;have hp:x'.c.p=p:=by rw[hc];exact hx0.2.2
 have hown: ∀ j,j∈x'.own->j∈x.own\/w.heap.size<=j:=fun j hj=>by
  unfold BS.own at hj⊢;rw[hc]at hj;simp only[Ak,Aj]at hj⊢;rcases hj with q | q | q | q
  .exact .inl<|.inl q
  .exact .inl<|.inr<|.inl q
  .exact(hf j q).imp (fun q=> .inr (.inr<|.inl q)) id
  .exact .inl<|.inr<|.inr<|.inr q
 have hap:=h.apart;rw[List.pairwise_append,List.pairwise_cons]at hap;obtain⟨p1,⟨p2,p3⟩,p4⟩:=hap;have two: ∀ y,y∈l1\/y∈l2-> ∀ j,j∈x.own->j∉y.own:=fun y hy j hj q=>hy.elim (fun hy=>p4 y hy x zw j q hj) fun hy=>p2 y hy j hj q;have zA:Off ((x.c.q::x.c.m::x.Fo)++F) w w':=ho;have oth: ∀ y,y∈l1\/y∈l2->Ctx a y.c y.cs fs' vs F' [] y.ov y.Fo w'/\Hy y.cs y.A y.B/\y.c.p=p:=fun y hy=>by
  have mJ:=h.each y (by simp only[Aj,Ak];exact hy.imp id .inr);refine⟨mJ.1.bY (by rw[mJ.2.2,<- hp];exact hx.wd) zA (fun j hj=>?_) hs,mJ.2⟩;have hjx:j∈x.own:=by unfold BS.own;rw[<- EC,<- EC];exact Md _ hj
  have hn:=two y hy j hjx;unfold BS.own at hn;rw[<- EC,<- EC,Aj,not_or]at hn;exact⟨hn.1,hn.2,(hx0.1.dB j hj).2.2⟩
 have new: ∀ y,y∈l1\/y∈l2-> ∀ j,j∈x'.own->j∉y.own:=fun y hy j hj q=>by
  rcases hown j hj with r | r
  .exact two y hy j r q
  .have:=Z92 (h.each y (by simp only[Aj,Ak];exact hy.imp id .inr)).1 q
   omega
 refine⟨fun y hy=>?_,?_,fun j hj=>⟨BK (h.rest j hj).1 ho.size,fun q=>(hs j q).elim (h.rest j hj).2.1 fun q=>fw ((h.rest j hj).1),fun y hy q=>?_⟩⟩
 .simp only[Aj,Ak]at hy;rcases hy with hy | rfl | hy
  .exact oth y<|.inl hy
  .exact⟨hx,hT,hp⟩
  .exact oth y<|.inr hy
 .rw[List.pairwise_append,List.pairwise_cons];refine⟨p1,⟨fun y hy=>new y (.inr hy),p3⟩,fun y hy z hz j hj q=>?_⟩;rcases Ak.1 hz with rfl | hz
  .exact new y (.inl hy) j q hj
  .exact p4 y hy z (by simp[hz]) j hj q
 .simp only[Aj,Ak]at hy;rcases hy with hy | rfl | hy
  .exact(h.rest j hj).2.2 y (by simp[hy]) q
  .rcases hown j q with r | r
   .exact(h.rest j hj).2.2 x zw r
   .have:=(h.rest j hj).1;omega
  .exact(h.rest j hj).2.2 y (by simp[hy]) q
def MI.off {G:Cg}(h:MI a p fs vs F X l w)(ho:Off G w w')(hG: ∀ j,j∈G->24<=j/\j∉F/\ ∀ x,x∈l->j∉x.own)(hX: ∀ j,j∈X'->j<w'.heap.size/\j∉F/\ ∀ x,x∈l->j∉x.own):MI a p fs vs F X' l w':=by
 refine⟨fun x hx=>⟨(h.each x hx).1.other ho fun j hj=>?_,(h.each x hx).2⟩,h.apart,hX⟩;have hn:=(hG j hj).2.2 x hx;unfold BS.own at hn;rw[<- EC,<- EC,Aj,not_or]at hn;exact⟨hn.1,(hG j hj).2.1,hn.2,(hG j hj).1⟩
def MI.snoc {x:BS}(h:MI a p fs vs F X l w)(hx:Ctx a x.c x.cs fs vs F [] x.ov x.Fo w)(hT:Hy x.cs x.A x.B)(hp:x.c.p=p)(hn: ∀ y,y∈l-> ∀ j,j∈y.own->j∉x.own)(hX: ∀ j,j∈X'->j<w.heap.size/\j∉F/\j∉x.own/\ ∀ y,y∈l->j∉y.own):MI a p fs vs F X' (l++[x]) w:=by
 refine⟨fun y hy=>?_,?_,fun j hj=>⟨(hX j hj).1,(hX j hj).2.1,fun y hy=>?_⟩⟩
 .rcases Aj.1 hy with hy | hy
  .exact h.each y hy
  .rw[Bh.1 hy];exact⟨hx,hT,hp⟩
 .rw[List.pairwise_append];exact⟨h.apart,zw,fun y hy z hz=>by rw[Bh.1 hz];exact hn y hy⟩
 .rcases Aj.1 hy with hy | hy
  .exact(hX j hj).2.2.2 y hy
  .rw[Bh.1 hy];exact(hX j hj).2.2.1
end
end
end Go.W
set_option linter.unusedSectionVars false
namespace Go.W
section
variable {a:A}{n:Nat}
variable [Mem]
def QC (st:List Fc×List T) (a:A):List Fc×List T:=((TI st.1 (a.name,FF [] (Cc st.2 a.te).1)).2,(Cc st.2 a.te).2)
structure Rz (a:A):Prop where
 name:a.name.size<=16
 ok: ∀ x,x∈a.te->BR 0 x=0
 len:a.te.length<=6
 free:ET a.te []=true
def Rz.fact (h:Ul a=0):Rz a:=by
 obtain⟨h1,h2⟩:=NI (fun q=>q) h;obtain⟨h3,_⟩:=NI (fun _=>zu) h2;obtain⟨k1,k2,k3⟩:=Yfg (by omega:FH a=0);exact⟨k1,k2,k3,by simpa using h3⟩
structure Uf (n:Nat) (st:List Fc×List T):Prop where
 nd:st.1.Nodup
 ok: ∀ f,f∈st.1->MM st.2.length f
 len:st.1.length<=n
 vals:st.2.length<=6*n
def Ya5 {ss:List Sl}(h: ∀ s,s∈ss->s.1.size=0):FF [] ss=ss.map (·.2):=by
 unfold FF;exact List.map_congr_left fun s hs=>by rw[Dr,xj<|h s hs]
def Rz.WR (h:Rz a){vs:List T}{s:Sl}(hs:s∈(Cc vs a.te).1):s.1.size=0:=by
 by_cases h0:s.1.size=0
 .exact h0
 .obtain⟨x,h1,h2,_⟩:=Zrf a.te vs hs h0;obtain⟨_,_,q,_⟩:=Ztd h.free h1 h2;cases q
def Uf.fact {st:List Fc×List T}(h:Uf n st)(hn:n<60)(ha:Rz a):MM (Cc st.2 a.te).2.length (a.name,FF [] (Cc st.2 a.te).1):=by
 have hv:=h.vals;have hl:=ha.len;have hp:=qL a.te st.2 ha.ok zx;refine⟨ha.name,by show(FF _ _).length<=6;unfold FF;rw[Dj,(Xx _ _).1];exact hl,fun v q=>?_⟩;have q:v∈FF [] (Cc st.2 a.te).1:=q;rw[Ya5 fun s hs=>ha.WR hs]at q;obtain⟨s,hs,rfl⟩:=List.mem_map.1 q;exact(hp.2 s hs).2.2<|ha.WR hs
def Uf.step {st:List Fc×List T}(h:Uf n st)(hn:n<60)(ha:Rz a):Uf (n+1) (QC st a)/\(TI st.1 (a.name,FF [] (Cc st.2 a.te).1)).1=true:=by
 have hv:=h.vals;have hl:=ha.len;have hf:=h.fact hn ha;have hp:=(qL a.te st.2 ha.ok zx).1;have hq:=(Xx a.te st.2).2;unfold QC;generalize (a.name,FF [] (Cc st.2 a.te).1)=f at*;have t:=EX.one st.1 f;obtain⟨ad,e,had⟩:=t.ext;have hlen:=h.len;by_cases Ci:f∈st.1
 .rw[Zvr Ci];exact⟨⟨h.nd,fun g q=>(h.ok g q).mono hp,by dsimp only;omega,by dsimp only;omega⟩,rfl⟩
 .rw[Zq2 Ci zx]at t⊢;refine⟨⟨t.nd h.nd,fun g q=>?_,zc,by dsimp only;omega⟩,rfl⟩;rcases Aj.1 q with q | q
  .exact(h.ok g q).mono hp
  .rw[Bh.1 q];exact hf
def Uf.all: ∀ (l:List A) (n:Nat) (st:List Fc×List T),Uf n st->n+l.length<=60->(∀ a,a∈l->Rz a)->Uf (n+l.length) (l.foldl QC st)
 | [],n,st,h,_,_=>h
 | a::l,n,st,h,hn,ha=>by
  rw[DU]at hn⊢
  have:=Uf.all l (n+1) (QC st a) (h.step zx<|ha a zw).1 zx fun b hb=>ha b (by simp[hb])
  rwa [show n+1+l.length=n+(l.length+1)by omega]at this
def MM.ok {f:Fc}(h:MM n f)(hn:n<1000000000):GY f:=⟨by have:=h.name;omega,h.len,fun v q=>by have:=h.val v q;omega⟩
end
section
variable [Mem]
attribute [local go_sem] Me
def Ybb {w:Bb}{p:Nat}{F:Cg}(h:Df w p [] [] F){B D:Nat}{l:List A}{pl:Bp}{cl:Nat}(hb:Ap 2 (Ep B w<|D+2) pl l)(hB:B<=w.heap.size)(hFB: ∀ i,i∈F->B<=i)(h1: ∀ a,a∈l->Rz a)(hl:l.length<=60):
  Calls prog 54 #[zq p 0,sP pl l.length cl] w fun e w'=>e=uY (.bool true)/\ ∃ F',Df w' p (l.foldl QC ([],[])).1 (l.foldl QC ([],[])).2 F'/\Off F w w'/\ ∀ i,i∈F'->i∈F\/w.heap.size<=i:=by
 obtain⟨nl,L8⟩:=cK (l.length);rw[L8.o]at hl;rw[L8.o];have HTA:AF (∀ k,k<=nl->Uf k ((l.take k).foldl QC ([],[]))):=⟨fun k hk=>by
  have:=Uf.all (l.take k) 0 ([],[]) ⟨zw,fun _ q=>(by cases q),EO _,Eg _⟩ (by rw[wt,L8.o];omega) fun a ha=>h1 a (List.mem_of_mem_take ha)
  rwa [wt,L8.o,Nat.min_eq_left hk,Gx]at this⟩
 have HBD:=AC hb;have H1:=AC h1;have H:=AC h;clear hb h1 h;refine X9 func54 rfl ?_;simp only[ntmps54,GN,DU,JC,Nat.reduceAdd,Nat.reduceSub,Qu,Qv,Qr,Qt,JU,EC];go_wp2
 go_loopw [9] (fun iv wr=> ∃ k,k<=nl/\iv= zo ((k:Nat):Int)/\ ∃ F',Df wr p ((l.take k).foldl QC ([],[])).1 ((l.take k).foldl QC ([],[])).2 F'/\Off F w wr/\ ∀ i,i∈F'->i∈F\/w.heap.size<=i) (fun iv _=>nl-Td iv)
 .exact⟨0,Eg _,rfl,F,H.o,Off.refl _ _,fun _ h=> .inl h⟩
 .obtain⟨k,hk,rfl,F',hwd,DL,Dh⟩:=hrel;have RE:=HTA.o k hk;obtain⟨st,hst⟩:=cK ((l.take k).foldl QC ([],[]));rw[hst.o]at RE hwd;by_cases hlt:k<nl
  .obtain⟨a,hak⟩: ∃ a,l[k]?=some a:=⟨_,A8 (fw (L8.o))⟩;have Aq:=H1.o a<|Ej hak;have hv:=RE.vals;have hf:=(RE.fact zx Aq).ok (jE ((Xx a.te st.2).2) (Aq.len));obtain⟨hj1,Am⟩:=RE.step zx Aq;have TA:=AC<|AJ RE<|AJ Aq hf;have EJ:=AC Am;have HLN:AF ((Cc st.2 a.te).1.length<=6):=⟨by rw[(Xx _ _).1];exact Aq.len⟩;have HSZ:AF (∀ s,s∈(Cc st.2 a.te).1->s.1.size<1000000000):=⟨fun s hs=>by rw[Aq.WR hs];omega⟩;obtain⟨bb,oo,rfl,hA⟩:=HBD.o.at_ k a hak;have jK:Below B w wr:=DL.be hFB hB;obtain⟨G4,pc,cc,z0,z1,hAS⟩:=(Ep.cy (Go.W.Below.cy jK lr) lr hA).vals;obtain⟨pc',cc',e1,_,_,hrt⟩:=hAS;injection e1 with _ e1;injection e1 with e1 _;injection e1 with e1 _ e3;subst e1;subst e3;have g:(k:Int)<(nl:Int):=zx
   have aT:B<=wr.heap.size:=Ab hB jK.size;have jH: ∀ j,j∈F'->B<=j:=fun j hj=>(Dh j hj).elim (hFB j) zx;have CS:=AC fun u (hu:Bl wr u)=>Zk9 (c:=cc) (n:=a.name) (hwd.of hu.size fun j hj=>hu.block j (hwd.lt j hj)) (hrt.cy fun b o x q=>He.cy (Bq hu aT) lr q) (Ab aT hu.size) Aq.ok Aq.len zx jH;have HR:=AC<|AJ hwd<|AJ DL Dh;have AK:=AC hak;clear hwd DL Dh hA hrt hak RE Aq hf hj1 Am;generalize hla:a.te.length=na at*;clear hla;go_wp2_with fail
   apply(CS.o _<|(AR _ wr).alloc lr _).mono;rintro e w5 ⟨sv5,G5,F5,rfl,UK,Pm,RP,Di,hs5,dh⟩;obtain⟨p5,c5,rfl,hsa⟩:=AQ.Jn (S:=G5) UK (fun _ h=>h) HSZ.o;have CF:=AC<|Zna (w:=w5) (mv:= .map none) (xs:=[]) (.inl ⟨rfl,rfl⟩) (fun m e=>by cases e) none 0 0 (c:=c5) hsa (fun j hj=>Pm.lt j hj) HLN.o a.name;have Gn: ∀ i,i∈F5->i∈F'\/wr.heap.size+1<=i:=fun i hi=>(hs5 i hi).imp id fun h=>by simpa using h
   have P5:=AC<|AJ RP<|AJ Di Gn;obtain⟨f,hfq⟩:=cK ((a.name,FF [] (Cc st.2 a.te).1));rw[hfq.o]at CF TA EJ;clear RP Di hs5 UK Pm dh Gn hsa;generalize (Cc st.2 a.te).1.length=n5 at*;go_wp2_with fail
   apply mq CF.o;rintro w6 Gp;have CJ:=AC<|Zvs (P5.o.1.of Gp.size fun j hj=>Gp.block j (P5.o.1.lt j hj)) f TA.o.2.2 (fun y hy=>(TA.o.1.ok y hy).ok zx) (fw (TA.o.1.len));rw[EJ.o]at CJ;have HB6:=AC Gp;clear Gp;go_wp2_with fail
   apply mq CJ.o;rintro w7 ⟨F7,XX,NJ,PY⟩;have EQ:(l.take<|k+1).foldl QC ([],[])=((TI st.1 f).2,(Cc st.2 a.te).2):=by
    rw[PM,AK.o,List.foldl_append,hst.o];simp[QC,hfq.o]
   have l5:wr.heap.size+1<=w5.heap.size:=by have:=P5.o.2.1.size;simpa using this
   have HF:AF (∃ F',Df w7 p ((l.take<|k+1).foldl QC ([],[])).1 ((l.take<|k+1).foldl QC ([],[])).2 F'/\Off F w w7/\ ∀ i,i∈F'->i∈F\/w.heap.size<=i):=by
    rw[EQ];have lw:=HR.o.2.1.size;have eX: ∀ i,i∈F5->i∈F\/w.heap.size<=i:=fun i hi=>(P5.o.2.2 i hi).elim (HR.o.2.2 i) fun h=> .inr zx;refine⟨F7,XX,(((HR.o.2.1.trans (Off.of (F:=[])<|(AR _ wr).alloc lr _) fun _ h=>(by cases h)).trans P5.o.2.1 fun i hi=>HR.o.2.2 i hi).trans (Off.of (F:=[]) HB6.o) fun _ h=>(by cases h)).trans NJ eX,fun i hi=>(PY i hi).elim (eX i) fun h=> .inr (fw (HB6.o.size))⟩
   clear EQ XX NJ PY;go_wp2
   exact⟨⟨k+1,zx,zw,HF.o⟩,by simp[Td];omega⟩
  .have g: ¬ (k:Int)<(nl:Int):=zx
   obtain rfl:k=nl:=zx
   have jN:l.foldl QC ([],[])=st:=by rw[<- hst.o,U0 (fw (L8.o))]
   have HE:=AC jN;have HR:=AC<|AJ hwd<|AJ DL Dh;clear jN hwd DL Dh RE;go_wp2
   go_ret
   rw[HE.o];exact⟨rfl,F',HR.o.1,HR.o.2.1,HR.o.2.2⟩
end
end Go.W
set_option linter.unusedSectionVars false
namespace Go.W
section
variable [Mem]
def PD.zY {n:Nat}{b:BD}(h:PD n b):Uu b:=by
 have hk:=qj (hd:=b.hd.2) h.ok.l4 h.ok.l6;have hl:=Zqy (hd:=b.hd.2) h.ok.l4 h.ok.l6
 have:=h.name
 have:=h.len
 refine⟨zx,h.len,fun s hs=>(h.hd s hs).2.1,?_,?_,?_⟩
 .rw[h.ok.hs];exact hk.nd
 .rw[h.ok.hs];omega
 .rw[h.ok.hs];exact hk.lt
def PD.nums {b:BD}{vs:List T}{fs:List Fc}(h:PD vs.length b)(hf: ∀ f,f∈fs->MM vs.length f):Zp b fs vs []:=⟨fun f q=>⟨(hf f q).len,(hf f q).val⟩,fun _ q=>(by cases q),fun g q=>⟨(h.gs g q).1.2.2,(h.gs g q).2.1.2.2⟩⟩
end
section
variable [Mem]
section
variable {a:Nat->Addr} {p seen now:Nat} {fs:List Fc} {vs:List T} {F X:Cg} {l1 l2:List BS} {x:BS} {w:Bb}
def Z6s (h:MI a p fs vs F X (l1++x::l2) w)(hb:PD vs.length x.c.b)(hf: ∀ f,f∈fs->MM vs.length f)(hT:FU x.c.b vs fs seen x.A x.B)(hs:seen<=now)(hn:now<=fs.length)(Fq:fs.length<=60):
  Calls prog 114 #[zq x.c.q 0,zo (seen:Int),zo (now:Int)] w fun e w'=>e=uY (.tuple #[])/\ ∃ x',x'.c=x.c/\MI a p fs vs F X (l1++x'::l2) w'/\FU x.c.b vs fs now x'.A x'.B/\Off (x.c.q::x.c.m::(x.Fo++F)) w w'/\ ∀ i,i∈x'.Fo->i∈x.Fo\/w.heap.size<=i:=by
 obtain⟨hx,VQ,_⟩:=h.each x zw;refine(Zx5 hx (hb.nums hf) VQ zx hn Fq fun k j hk hj=>?_).mono ?_
 .have:=hT.lt k j<|(Ol<|Nat.lt_trans (hT.PR zx k) zu).1 hj
  omega
 .rintro e w' ⟨rfl,cs',Br,Au,hc,hTb',hst⟩;have DL:Off (x.c.q::x.c.m::(x.Fo++F)) w w':=⟨hst.1.os,hst.1.tape,hst.1.output,hst.1.size,fun k hk hn=>hst.1.block k hk fun q=>hn (by simp only[Ak,Aj]at q⊢;exact q.imp id (·.imp id .inl))⟩;exact⟨rfl,⟨x.c,cs',Br,Au,_,_⟩,rfl,h.step (x':=⟨x.c,cs',Br,Au,_,_⟩) hc hTb' rfl DL (fun _ q=> .inl q) hst.2,hT.Z7 hs zx,DL,hst.2⟩
def Z1m (h:MI a p fs vs F X (l1++x::l2) w)(hb:PD vs.length x.c.b)(hf: ∀ f,f∈fs->MM vs.length f)(hv:vs.length<100000)(hT:FU x.c.b vs fs now x.A x.B)(hs:seen<=now)(hn:now<=fs.length)(Fq:fs.length<=60)(hold:x.c.b.at_≠[]-> ∀ y,TG x.c.b vs (·∈fs.take seen) y->y∈fs):
  Calls prog 115 #[zq x.c.q 0,zo (seen:Int)] w fun e w'=> ∃ r fs' F' x',e=uY (.bool r)/\EX (TG x.c.b vs (·∈fs.take now)) fs r fs'/\x'.c=x.c/\x'.A=x.A/\x'.B=x.B/\MI a p fs' vs F' X (l1++x'::l2) w'/\Off (x.c.q::x.c.m::(x.Fo++F)) w w'/\(∀ i,i∈F'->i∈F\/w.heap.size<=i)/\ ∀ i,i∈x'.Fo->i∈x.Fo\/w.heap.size<=i:=by
 obtain⟨hx,VQ,_⟩:=h.each x zw;apply(Z5g hx VQ (hb.nums hf).known hb.zY zx (fun j n q=>fw (hT.lt j n q)) (hT.PR zx) (fun y q=>(hf y q).ok zx) Fq).mono;rintro e w' ⟨r,fs',F',Br,Au,rfl,ht,hc,ho,h4,h5⟩;refine⟨r,fs',F',⟨x.c,x.cs,Br,Au,x.A,x.B⟩,rfl,ht.weak (fun y q=>Z5h hT hb.ok hn Fq q) fun y q=>?_,rfl,rfl,rfl,h.step (x':=⟨x.c,x.cs,Br,Au,x.A,x.B⟩) hc VQ rfl ho h4 h5,ho,h4,h5⟩;rcases Z5f hT hb.ok hn Fq hs q with q | q
 .exact .inl q
 .exact .inr<|hold q.1 y q.2
end
end
end Go.W
set_option linter.unusedSectionVars false
namespace Go.W
section
variable [Mem]
def jW (P:Fc->Prop) (vs:List T) (r:R):Prop:= ∃ σ,Yjq (Qh vs r) (Jg vs r).1 P σ
end
section
variable {F F':Cg}{w w':Bb}{a:Nat->Addr}{B p D:Nat}{vs:List T}{rv:Bu}{r:R}
variable [Mem]
attribute [local go_sem] Me
structure GA (a:Nat->Addr) (B p:Nat) (fs:List Fc) (vs:List T) (F:Cg) (w:Bb):Prop where
 wd:Df w p fs vs F
 gl:Oq a w
 hF: ∀ i,i∈F->24<=i
 hB:B<=w.heap.size
 hFB: ∀ i,i∈F->B<=i
 PR:fs.length<=60
 inn: ∀ f,f∈fs->MM vs.length f
def Mv (F F':Cg) (w w':Bb):Prop:=Off F w w'/\ ∀ i,i∈F'->i∈F\/w.heap.size<=i
def Mv.refl (F:Cg)(w:Bb):Mv F F w w:=⟨Off.refl _ _,fun _ h=> .inl h⟩
def Mv.be (h:Bl w w'):Mv F F w w':=⟨Off.of h,fun _ h=> .inl h⟩
def Mv.trans {G H:Cg}{u v:Bb}(h:Mv F G u v)(k:Mv G H v w):Mv F H u w:=⟨h.1.trans k.1 h.2,fun i hi=>(k.2 i hi).elim (h.2 i) fun q=> .inr (Ab h.1.size q)⟩
def GA.next {fs:List Fc}{Ia:List T}(h:GA a B p fs vs F w)(hw:Df w' p fs Ia F')(ho:Mv F F' w w')(hl:vs.length<=Ia.length):GA a B p fs Ia F' w':=⟨hw,h.gl.of ho.1 h.hF,fun i hi=>(ho.2 i hi).elim (h.hF i) fun q=>Ab h.gl.most q,Ab h.hB ho.1.size,fun i hi=>(ho.2 i hi).elim (h.hFB i) fun q=>Ab h.hB q,h.PR,fun f q=>(h.inn f q).mono hl⟩
def GA.be {fs:List Fc}(h:GA a B p fs vs F w)(hb:Bl w w'):GA a B p fs vs F w':=h.next (h.wd.of hb.size fun j hj=>hb.block j (h.wd.lt j hj)) (.be hb) lr
def GA.cy {fs:List Fc}(h:GA a B p fs vs F w)(ho:Mv F F' w w'):EG B B w w':=Go.W.Below.cy (ho.1.be h.hFB h.hB) lr
def Yje (a:Nat->Addr) (p:Nat) (fs:List Fc) (us:List T) (b:BD) (F:Cg) (u:Bb) (e:Ending) (w':Bb):Prop:= ∃ c cs F',e=uY (zq c.q 0)/\c.p=p/\c.b=b/\Ctx a c cs fs us F' [] (zn) [] w'/\Hy cs (fun _=>0) (fun _ _ _=>0)/\Off F u w'/\(∀ i,i∈F'->i∈F\/u.heap.size<=i)/\ ∀ i,i∈c.q::c.m::c.S->u.heap.size<=i
def Z2b {fs:List Fc}(h:GA a B p fs vs F w)(hS:Jy B w (D+1) rv r)(Aq:Jj r)(hl:vs.length+100<100000)(u:Bb)(hu:Bl w u):
  Calls prog 113 #[zq p 0,.agg rv.toArray] u fun e w'=>Yje a p fs (Jg vs r).1 (Qh vs r) F u e w':=by
 obtain⟨va,pb,cb,pg,cg,rfl,⟨pt,ct,rfl,_,_,hrt⟩,_,aC,_,hrg⟩:=hS;obtain⟨Et,hv2,WH⟩:=Aq.pQ hl;have hc:=Bq hu h.hB;refine(Ybp (h.wd.of hu.size fun j hj=>hu.block j (h.wd.lt j hj)) (hrt.cy fun _ _ _ q=>He.cy hc lr q) Aq.ht Aq.h6 (aC.cy fun _ _ _ q=>Ep.cy hc lr q) (Ab h.hB hu.size) h.hFB Aq.bt Aq.b4 (hrg.cy fun _ _ _ q=>QK.cy hc lr q) (fun g q=>⟨(Aq.gt g q).1,(Aq.gt g q).2.1,g.op.toNat,fw ((Aq.gt g q).2.2)⟩) Aq.g4 hl ⟨fun s hs=>(WH.hd s hs).1,fun p q=>⟨WH.ok.l6 p q,fun s hs=>(WH.at_ p q s hs).1⟩⟩).mono fun e w' hm=>?_;exact hm.ctx (h.gl.of (F:=[]) (Off.of hu) fun _ h=>(by cases h)) h.hF WH
def WhP (Q:Prop) (fs:List Fc) (p:Nat) (F:Cg) (w:Bb) (us:List T) (e:Ending) (w':Bb):Prop:= ∃ (b:Bool) (F':Cg),e=uY (.bool b)/\(b=true↔Q)/\Df w' p fs us F'/\Mv F F' w w'
def Z67 {fs:List Fc}(h:GA a B p fs vs F w)(hS:Jy B w (D+1) rv r)(Aq:Jj r)(hl:vs.length+100<100000):
  Calls prog 219 #[zq p 0,.agg rv.toArray] w fun e w'=>WhP (jW (·∈fs) vs r) fs p F w (Jg vs r).1 e w':=by
 have CB:=AC<|Z2b h hS Aq hl;obtain⟨va,pb,cb,pg,cg,rfl,⟨pt,ct,rfl,_,_,hrt⟩,_,aC,_,hrg⟩:=hS;obtain⟨Et,hv2,WH⟩:=Aq.pQ hl;have HI:=AC WH;have HN:AF (∀ f,f∈fs->MM (Jg vs r).1.length f):=⟨fun f q=>(h.inn f q).mono Et⟩;have HW:AF (∀ A B,FU (Qh vs r) (Jg vs r).1 fs fs.length A B->((Gf (Jg vs r).1 [] (Qh vs r).gs=true/\Xq B (Qh vs r).at_.length (Qh vs r).at_.length 0 A)↔jW (·∈fs) vs r)):=⟨fun A B hT=>Z84 hT WH.ok h.PR⟩;have H:=AC h;clear h hrt aC hrg Aq WH Et hv2 hl;generalize (Jg vs r).1=us at*;generalize Qh vs r=b at*;generalize jW (·∈fs) vs r=HR at*;go_in
 go_wp2_with fail
 apply(CB.o _<|(AR _ w).alloc lr _).mono;rintro e w1 ⟨c,cs,F1,rfl,rfl,rfl,KI,RZ,ho,hs,VN⟩;obtain⟨p0,tK⟩: ∃ pf,∃ cf,w1.cell? (zm c.p 0)=some (sP pf fs.length cf):=by
  obtain⟨k,r',fv,vv,Ff,Fv,hw⟩:=KI.wd;obtain⟨pf,cf,rfl⟩:=AQ.form hw.fa;exact⟨pf,cf,hw.blk.four.1⟩
 obtain⟨c0,hc0⟩:=tK;have Fq:=H.o.PR;have CL:=AC<|Zx5 KI (HI.o.nums HN.o) RZ (seen:=0) (now:=fs.length) zx lr Fq (fun k j _ hj=>by simp[DZ]at hj);have hTI:=(FU.zero c.b us fs).Z7 (Eg _) Fq;generalize Ku c.b us fs (fun _=>0) 0 fs.length c.b.at_.length=A1 at*;generalize UF c.b us fs A1 (fun _ _ _=>0) 0 (LW c.b.at_.length [] A1)=B1 at*;have HT:=AC hTI;have P1:=AC<|AJ ((Off.of (F:=F)<|(AR _ w).alloc lr _).trans ho fun _ h=> .inl h)<|AJ hs VN;clear CB KI RZ ho hs VN hTI;go_wp2_with fail
 apply mq CL.o;rintro w2 ⟨uW,Q7,XP,hc2,Pv,hst⟩;have C2:=AC hc2;have T2:=AC Pv;have ST:=AC hst;have CA:=AC<|Zm4 hc2 (HI.o.nums HN.o).known;have CH:=AC fun u (hu:Bl w2 u)=>Zqx (L:=A1) (hc2.be hu) Pv (HT.o.PR Fq);have cell:=fun j hj=>hc2.cell j hj;have qx: ∀ u,Bl w2 u-> ∀ k,k<4->u.cell? (zm c.q (8+k))=some (.int .u64 (A1 k:Int)):=fun u hu k hk=>((hc2.be hu).cell (8+k) zx).trans (Pv.a k hk).1;have QX:=AC qx;clear CL hc2 Pv hst cell hc0 qx;go_wp2_with fail
 apply mq CA.o;rintro w3 hb3;have DJ:AF (∀ u,Bl w2 u->Df u c.p fs us F1/\Mv F F1 w u):=⟨fun u hu=>⟨(C2.o.be hu).wd,((P1.o.1.trans ST.o.1 fun i hi=> .inr (by
  have q:=P1.o.2.2;simp only[Ak,Lj,or_false]at hi;have h1:(w.alloc<|.cells #[um r.head.name,sP pt r.head.te.length ct,sP pb r.body.length cb,sP pg r.gu.length cg] 69).heap.size<=i:=by
   rcases hi with rfl | rfl
   .exact q _ zw
   .exact q _ zw
  simp at h1
  omega)).trans (Off.of (F:=[]) hu) fun _ h=>(by cases h)),fun i hi=>(P1.o.2.1 i hi).imp id fun h=>by simp at h;omega⟩⟩
 have UA:=AC hb3;have xZ:=AC<|CH.o w3 hb3;obtain⟨z0,z1,z2,z3⟩:=AJ (QX.o w3 hb3 0 zx)<|AJ (QX.o w3 hb3 1 zx)<|AJ (QX.o w3 hb3 2 zx)<|QX.o w3 hb3 3 zx;have iD:=AC<|HW.o A1 B1 HT.o;clear hb3 CA CH QX HW;cases OY:Gf us [] c.b.gs with
 | false=>
  rw[OY]at iD;have HQ:AF (¬ HR):=⟨fun q=>by have:=(iD.o.2 q).1;cases this⟩;clear iD xZ z0 z1 z2 z3 OY;go_wp2
  go_ret
  exact⟨false,F1,rfl,⟨fun q=>(by cases q),fun q=>absurd q HQ.o⟩,DJ.o w3 UA.o⟩
 | true=>
  rw[OY]at iD;clear OY;unfold D7 at xZ;go_wp2_with fail
  apply xZ.o.mono;rintro e w4 ⟨⟨bb,rfl,E6⟩,hb4⟩;have HQ:AF (bb=true↔HR):=⟨E6.trans ⟨fun q=>iD.o.1 ⟨by trivial,q⟩,fun q=>(iD.o.2 q).2⟩⟩;have U6:=tr UA hb4;clear E6 hb4 xZ z0 z1 z2 z3 iD;go_wp2
  go_ret
  exact⟨bb,F1,rfl,HQ.o,DJ.o w4 U6.o⟩
end
open Classical in
noncomputable def Je (P:Fc->Prop):List T->List R->Bool×List T
 | vs,[]=>(false,vs)
 | vs,r::rs=>if jW P vs r then(true,(Jg vs r).1)else Je P (Jg vs r).1 rs
noncomputable def Su (P:Fc->Prop):List T->List (List R)->Bool×List T
 | vs,[]=>(true,vs)
 | vs,c::cs=>if(Je P vs c).1=true then Su P (Je P vs c).2 cs else(false,(Je P vs c).2)
noncomputable def ZL (P:Fc->Prop):List T->List Dk->Bool×List T
 | vs,[]=>(false,vs)
 | vs,p::ps=>if(Je P vs p.either).1=true then(p.allow,(Je P vs p.either).2)else ZL P (Je P vs p.either).2 ps
def Zuv {P:Fc->Prop}: ∀ (rs:List R) (vs:List T),(∀ r,r∈rs->Jj r)->vs.length+38*rs.length+100<100000->vs.length<=(Je P vs rs).2.length/\(Je P vs rs).2.length<=vs.length+38*rs.length
 | [],vs,_,_=>⟨EO _,EO _⟩
 | r::rs,vs,h,hl=>by
  rw[DU]at hl⊢;obtain⟨h1,h2,_⟩:=(h r zw).pQ (vs:=vs) zx
  have:=Zuv (P:=P) rs (Jg vs r).1 (fun x q=>h x (by simp[q])) zx
  rw[Je];split
  ·dsimp only;omega
  ·omega
section
variable {rs:List R}
attribute [local go_sem] Me
section
variable {a:Nat->Addr} {w:Bb} {B p D c:Nat} {fs:List Fc} {vs:List T} {F:Cg} {pr:Bp}
def Yjh (b:Bool) (e:Ending):Prop:= ∃ i:Int,e=uY (zo i)/\decide (0<=i)=b
def Z6c (h:GA a B p fs vs F w)(hr:Ap 4 (FJ B w<|D+2) pr rs)(Aq: ∀ r,r∈rs->Jj r)(hl:vs.length+38*rs.length+100<100000):
  Calls prog 259 #[sP pr rs.length c,.func (.func 219) #[zq p 0] #[]] w fun e w'=>Yjh (Je (·∈fs) vs rs).1 e/\ ∃ F',GA a B p fs (Je (·∈fs) vs rs).2 F' w'/\Mv F F' w w':=by
 have hen: ∀ args w,(callFunc 219 args).run prog w= .ok (.enter 219 args) w:=EH func219 zt rfl;obtain⟨n,hn⟩:=cK (rs.length);rw[hn.o]at hl⊢;have H:=AC h;have HR:=AC hr;have HO:=AC Aq;have tX:=hr.len;rw[hn.o]at tX;clear h hr Aq;go_in
 go_wp2
 go_loopw [8] (fun iv wr=> ∃ (k:Nat) (us:List T) (F':Cg),k<=n/\iv= zo (k:Int)/\GA a B p fs us F' wr/\Mv F F' w wr/\us.length<=vs.length+38*k/\Je (·∈fs) vs rs=Je (·∈fs) us (rs.drop k)) (fun iv _=>n-(intOf iv).toNat)
 .exact⟨0,vs,F,Eg _,rfl,H.o,Mv.refl _ _,zx,rfl⟩
 .obtain⟨k,us,F',hk,rfl,hwd,Pg,hul,Ce⟩:=hrel;by_cases hlt:k<n
  .have g:(k:Int)<(n:Int):=zx
   obtain⟨r,hrk⟩: ∃ r,rs[k]?=some r:=⟨_,A8 (fw (hn.o))⟩;have hro:=HO.o r<|Ej hrk;obtain⟨b,o,rfl,hA⟩:=HR.o.at_ k r hrk;obtain⟨VO,p1,c1,p2,c2,p3,c3,z0,z1,z2,z3,hS⟩:=(FJ.cy (H.o.cy Pg) lr hA).vals;have hdr:rs.drop k=r::rs.drop (k+1):=by rw[<- (DW.1 hrk).2,xH (fw (hn.o))]
   rw[hdr,Je]at Ce;obtain⟨m1,m2,_⟩:=hro.pQ (vs:=us) zx;have CH:=AC<|Z67 hwd hS hro zx;have Ao:=AC<|AJ hwd<|AJ Pg<|AJ Ce<|AJ m1 m2;clear hwd Pg Ce hA hS hdr hrk hro m1 m2;go_wp2_with fail
   apply CH.o.mono;rintro e w1 ⟨bb,F1,rfl,E6,BI,NP⟩;have W1:=AC<|Ao.o.1.next BI NP Ao.o.2.2.2.1;have M1:=AC<|Ao.o.2.1.trans NP;have HI:=AC E6;clear E6 BI NP;cases bb with
   | true=>
    have E:=AC<|Ao.o.2.2.1.trans<|xj<|HI.o.1 rfl;go_wp2
    go_ret
    rw[E.o];exact⟨⟨_,rfl,zw⟩,F1,W1.o,M1.o⟩
   | false=>
    have E:=AC<|Ao.o.2.2.1.trans (xd fun q=>by have:=HI.o.2 q;cases this);go_wp2
    exact⟨⟨k+1,_,F1,zx,zw,W1.o,M1.o,fw (Ao.o.2.2.2.2),E.o⟩,zd⟩
  .obtain rfl:k=n:=zx
   have hdr:rs.drop k=[]:=List.drop_eq_nil_of_le (fw (hn.o));rw[hdr,Je]at Ce;have Ao:=AC<|AJ hwd<|AJ Pg Ce;clear hwd Pg Ce hdr;go_wp2
   go_ret
   rw[Ao.o.2.2];exact⟨⟨-1,rfl,rfl⟩,F',Ao.o.1,Ao.o.2.1⟩
def Zv2 (h:GA a B p fs vs F w)(hr:Ap 4 (FJ B w<|D+2) pr rs)(Aq: ∀ r,r∈rs->Jj r)(hl:vs.length+38*rs.length+100<100000):
  Calls prog 218 #[sP pr rs.length c,.func (.func 219) #[zq p 0] #[]] w fun e w'=>e=uY (.bool (Je (·∈fs) vs rs).1)/\ ∃ F',GA a B p fs (Je (·∈fs) vs rs).2 F' w'/\Mv F F' w w':=by
 have C:=AC<|Z6c (c:=c) h hr Aq hl;clear h hr Aq hl;generalize rs.length=n at*;go_in
 go_wp2_with fail
 apply C.o.mono;rintro e w1 ⟨⟨i,rfl,hi⟩,j⟩;have J1:=AC j;clear j C;go_wp2
 go_ret
 first | exact⟨rfl,J1.o⟩ | exact⟨by rw[hi],J1.o⟩
def Zoc (h:GA a B p fs vs F w)(hr:Ap 4 (FJ B w<|D+2) pr rs)(Aq: ∀ r,r∈rs->Jj r)(hl:vs.length+38*rs.length+100<100000):
  Calls prog 157 #[zq p 0,sP pr rs.length c] w fun e w'=>e=uY (.bool (Je (·∈fs) vs rs).1)/\ ∃ F',GA a B p fs (Je (·∈fs) vs rs).2 F' w'/\Mv F F' w w':=by
 have C:=AC<|Zv2 (c:=c) h hr Aq hl;have Ho:=fun(fn:Go.Fn) (first cap:Ca) (w:Bb)=>(rfl:(Instr.makeFunc fn first cap).run prog w= .ok (.func fn first cap) w);clear h hr Aq hl;generalize rs.length=n at*;go_in
 go_wp2_with fail
 apply mq C.o;rintro w1 j;have J1:=AC j;clear j C;go_wp2
 go_ret
 exact⟨rfl,J1.o⟩
def Z55 (h:GA a B p fs vs F w){cs:List (List R)}(hr:Ap 1 (Go.W.Rw B w<|D+3) pr cs)(Aq: ∀ x,x∈cs->x.length<=4/\ ∀ r,r∈x->Jj r)(zC:cs.length<=24)(hl:vs.length<90000):
  Calls prog 101 #[zq p 0,sP pr cs.length c] w fun e w'=>e=uY (.bool (Su (·∈fs) vs cs).1)/\ ∃ F',GA a B p fs (Su (·∈fs) vs cs).2 F' w'/\Mv F F' w w'/\(Su (·∈fs) vs cs).2.length<=vs.length+4000:=by
 obtain⟨n,hn⟩:=cK (cs.length);rw[hn.o]at zC⊢;have H:=AC h;have HR:=AC hr;have HO:=AC Aq;clear h hr Aq;go_in
 go_wp2
 go_loopw [9] (fun iv wr=> ∃ (k:Nat) (us:List T) (F':Cg),k<=n/\iv= zo (k:Int)/\GA a B p fs us F' wr/\Mv F F' w wr/\us.length<=vs.length+152*k/\Su (·∈fs) vs cs=Su (·∈fs) us (cs.drop k)) (fun iv _=>n-(intOf iv).toNat)
 .exact⟨0,vs,F,Eg _,rfl,H.o,Mv.refl _ _,zx,rfl⟩
 .obtain⟨k,us,F',hk,rfl,hwd,Pg,hul,Ce⟩:=hrel;by_cases hlt:k<n
  .have g:(k:Int)<(n:Int):=zx
   obtain⟨x,GR⟩: ∃ x,cs[k]?=some x:=⟨_,A8 (fw (hn.o))⟩;obtain⟨hx4,Ou⟩:=HO.o x<|Ej GR;obtain⟨b,o,rfl,hA⟩:=HR.o.at_ k x GR;obtain⟨VO,p1,c1,z0,hS⟩:=(Go.W.Rw.cy (H.o.cy Pg) lr hA).vals;rw[Nat.mul_one]at z0;obtain⟨yC,Sn,e1,_,hrow⟩:=hS;injection e1 with e1 _;injection e1 with e1 _ e3;subst e1;subst e3;have hdr:cs.drop k=x::cs.drop (k+1):=by rw[<- (DW.1 GR).2,xH (fw (hn.o))]
   rw[hdr,Su]at Ce;have KM:=Zuv (P:=(·∈fs)) x us Ou zx;have CH:=AC fun u (hu:Bl wr u)=>Zoc (c:=c1) (hwd.be hu) (hrow.cy fun _ _ _ q=>FJ.cy (Bq hu hwd.hB) lr q) Ou zx;have Ao:=AC<|AJ hwd<|AJ Pg<|AJ Ce KM;generalize FY:x.length=nx at*;clear hwd Pg Ce hA hrow hdr GR Ou KM FY;go_wp2_with fail
   apply(CH.o _<|(AR _ wr).alloc lr _).mono;rintro e w1 ⟨rfl,F1,BI,NP⟩;have W1:=AC<|AJ BI<|Ao.o.2.1.trans<|(Mv.be<|(AR _ wr).alloc lr _).trans NP;clear BI NP CH;generalize hab:Je (·∈fs) us x=av at*;obtain⟨bb,us'⟩:=av;clear hab;cases bb with
   | true=>
    have E:=AC<|Ao.o.2.2.1.trans<|xj rfl;go_wp2
    exact⟨⟨k+1,_,F1,zx,zw,W1.o.1,W1.o.2,fw (Ao.o.2.2.2),E.o⟩,zd⟩
   | false=>
    have E:=AC<|Ao.o.2.2.1.trans<|xd zw;go_wp2
    go_ret
    rw[E.o];exact⟨rfl,F1,W1.o.1,W1.o.2,by have:=Ao.o.2.2.2;dsimp only at*;omega⟩
  .obtain rfl:k=n:=zx
   have hdr:cs.drop k=[]:=List.drop_eq_nil_of_le (fw (hn.o));rw[hdr,Su]at Ce;have Ao:=AC<|AJ hwd<|AJ Pg Ce;clear hwd Pg Ce hdr;go_wp2
   go_ret
   rw[Ao.o.2.2];exact⟨rfl,F',Ao.o.1,Ao.o.2.1,by dsimp only;omega⟩
def Z4g (h:GA a B p fs vs F w){ps:List Dk}(hr:Ap 2 (Jh B w<|D+3) pr ps)(Aq: ∀ x,x∈ps->x.either.length<=4/\ ∀ r,r∈x.either->Jj r)(zC:ps.length<=24)(hl:vs.length<90000):
  Calls prog 102 #[zq p 0,sP pr ps.length c] w fun e w'=>e=uY (.bool (ZL (·∈fs) vs ps).1)/\ ∃ F',Mv F F' w w':=by
 obtain⟨n,hn⟩:=cK (ps.length);rw[hn.o]at zC⊢;have H:=AC h;have HR:=AC hr;have HO:=AC Aq;clear h hr Aq;go_in
 go_wp2
 go_loopw [9] (fun iv wr=> ∃ (k:Nat) (us:List T) (F':Cg),k<=n/\iv= zo (k:Int)/\GA a B p fs us F' wr/\Mv F F' w wr/\us.length<=vs.length+152*k/\ZL (·∈fs) vs ps=ZL (·∈fs) us (ps.drop k)) (fun iv _=>n-(intOf iv).toNat)
 .exact⟨0,vs,F,Eg _,rfl,H.o,Mv.refl _ _,zx,rfl⟩
 .obtain⟨k,us,F',hk,rfl,hwd,Pg,hul,Ce⟩:=hrel;by_cases hlt:k<n
  .have g:(k:Int)<(n:Int):=zx
   obtain⟨x,GR⟩: ∃ x,ps[k]?=some x:=⟨_,A8 (fw (hn.o))⟩;obtain⟨hx4,Ou⟩:=HO.o x<|Ej GR;obtain⟨b,o,rfl,hA⟩:=HR.o.at_ k x GR;obtain⟨VO,p1,c1,z0,z1,hS⟩:=(Jh.cy (H.o.cy Pg) lr hA).vals;obtain⟨yC,Sn,e1,_,hrow⟩:=hS;injection e1 with _ e1;injection e1 with e1 _;injection e1 with e1 _ e3;subst e1;subst e3;have hdr:ps.drop k=x::ps.drop (k+1):=by rw[<- (DW.1 GR).2,xH (fw (hn.o))]
   rw[hdr,ZL]at Ce;have KM:=Zuv (P:=(·∈fs)) x.either us Ou zx;have CH:=AC fun u (hu:Bl wr u)=>Zoc (c:=c1) (hwd.be hu) (hrow.cy fun _ _ _ q=>FJ.cy (Bq hu hwd.hB) lr q) Ou zx;have Ao:=AC<|AJ hwd<|AJ Pg<|AJ Ce KM;generalize FY:x.either.length=nx at*;generalize mM:x.allow=ba at*;clear hwd Pg Ce hA hrow hdr GR Ou KM FY;go_wp2_with fail
   apply(CH.o _<|(AR _ wr).alloc lr _).mono;rintro e w1 ⟨rfl,F1,BI,NP⟩;have hwF:wr.heap.size∉F':=fun q=>fw (Ao.o.1.wd.lt _ q)
   have y0:=((AO.new wr #[.bool ba,sP p1 nx c1] 189).of<|NP.1.block wr.heap.size zw hwF).two.1;have W1:=AC<|AJ BI<|Ao.o.2.1.trans<|(Mv.be<|(AR _ wr).alloc lr _).trans NP;clear BI NP CH hwF;generalize hab:Je (·∈fs) us x.either=av at*;obtain⟨bb,us'⟩:=av;clear hab;cases bb with
   | true=>
    have E:=AC<|Ao.o.2.2.1.trans<|xj rfl;go_wp2
    go_ret
    rw[E.o];exact⟨rfl,F1,W1.o.2⟩
   | false=>
    have E:=AC<|Ao.o.2.2.1.trans<|xd zw;go_wp2
    exact⟨⟨k+1,_,F1,zx,zw,W1.o.1,W1.o.2,fw (Ao.o.2.2.2),E.o⟩,zd⟩
  .obtain rfl:k=n:=zx
   have hdr:ps.drop k=[]:=List.drop_eq_nil_of_le (fw (hn.o));rw[hdr,ZL]at Ce;have Ao:=AC<|AJ Pg Ce;clear hwd Pg Ce hdr;go_wp2
   go_ret
   rw[Ao.o.2];exact⟨rfl,F',Ao.o.1⟩
end
end
end Go.W
set_option linter.unusedSectionVars false
namespace Go.W
section
variable {rs:List R}{vs:List T}{w:Bb}{F:Cg}
variable [Mem]
def Xz (st:List T×List BD) (r:R):List T×List BD:=((Jg st.1 r).1,st.2++[Qh st.1 r])
def MS (vs:List T) (rs:List R):List T×List BD:=rs.foldl Xz (vs,[])
def Z7w: ∀ (rs:List R) (st:List T×List BD),(∀ r,r∈rs->Jj r)->st.1.length+38*rs.length+100<100000->(∀ b,b∈st.2->PD st.1.length b)->st.1.length<=(rs.foldl Xz st).1.length/\(rs.foldl Xz st).1.length<=st.1.length+38*rs.length/\ ∀ b,b∈(rs.foldl Xz st).2->PD (rs.foldl Xz st).1.length b
 | [],_,_,_,h=>⟨EO _,EO _,h⟩
 | r::rs,st,hr,hl,h=>by
  rw[DU]at hl⊢;obtain⟨h1,h2,h3⟩:=(hr r zw).pQ (vs:=st.1) zx;obtain⟨i1,i2,i3⟩:=Z7w rs (Xz st r) (fun x q=>hr x (by simp[q])) (by show(Jg st.1 r).1.length+_+_<_;omega) fun b q=>by
   rcases Aj.1 q with q | q
   ·exact(h b q).mono h1
   ·rw[Bh.1 q];exact h3
  have e:(Xz st r).1=(Jg st.1 r).1:=rfl;rw[e]at i1 i2;rw[List.foldl_cons];exact⟨zx,zx,i3⟩
def Zpz (hr: ∀ r,r∈rs->Jj r)(hl:vs.length+38*rs.length+100<100000):vs.length<=(MS vs rs).1.length/\(MS vs rs).1.length<=vs.length+38*rs.length/\ ∀ b,b∈(MS vs rs).2->PD (MS vs rs).1.length b:=Z7w rs (vs,[]) hr hl fun _ h=>by cases h
def Zzw {k:Nat}{r:R}(h:rs[k]?=some r):MS vs (rs.take<|k+1)=((Jg (MS vs<|rs.take k).1 r).1,(MS vs<|rs.take k).2++[Qh (MS vs<|rs.take k).1 r]):=by
 unfold MS;rw[PM,h,List.foldl_append];rfl
def Jf:Du Nat:=fun _ vs x F=>F=[]/\vs=[zq x 0]
def Jf.sb:Ii Jf:=fun _ _ _ _ _ h _=>h
def Jf.one {vs:Bu}{x:Nat}(h:Jf w vs x F): ∀ u,u∈vs->u.oneCell'=true:=by
 obtain⟨_,rfl⟩:=h;simp[Value.oneCell']
def Jf.at_ {e:TypeId}{v:Value}{xs:Cg}(h:AQ e 1 Jf w v xs F)(i x:Nat)(hx:xs[i]?=some x): ∃ g c,v= sP (Qb g 0) xs.length c/\w.cell? (zm g i)=some (zq x 0):=by
 obtain⟨g,cap,cs,G,hv,_,⟨_,rfl⟩,key⟩:=AQ.nth h i x hx
 have:=key 0 _ rfl
 rw[Nat.mul_one,Qs]at this;exact⟨g,cap,hv,this⟩
end
section
variable [Mem]
def Yby:J3 prog 231 232 1 8:=by
 obtain⟨i0,hi,hz0,hz1,hz2⟩:=info_parts (by kernel_rfl:(prog.info? 232).map (fun i=>(i.zero,i.size,i.bytes))=some (some<|.pointer none,1,8));exact⟨i0,_,underlying231,hi,hz0,hz1,hz2,rfl,zu,zu⟩
structure VV (a:Nat->Addr) (p:Nat) (F:Cg) (w:Bb) (vs:List T) (bs:List BD) (sv:Value) (fs:List Fc) (l:List BS) (Fb F':Cg) (wr:Bb):Prop where
 team:MI a p fs vs F' Fb l wr
 wd:Df wr p fs vs F'
 row:AQ 232 1 Jf wr sv (l.map (·.c.q)) Fb
 new:Ag w.heap.size wr Fb
 bs:l.map (·.c.b)=bs
 mv:Mv F F' w wr
 ge: ∀ x,x∈l-> ∀ j,j∈x.own->w.heap.size<=j
section
variable {a:Nat->Addr} {p seen now:Nat} {fs fs':List Fc} {vs:List T} {F F' F1 Fb:Cg} {l l1 l2:List BS} {x x':BS} {w wr w1:Bb} {sv:Value} {bs:List BD}
def VV.step (h:VV a p F w vs bs sv fs (l1++x::l2) Fb F' wr)(ht:MI a p fs' vs F1 Fb (l1++x'::l2) w1)(hw:Df w1 p fs' vs F1)(hc:x'.c=x.c)(ho:Off (x.c.q::x.c.m::(x.Fo++F')) wr w1)(hs: ∀ i,i∈F1->i∈F'\/wr.heap.size<=i)(hf: ∀ i,i∈x'.Fo->i∈x.Fo\/wr.heap.size<=i):VV a p F w vs bs sv fs' (l1++x'::l2) Fb F1 w1:=by
 have hx:=h.ge x zw;have hG: ∀ j,j∈x.c.q::x.c.m::(x.Fo++F')->j∈x.own\/j∈F':=fun j hj=>by
  unfold BS.own;simp only[Ak,Aj]at hj⊢;rcases hj with q | q | q | q
  .exact .inl<|.inl q
  .exact .inl<|.inr<|.inl q
  .exact .inl<|.inr<|.inr<|.inl q
  .exact .inr q
 have hm:=h.mv.1.size;refine⟨ht,hw,?_,h.new.la lr ho.size,?_,⟨h.mv.1.trans ho fun i hi=>(hG i hi).elim (fun q=> .inr (hx i q)) (h.mv.2 i),fun i hi=>(hs i hi).elim (h.mv.2 i) fun q=> .inr (Ab hm q)⟩,fun y hy j hj=>?_⟩
 .have e:(l1++x'::l2).map (·.c.q)=(l1++x::l2).map (·.c.q):=by simp[hc]
  rw[e];exact AQ.sb Jf.sb _ _ _ _ _ h.row fun j hj=>ho.block j (h.new.lt j hj) fun q=>(hG j q).elim ((h.team.rest j hj).2.2 x zw) (h.team.rest j hj).2.1
 .rw[<- h.bs];simp[hc]
 .simp only[Aj,Ak]at hy;rcases hy with hy | rfl | hy
  .exact h.ge y (by simp[hy]) j hj
  .unfold BS.own at hj;rw[hc]at hj;simp only[Ak,Aj]at hj;rcases hj with q | q | q | q
   .exact hx j (by unfold BS.own;simp[q])
   .exact hx j (by unfold BS.own;simp[q])
   .exact(hf j q).elim (fun q=>hx j (by unfold BS.own;simp[q]))<|Ab hm
   .exact hx j (by unfold BS.own;simp[q])
  .exact h.ge y (by simp[hy]) j hj
def Z1v (h:VV a p F w vs bs sv fs (l1++x::l2) Fb F' wr)(hb: ∀ b,b∈bs->PD vs.length b)(hf: ∀ f,f∈fs->MM vs.length f)(hT:FU x.c.b vs fs seen x.A x.B)(hs:seen<=now)(hn:now<=fs.length)(Fq:fs.length<=60):
  Calls prog 114 #[zq x.c.q 0,zo (seen:Int),zo (now:Int)] wr fun e w'=>e=uY (.tuple #[])/\ ∃ x',x'.c=x.c/\VV a p F w vs bs sv fs (l1++x'::l2) Fb F' w'/\FU x.c.b vs fs now x'.A x'.B:=by
 refine(Z6s h.team (hb _ (by rw[<- h.bs];simp)) hf hT hs hn Fq).mono ?_;rintro e w1 ⟨rfl,x',hc,ht,hT',ho,zU⟩;have hwd:=(ht.each x' zw).1.wd;rw[(ht.each x' zw).2.2]at hwd;exact⟨rfl,x',hc,h.step ht hwd hc ho (fun _ q=> .inl q) zU,hT'⟩
def Zzb (h:VV a p F w vs bs sv fs (l1++x::l2) Fb F' wr)(hb: ∀ b,b∈bs->PD vs.length b)(hf: ∀ f,f∈fs->MM vs.length f)(hv:vs.length<100000)(hT:FU x.c.b vs fs now x.A x.B)(hs:seen<=now)(hn:now<=fs.length)(Fq:fs.length<=60)(hold:x.c.b.at_≠[]-> ∀ y,TG x.c.b vs (·∈fs.take seen) y->y∈fs):
  Calls prog 115 #[zq x.c.q 0,zo (seen:Int)] wr fun e w'=> ∃ r fs' F1 x',e=uY (.bool r)/\EX (TG x.c.b vs (·∈fs.take now)) fs r fs'/\x'.c=x.c/\x'.A=x.A/\x'.B=x.B/\VV a p F w vs bs sv fs' (l1++x'::l2) Fb F1 w'/\ ∀ f,f∈fs'->MM vs.length f:=by
 have hbx:=hb x.c.b (by rw[<- h.bs];simp);apply(Z1m h.team hbx hf hv hT hs hn Fq hold).mono;rintro e w1 ⟨r,fs',F1,x',rfl,ht,hc,hA,hB,yX,ho,hs1,zU⟩;have hwd:=(yX.each x' zw).1.wd;rw[(yX.each x' zw).2.2]at hwd;refine⟨r,fs',F1,x',rfl,ht,hc,hA,hB,h.step yX hwd hc ho hs1 zU,fun f q=>?_⟩;obtain⟨ad,e,had⟩:=ht.ext;rw[e]at q;rcases Aj.1 q with q | q
 .exact hf f q
 .exact TG.in hbx (fun g hg=>hf g (List.mem_of_mem_take hg))<|had f q
end
end
end Go.W
set_option linter.unusedSectionVars false
namespace Go.W
def FU.tells {b:BD}{vs:List T}{fs fs':List Fc}{now:Nat}{A:Nat->Nat}{B:Nat->Nat->Nat->Nat}{H:Fc->Prop}{r:Bool}(h:FU b vs fs now A B)(hn:now<=fs.length)(t:EX H fs r fs'):FU b vs fs' now A B:=by
 obtain⟨ad,rfl,_⟩:=t.ext;exact h.more hn
section
variable [Mem]
attribute [local go_sem] Me
def Ykd (p:Nat) (F:Cg) (w:Bb) (vs:List T) (bs:List BD) (P:Fc->Prop) (e:Ending) (w':Bb):Prop:= ∃ r fs' F',e=uY (.bool r)/\jX bs vs P r fs'/\(∀ f,f∈fs'->MM vs.length f)/\Df w' p fs' vs F'/\Mv F F' w w'
def Yjj (a:Nat->Addr) (p:Nat) (F:Cg) (w:Bb) (vs:List T) (rs:List R) (fs:List Fc) (k:Nat) (sv:Value) (wr:Bb):Prop:= ∃ l Fb F',VV a p F w (MS vs<|rs.take k).1 (MS vs<|rs.take k).2 sv fs l Fb F' wr/\ ∀ x,x∈l->x.A=(fun _=>0)/\x.B=fun _ _ _=>0
def Yhx (a:Nat->Addr) (p:Nat) (F:Cg) (w:Bb) (vs:List T) (bs:List BD) (P:Fc->Prop) (sv:Value) (k seen:Nat) (wr:Bb):Prop:= ∃ fs l Fb F',VV a p F w vs bs sv fs l Fb F' wr/\(∀ f,f∈fs->MM vs.length f)/\seen<=60/\((k<=12/\S8 bs vs P k seen fs/\ ∀ x,x∈l->FU x.c.b vs fs seen x.A x.B)\/(k=13/\jX bs vs P false fs))
def Yhp (a:Nat->Addr) (p:Nat) (F:Cg) (w:Bb) (vs:List T) (bs:List BD) (sv:Value) (fs:List Fc) (seen j:Nat) (wr:Bb):Prop:= ∃ fs' l1 l2 Fb F',l1.length=j/\VV a p F w vs bs sv fs' (l1++l2) Fb F' wr/\(∀ f,f∈fs'->MM vs.length f)/\EX (Uj (l1.map (·.c.b)) vs (·∈fs)) fs true fs'/\(∀ x,x∈l1->FU x.c.b vs fs' fs.length x.A x.B)/\ ∀ x,x∈l2->FU x.c.b vs fs' seen x.A x.B
def Z19: ∀ (rs:List R) (st:List T×List BD),(rs.foldl Xz st).2.length=st.2.length+rs.length
 | [],_=>rfl
 | r::rs,st=>by rw[List.foldl_cons,Z19 rs];simp[Xz];omega
def Z8e {a:Nat->Addr}{w:Bb}{B p:Nat}{fs:List Fc}{vs:List T}{F:Cg}(h:GA a B p fs vs F w){D c:Nat}{rs:List R}{pr:Bp}(hr:Ap 4 (FJ B w<|D+2) pr rs)(Aq: ∀ r,r∈rs->Jj r)(XY:rs.length<=100)(hl:vs.length<=1000)(QW:fs.Nodup):
  Calls prog 55 #[zq p 0,sP pr rs.length c] w fun e w'=>Ykd p F w (MS vs rs).1 (MS vs rs).2 (·∈fs) e w':=by
 obtain⟨n,hn⟩:=cK (rs.length);rw[hn.o]at XY⊢;have HBI:=AC<|Zpz (rs:=rs) (vs:=vs) Aq (fw (hn.o));have HV:AF (∀ k,vs.length<=(MS vs<|rs.take k).1.length/\(MS vs<|rs.take k).1.length<=5000):=⟨fun k=>by
  have h1:(rs.take k).length<=rs.length:=List.length_take_le' k rs;have h2:=hn.o;obtain⟨q1,q2,_⟩:=Zpz (rs:=rs.take k) (vs:=vs) (fun r q=>Aq r (List.mem_of_mem_take q)) zx;exact⟨q1,zx⟩⟩
 have H:=AC h;have HR:=AC hr;have HO:=AC Aq;have HND:=AC QW;obtain⟨us,hus⟩:=cK ((MS vs rs).1);obtain⟨bs,Xe⟩:=cK ((MS vs rs).2);rw[hus.o,Xe.o]at HBI⊢;clear h hr Aq QW hl;go_in
 go_wp2
 go_loopw [14,5] (fun iv bv wr=> ∃ k,k<=n/\iv= zo ((k:Nat):Int)/\Yjj a p F w vs rs fs k bv wr) (fun iv _ _=>n-(intOf iv).toNat)
 .exact⟨0,Eg _,rfl,[],[],F,⟨⟨fun _ h=>(by cases h),List.Pairwise.nil,fun _ h=>(by cases h)⟩,H.o.wd,AQ.nil,Ag.nil _ _,rfl,Mv.refl _ _,fun _ h=>(by cases h)⟩,fun _ h=>(by cases h)⟩
 .obtain⟨k,hk,rfl,l,Fb,F',hW,hz⟩:=hrel;have hv:=HV.o k;by_cases hlt:k<n
  .have g:(k:Int)<(n:Int):=zx
   obtain⟨r,hrk⟩: ∃ r,rs[k]?=some r:=⟨_,A8 (fw (hn.o))⟩;have hro:=HO.o r<|Ej hrk;obtain⟨b,o,rfl,hA⟩:=HR.o.at_ k r hrk;obtain⟨VO,pt,ct,pb,cb,pg,cg,z0,z1,z2,z3,hS⟩:=(FJ.cy (H.o.cy hW.mv) lr hA).vals;have HE:=AC<|Zzw (vs:=vs) hrk;have CB:=AC<|Z2b (H.o.next hW.wd hW.mv hv.1) hS hro zx;obtain⟨ps,Ja,rfl⟩:=AQ.form hW.row;have HW:=AC<|AJ hW hz;have Yc:(l.map (·.c.q)).length<1000000:=by
    rw[Dj,<- Dj (f:=(·.c.b)),hW.bs];have h1:=Z19 (rs.take k) (vs,[]);have h2:(rs.take k).length<=rs.length:=List.length_take_le' k rs;have h3:=hn.o;show((rs.take k).foldl Xz (vs,[])).2.length<_;simp only[JC]at h1;omega
   generalize (MS vs<|rs.take k).1=uk at*;generalize (MS vs<|rs.take k).2=bk at*;generalize zI:(l.map (·.c.q)).length=nl at*;clear hW hz hA hS hrk hro;go_wp2_with fail
   apply(CB.o _<|(AR _ wr).alloc lr _).mono;rintro e w1 ⟨c,cs,F1,rfl,OU,hcb,KI,RZ,ho,hs,VN⟩;have iX:wr.heap.size+1<=w1.heap.size:=by have:=ho.size;simpa using this
   have hF'l: ∀ j,j∈F'->j<wr.heap.size:=fun j hj=>HW.o.1.wd.lt j hj;have Yv: ∀ j,j∈Fb->j<wr.heap.size/\j∉F':=fun j hj=>⟨HW.o.1.new.lt j hj,(HW.o.1.team.rest j hj).2.1⟩;have MB: ∀ i,i∈c.q::c.m::c.S->wr.heap.size+1<=i:=fun i hi=>by have:=VN i hi;simpa using this
   have hs': ∀ i,i∈F1->i∈F'\/wr.heap.size+1<=i:=fun i hi=>(hs i hi).imp id fun h=>by simpa using h
   have R1:AF (AQ 232 1 Jf w1 (sP ps nl Ja) (l.map (·.c.q)) Fb):=⟨AQ.sb Jf.sb _ _ _ _ _ HW.o.1.row fun j hj=>(ho.block j (by have:=(Yv j hj).1;simp;omega) (Yv j hj).2).trans (Ah _ _ _ (Yv j hj).1)⟩;have N1:AF (Ag w.heap.size w1 Fb):=⟨HW.o.1.new.la lr zx⟩;have iW:=HW.o.1.mv.1.size;have XC:=AC<|AJ OU<|AJ hcb<|AJ KI<|AJ RZ<|AJ ho<|AJ hs' MB;clear OU hcb KI RZ ho hs VN MB hs' CB z0 z1 z2 z3;go_wp2_with (at_builtin;go_must (refine Nu Yby rfl (.tmp 18) (.tmp 22) rfl Jf.sb (fun _ _ _ _ h=>Jf.one h) w.heap.size (sP ps nl Ja) (l.map (·.c.q)) Fb rfl (AQ.sb Jf.sb _ _ _ _ _ R1.o fun j hj=>Ah _ _ _ (N1.o.lt j hj)) w1.heap.size #[zq c.q 0] 232 (0,0) c.q [] rfl (Hw _ _) rfl ⟨rfl,rfl⟩ zx zc (N1.o.la lr zw) (Ag.nil _ _) (fun _ _ h=>by cases h) ?_);intro g1 UV w2 iO AM;have IZ:=AC AM)
   clear AM;have hz2:w1.heap.size+1<=w2.heap.size:=by have:=IZ.o.size;simpa using this
   have Gy: ∀ j,j<w1.heap.size->j∉Fb->w2.heap[j]?=w1.heap[j]?:=fun j hj hn=>(IZ.o.same j zc hn).trans (Ah _ _ _ hj);have O2:Off Fb w1 w2:=⟨IZ.o.os,IZ.o.tape,IZ.o.output,zx,Gy⟩;obtain⟨OU,hcb,KI,RZ,ho,hs,VN⟩:=XC.o;obtain⟨hW,hz⟩:=HW.o;have Ba:=zv wr<|.cells #[um r.head.name,sP pt r.head.te.length ct,sP pb r.body.length cb,sP pg r.gu.length cg] 69;have T1:=(hW.team.be Ba).world (by rw[<- OU];exact KI.wd) ho fun i hi=>(hs i hi).imp id zw;obtain⟨x,hx⟩: ∃ x:BS,x=⟨c,cs,zn,[],fun _=>0,fun _ _ _=>0⟩:=⟨_,rfl⟩;have xo: ∀ j,j∈x.own->wr.heap.size+1<=j:=fun j hj=>VN j (by rw[hx]at hj;simpa[BS.own]using hj);have oC:Ctx a x.c x.cs fs (Jg uk r).1 F1 [] x.ov x.Fo w1:=by rw[hx];exact KI
   have T2:=T1.snoc (x:=x) oC (by rw[hx];exact RZ) (by rw[hx];exact OU) (fun y hy j hj q=>by have h1:=Z92 (hW.team.each y hy).1 hj;have h2:=xo j q;omega) (X':=Fb) fun j hj=>⟨(T1.rest j hj).1,(T1.rest j hj).2.1,fun q=>by have h1:=xo j q;have h2:=(Yv j hj).1;omega,(T1.rest j hj).2.2⟩;have uB:=H.o.gl.most;have T3:=T2.off (X':=iO) O2 (fun j hj=>⟨Ab uB<|N1.o.ge j hj,(T2.rest j hj).2⟩) fun j hj=>by
    rcases IZ.o.sub j hj with q | q | q
    .exact⟨IZ.o.new.lt j hj,(T2.rest j q).2⟩
    .cases q
    .have q':w1.heap.size+1<=j:=by simpa using q
     exact⟨IZ.o.new.lt j hj,fun q2=>fw (KI.wd.lt j q2),fun y hy q2=>fw (Z92 (T2.each y hy).1 q2)⟩
   have M1:Mv F F1 w w1:=hW.mv.trans<|(Mv.be Ba).trans ⟨ho,fun i hi=>(hs i hi).imp id zw⟩;refine⟨⟨k+1,zx,zw,l++[x],iO,F1,?_,fun y hy=>?_⟩,zd⟩
   .rw[HE.o];refine⟨T3,?_,?_,IZ.o.new,?_,⟨M1.1.trans O2 fun i hi=> .inr (N1.o.ge i hi),M1.2⟩,fun y hy j hj=>?_⟩
    .rw[<- OU];exact KI.wd.off O2 fun j hj q=>(T2.rest j q).2.1 hj
    .have:=IZ.o.row
     rw[wb,xp,List.map_nil,hx,<- zI];exact this
    .rw[wb,hW.bs,xp,List.map_nil,hx,hcb]
    .rcases Aj.1 hy with hy | hy
     .exact hW.ge y hy j hj
     .rw[Bh.1 hy]at hj
      have:=xo j hj
      omega
   .rcases Aj.1 hy with hy | hy
    .exact hz y hy
    .rw[Bh.1 hy,hx];exact⟨rfl,rfl⟩
  .obtain rfl:k=n:=zx
   rw[U0 (fw (hn.o)),hus.o]at hW hv;rw[Xe.o]at hW;have R0:AF (Yhx a p F w us bs (·∈fs) u5 0 0 wr):=⟨fs,l,Fb,F',hW,fun f q=>(H.o.inn f q).mono hv.1,zx,.inl ⟨zx,S8.zero HND.o H.o.PR,fun x hx=>by
    rw[(hz x hx).1,(hz x hx).2];exact FU.zero _ _ _⟩⟩
   obtain⟨ps,Ja,rfl⟩:=AQ.form hW.row;have hnbl:=AQ.len hW.row;clear hW hz;go_wp2_with fail
   generalize (l.map (·.c.q)).length=nb at*;have HB:AF (∀ b,b∈bs->PD us.length b):=⟨HBI.o.2.2⟩;have mV:=hv.2;clear HBI HV HO HR HND hv;go_loopw [25,8] (fun iv sv wr=> ∃ k seen:Nat,k<=13/\iv= zo (k:Int)/\sv= zo (seen:Int)/\Yhx a p F w us bs (·∈fs) (sP ps nb Ja) k seen wr) (fun iv _ _=>13-(intOf iv).toNat)
   .exact⟨0,0,zx,rfl,rfl,R0.o⟩
   .obtain⟨j,seen,hj,rfl,rfl,D6,l1,Fb1,F1,hW,jC,hs60,hR⟩:=hrel;by_cases hj13:j<13
    .have g:(j:Int)<13:=zx
     obtain⟨hj12,hRn,hTn⟩:j<=12/\S8 bs us (·∈fs) j seen D6/\ ∀ x,x∈l1->FU x.c.b us D6 seen x.A x.B:=hR.elim id fun q=>zx
     obtain⟨pf,cf,p0⟩: ∃ pf cf,wr.cell? (zm p 0)=some (sP pf D6.length cf):=by
      obtain⟨k',r',fv,vv,Ff,Fv,hw⟩:=hW.wd;obtain⟨pf,cf,rfl⟩:=AQ.form hw.fa;exact⟨pf,cf,hw.blk.four.1⟩
     have I0:AF (Yhp a p F w us bs (sP ps nb Ja) D6 seen 0 wr):=⟨D6,[],l1,Fb1,F1,rfl,hW,jC,EX.nil D6 (fun x ⟨b,hb,_⟩=>by cases hb),fun _ h=>(by cases h),hTn⟩;have XK:=AC hRn;clear hR hRn hTn hW jC;go_wp2
     go_loopw [34] (fun iv wr=> ∃ i:Nat,i<=nb/\iv= zo (i:Int)/\Yhp a p F w us bs (sP ps nb Ja) D6 seen i wr) (fun iv _=>nb-(intOf iv).toNat)
     .exact⟨0,Eg _,rfl,I0.o⟩
     .clear p0;obtain⟨i,hi,rfl,MG,m1,m2,iO,F2,NP,hW2,MC,E5,Im,Pv⟩:=hrel;obtain⟨ad,UN,had⟩:=E5.ext;have Kv:MG.take D6.length=D6:=by rw[UN];exact List.take_left' rfl
      have RL:D6.length<=MG.length:=by rw[UN,JS];omega
      have Fq:=E5.len XK.o.len;have RI:(m1++m2).length=nb:=by
       obtain⟨p',c',e⟩:=AQ.form hW2.row;injection e with _ e _;rw[e,Dj]
      by_cases hlt:i<nb
      .have g2:(i:Int)<(nb:Int):=zx
       cases m2 with
       | nil=>rw[List.append_nil]at RI;omega
       | cons x m2=>
       obtain⟨gr,cr,e,y0⟩:=Jf.at_ hW2.row i x.c.q (by rw[FK,PL zx,NP,Nat.sub_self];rfl);injection e with e1 e2 e3;subst e1;subst e3;clear e2;have CL:=AC<|Z1v hW2 HB.o MC (Pv x zw) XK.o.le RL Fq;have CF:AF (∀ u x1,x1.c=x.c->VV a p F w us bs (sP (Qb gr 0) nb Ja) MG (m1++x1::m2) iO F2 u->FU x.c.b us MG D6.length x1.A x1.B->Calls prog 115 #[zq x.c.q 0,zo (seen:Int)] u fun e w'=> ∃ r fs' F' x',e=uY (.bool r)/\EX (TG x.c.b us (·∈D6)) MG r fs'/\x'.c=x.c/\x'.A=x1.A/\x'.B=x1.B/\VV a p F w us bs (sP (Qb gr 0) nb Ja) fs' (m1++x'::m2) iO F' w'/\ ∀ f,f∈fs'->MM us.length f):=⟨fun u x1 hc hWu hTu=>by
        have hxb:x1.c.b∈bs:=by rw[<- hWu.bs];simp
        have:=Zzb (seen:=seen) hWu HB.o MC zx (by rw[hc];exact hTu) XK.o.le RL Fq fun h0 y hy=>by
         have e:MG.take seen=D6.take seen:=by rw[UN,List.take_append_of_le_length XK.o.le]
         rw[e]at hy;rw[UN];exact Md _<|XK.o.old _ hxb h0 y hy
        rw[Kv,hc]at this;exact this⟩
       have HS:=AC<|AJ NP<|AJ MC<|AJ E5<|AJ Im<|AJ Pv<|AJ RL hW2.bs;clear hW2 MC E5 Im Pv UN had Kv NP RI;go_wp2_with fail
       apply mq CL.o;rintro w1 ⟨x1,hx1,hW3,eD⟩;have CF1:=AC<|CF.o w1 x1 hx1 hW3 eD;have T3:=AC eD;clear CL CF y0 hx1 hW3 eD;go_wp2_with fail
       apply CF1.o.mono;rintro e w2 ⟨r,fs3,F3,x2,rfl,RF,hx2,Yw,Io,Eh,UO⟩;have H4:=AC<|AJ RF<|AJ hx2<|AJ Yw<|AJ Io<|AJ Eh UO;clear RF hx2 Yw Io Eh UO CF1;cases r with
       | false=>
        go_wp2
        go_ret
        obtain⟨RF,hx2,_,_,Eh,UO⟩:=H4.o;obtain⟨_,_,E5,_,_,_,Xe⟩:=HS.o;refine⟨false,fs3,F3,rfl,XK.o.full hj12 ((E5.seq RF (J:=fun y=>Uj (m1.map (·.c.b)) us (·∈D6) y\/TG x.c.b us (·∈D6) y) fun _=>Iff.rfl).stop fun y hy=>?_),UO,Eh.wd,Eh.mv⟩;rcases hy with⟨b',hb',q⟩ | q
        .exact⟨b',by rw[<- Xe,wb];exact Md _ hb',q⟩
        .exact⟨_,by rw[<- Xe];simp,q⟩
       | true=>
        go_wp2_with fail
        obtain⟨RF,hx2,Yw,Io,Eh,UO⟩:=H4.o;obtain⟨NP,_,E5,Im,Pv,RL,Xe⟩:=HS.o;go_roundw
        case measure=>simp[intOf];omega
        refine⟨i+1,zx,zw,fs3,m1++[x2],m2,iO,F3,by simp[NP],by rw[JB];exact Eh,UO,E5.seq RF fun y=>?_,fun z hz=>?_,fun z hz=>(Pv z (by simp[hz])).tells (Ab XK.o.le RL) RF⟩
        .rw[wb,xp,List.map_nil,hx2];constructor
         .rintro⟨b',hb',q⟩;rcases Aj.1 hb' with hb' | hb'
          .exact .inl ⟨b',hb',q⟩
          .rw[Bh.1 hb']at q;exact .inr q
         .rintro(⟨b',hb',q⟩ | q)
          .exact⟨b',Md _ hb',q⟩
          .exact⟨_,Vq _ zw,q⟩
        .rcases Aj.1 hz with hz | hz
         .exact(Im z hz).tells RL RF
         .rw[Bh.1 hz,hx2,Yw,Io];exact T3.o.tells RL RF
      .obtain rfl:i=nb:=zx
       have Jp:m2=[]:=List.length_eq_zero_iff.1 (by rw[JS]at RI;omega);subst Jp;rw[List.append_nil]at hW2 RI;rw[hW2.bs]at E5;obtain⟨pf2,cf2,p0⟩: ∃ pf cf,wr.cell? (zm p 0)=some (sP pf MG.length cf):=by
        obtain⟨k',r',fv,vv,Ff,Fv,hw⟩:=hW2.wd;obtain⟨pf,cf,rfl⟩:=AQ.form hw.fa;exact⟨pf,cf,hw.blk.four.1⟩
       have HS:=AC<|AJ hW2<|AJ MC<|AJ E5 Im;have h61:=XK.o.len;clear hW2 MC E5 Im Pv UN had Kv NP RI;by_cases hlen:MG.length=D6.length
       .have gl:((MG.length:Int)==(D6.length:Int))=true:=by rw[DR];omega
        have HL:=AC hlen;clear hlen;go_wp2
        go_ret
        obtain⟨hW2,MC,E5,_⟩:=HS.o;exact⟨true,MG,F2,rfl,XK.o.done hj12 E5 HL.o,MC,hW2.wd,hW2.mv⟩
       .have gl:((MG.length:Int)==(D6.length:Int))=false:=zj
        have HL:=AC hlen;clear hlen;go_wp2_with fail
        obtain⟨hW2,MC,E5,Im⟩:=HS.o;go_roundw
        case measure=>simp[intOf];omega
        refine⟨j+1,D6.length,zx,zw,rfl,MG,m1,iO,F2,hW2,MC,zx,?_⟩;by_cases Am:j+1<=12
        .exact .inl ⟨Am,XK.o.next E5,Im⟩
        .obtain rfl:j=12:=zx
         exact .inr ⟨rfl,XK.o.over E5 HL.o⟩
    .obtain rfl:j=13:=zx
     have Ox:jX bs us (·∈fs) false D6:=hR.elim (fun q=>zx) fun q=>q.2;have HS:=AC<|AJ hW<|AJ jC Ox;clear hW jC Ox hR;go_wp2
     go_ret
     exact⟨false,D6,F1,rfl,HS.o.2.2,HS.o.2.1,HS.o.1.wd,HS.o.1.mv⟩
end
end Go.W
set_option linter.unusedSectionVars false
namespace Go.W
section
variable [Mem]
def Va (l:List A):List Fc×List T:=l.foldl QC ([],[])
def Vb (l:List A) (rs:List R):List T×List BD:=MS (Va l).2 rs
def kR (l:List A) (rs:List R):Prop:=Yhy (Vb l rs).2 (Vb l rs).1 (·∈(Va l).1)
def Uc (l:List A) (rs:List R):Fc->Prop:=Fn (Vb l rs).2 (Vb l rs).1 (·∈(Va l).1) 12
def Ya8 {l:List A}(h: ∀ a,a∈l->Rz a)(hl:l.length<=60):Uf l.length (Va l):=by
 have:=Uf.all l 0 ([],[]) ⟨zw,fun _ q=>(by cases q),EO _,Eg _⟩ zx h
 rwa [Gx]at this
end
section
variable [Mem]
attribute [local go_sem] Me
def Yi7 (w:Bb):Df (((w.alloc<|.map #[] 0).alloc<|.map #[] 0).alloc<|.cells #[zn,.map<|some w.heap.size,zn,.map<|some<|w.heap.size+1] 144) (w.heap.size+2) [] [] [w.heap.size+2,w.heap.size,w.heap.size+1]:=by
 refine⟨w.heap.size,w.heap.size+1,zn,zn,[],[],bU w _ _ _ _,AQ.nil,AQ.nil,⟨#[],0,?_,rfl⟩,⟨#[],0,?_,rfl⟩,rfl,⟨zw,fun _ _=>Eg _,fun k hk=>by simp at hk;simp;omega⟩⟩
 .exact(Ah _ _ _ zc).trans<|(Ah _ _ _ zw).trans<|World.alloc_heap_new w _
 .exact(Ah _ _ _ zw).trans (by have:=World.alloc_heap_new (w.alloc<|.map #[] 0)<|.map #[] 0;rwa [EV]at this)
def CwP (a:Nat->Addr) (B:Nat) (l:List A) (rs:List R) (w:Bb) (e:Ending) (w':Bb):Prop:= ∃ p r fs F,e=uY (.tuple #[zq p 0,.bool r])/\(r=true↔kR l rs)/\(r=true->fs.Nodup/\ ∀ x,x∈fs↔Uc l rs x)/\GA a B p fs (Vb l rs).1 F w'/\Bl w w'/\(∀ i,i∈F->w.heap.size<=i)/\(Vb l rs).1.length<=5000
def Zqb {a:Nat->Addr}{w:Bb}(hG:Oq a w){B D:Nat}(hB:B<=w.heap.size){l:List A}{rs:List R}{pl pr:Bp}{cl cr:Nat}(hl:Ap 2 (Ep B w<|D+2) pl l)(Xc: ∀ x,x∈l->Rz x)(hl6:l.length<=60)(hr:Ap 4 (FJ B w<|D+2) pr rs)(hro: ∀ r,r∈rs->Jj r)(XY:rs.length<=100):
  Calls prog 25 #[sP pl l.length cl,sP pr rs.length cr] w fun e w'=>CwP a B l rs w e w':=by
 have RE:=Ya8 Xc hl6;have WH:=Zpz (rs:=rs) (vs:=(Va l).2) hro (fw (RE.vals));have hg:=hG.most;obtain⟨W3,hW3⟩:=fu (((w.alloc<|.map #[] 0).alloc<|.map #[] 0).alloc (.cells #[zn,.map<|some w.heap.size,zn,.map<|some<|w.heap.size+1] 144));have B3:Bl w W3:=hW3▸(((AR _ w).alloc lr _).alloc zw _).alloc zc _;have N3:=Yi7 w;rw[hW3]at N3;have h3: ∀ i,i∈[w.heap.size+2,w.heap.size,w.heap.size+1]->w.heap.size<=i:=fun i hi=>by simp at hi;omega
 have HT:=AC<|Ybb (cl:=cl) N3 (hl.cy fun _ _ _ q=>Ep.cy (Bq B3 hB) lr q) (Ab hB B3.size) (fun i hi=>Ab hB (h3 i hi)) Xc hl6;have HC:AF (∀ u F',Df u (w.heap.size+2) (Va l).1 (Va l).2 F'->Mv [w.heap.size+2,w.heap.size,w.heap.size+1] F' W3 u->Calls prog 55 #[zq (w.heap.size+2) 0,sP pr rs.length cr] u fun e w'=> ∃ r fs F,e=uY (.bool r)/\(r=true↔kR l rs)/\(r=true->fs.Nodup/\ ∀ x,x∈fs↔Uc l rs x)/\GA a B (w.heap.size+2) fs (Vb l rs).1 F w'/\Bl w w'/\ ∀ i,i∈F->w.heap.size<=i):=⟨fun u F' hw hm=>by
  have bu:Bl w u:=B3.trans<|hm.1.be h3 B3.size;have jH: ∀ i,i∈F'->w.heap.size<=i:=fun i hi=>(hm.2 i hi).elim (h3 i) (Ab B3.size);have Ci:GA a B (w.heap.size+2) (Va l).1 (Va l).2 F' u:=⟨hw,hG.of (F:=[]) (Off.of bu) fun _ h=>(by cases h),fun i hi=>Ab hg (jH i hi),Ab hB bu.size,fun i hi=>Ab hB (jH i hi),fw (RE.len),RE.ok⟩;apply(Z8e (c:=cr) Ci (hr.cy fun _ _ _ q=>FJ.cy (Bq bu hB) lr q) hro XY (fw (RE.vals)) RE.nd).mono;rintro e w' ⟨r,fs',F1,rfl,Ox,jC,BI,NP⟩;have b1:Bl w w':=bu.trans<|NP.1.be jH bu.size;have Ky: ∀ i,i∈F1->w.heap.size<=i:=fun i hi=>(NP.2 i hi).elim (jH i) (Ab bu.size);exact⟨r,fs',F1,rfl,Ox.room,fun q=>⟨Ox.nd,Ox.all q⟩,⟨BI,hG.of (F:=[]) (Off.of b1) fun _ h=>(by cases h),fun i hi=>Ab hg (Ky i hi),Ab hB b1.size,fun i hi=>Ab hB (Ky i hi),Ox.len,jC⟩,b1,Ky⟩⟩
 have CN:=AC<|Zyb w;have HV:AF ((Vb l rs).1.length<=5000):=⟨by have:=RE.vals;have:=WH.2.1;show(MS (Va l).2 rs).1.length<=_;omega⟩;rw[show l.foldl QC ([],[])=Va l from rfl]at HT;clear RE WH hl Xc hr hro N3 B3 h3 hG;unfold CwP;generalize l.length=nl at*;generalize rs.length=nr at*;go_in
 go_wp2_with fail
 apply mq CN.o;rintro w1 BI;rw[hW3]at BI;subst BI;go_wp2_with fail
 apply mq HT.o;rintro w2 ⟨F2,h2,o2,s2⟩;have H2:=AC<|AJ h2<|AJ o2 s2;clear h2 o2 s2 HT;go_wp2_with fail
 apply(HC.o w2 F2 H2.o.1 H2.o.2).mono;rintro e w3 ⟨r,fs,F,rfl,hf⟩;have H3:=AC hf;clear hf;go_wp2
 go_ret2
 obtain⟨q1,q2,q3,q4,q5⟩:=H3.o;exact⟨_,r,fs,F,rfl,q1,q2,q3,q4,q5,HV.o⟩
end
def rF (Aa:Int):A:=⟨⟨#[116,105,109,101]⟩,[.mk 5 Aa ⟨#[]⟩ []]⟩
abbrev Sd:=List A×List R
def Ec (Aa:Int) (b:Bk):Sd:=(rF Aa::b.fa,b.ru)
def rY (s:Sd) (b:Bk):Sd:=(s.1++b.fa,s.2++b.ru)
def JL (Aa:Int):List Bk->List Sd
 | []=>[]
 | b::bs=>Ec Aa b::bs.map (rY<|Ec Aa b)
noncomputable def okW (y:Sd) (cs:List (List R)):Bool×List T:=Su (Uc y.1 y.2) (Vb y.1 y.2).1 cs
noncomputable def pR (y:Sd) (cs:List (List R)) (ps:List Dk):Bool:=(ZL (Uc y.1 y.2) (okW y cs).2 ps).1
def ZH (Aa:Int) (bs:List Bk):Prop:= ∀ y,y∈JL Aa bs->kR y.1 y.2
def fG (Aa:Int) (bs:List Bk):Prop:= ∀ z,z∈(JL Aa bs).zip bs->(okW z.1 z.2.ck).1=true
def jY (Aa:Int) (bs:List Bk) (ps:List Dk):Prop:= ∃ b l,bs=b::l/\pR (Ec Aa b) b.ck ps=true
open Classical in
noncomputable def Ux (Aa:Int) (bs:List Bk) (ps:List Dk):Int:=if ZH Aa bs then if fG Aa bs/\jY Aa bs ps then 6 else 5 else 4
def wG {Aa:Int}{bs:List Bk}{ps:List Dk}:Ux Aa bs ps=6↔ZH Aa bs/\fG Aa bs/\jY Aa bs ps:=by
 unfold Ux;split
 .split
  .rename_i h1 h2;exact⟨fun _=>⟨h1,h2⟩,fun _=>rfl⟩
  .rename_i h1 h2;exact⟨fun q=>absurd q zu,fun q=>absurd q.2 h2⟩
 .rename_i h1;exact⟨fun q=>absurd q zu,fun q=>absurd q.1 h1⟩
end Go.W
