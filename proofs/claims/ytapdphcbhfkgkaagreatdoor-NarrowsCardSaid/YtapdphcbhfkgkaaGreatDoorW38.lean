import Derived.Test.YtapdphcbhfkgkaaGreatDoorW35
import Derived.Test.YtapdphcbhfkgkaaGreatDoorW37
set_option linter.defProp false
set_option maxRecDepth 100000
set_option maxHeartbeats 8000000
set_option linter.unusedSimpArgs false
open Go.Proofs Go.RowKit Go.W Tryz
namespace Go.W
variable {body:List A}{r:R}{n m:Nat}{x:T}{vs:List T}
structure Jj (r:R):Prop where
 hn:r.head.name.size<=16
 ht: ∀ x,x∈r.head.terms->BR 0 x=0
 h6:r.head.terms.length<=6
 bt: ∀ a,a∈r.body->(∀ x,x∈a.terms->BR 0 x=0)/\a.terms.length<=6
 b4:r.body.length<=4
 gt: ∀ g,g∈r.guards->BR 0 g.a=0/\BR 0 g.b=0/\1<=g.op/\g.op<=7
 g4:r.guards.length<=4
 hb:ET r.head.terms r.body=true
 gb: ∀ g,g∈r.guards->ET [g.a] r.body=true/\ET [g.b] r.body=true
def NI {P:Prop}[Decidable P]{a b:Int}(ha:P->a≠0)(h:(if P then a else b)=0): ¬ P/\b=0:=by
 by_cases hp:P
 ·rw[if_pos hp]at h;exact absurd h<|ha hp
 ·rw[if_neg hp]at h;exact⟨hp,h⟩
def Z21 {t:ByteArray}(h:IR t=true):1<=t.size/\t.size<=16:=by
 unfold IR at h;simp only[Bool.and_eq_true,decide_eq_true_eq]at h;exact⟨h.1.2,h.2⟩
def Yfg {a:A}(h:FH a=0):a.name.size<=16/\(∀ x,x∈a.terms->BR 0 x=0)/\a.terms.length<=6:=by
 obtain⟨h1,h2⟩:=NI (fun _=>zu) h;obtain⟨h3,h4⟩:=MX h2;exact⟨(Z21 (by simpa using h1)).2,h4,h3⟩
def Yi1 {t:T}(h:PI body t=0):BR 0 t=0/\ET [t] body=true:=by
 obtain⟨h1,h2⟩:=NI (fun q=>q) h;obtain⟨h3,_⟩:=NI (fun _=>zu) h2;exact⟨zx,by simpa using h3⟩
def Yh9 (h:JQ r=0):(∀ a,a∈r.body->(∀ x,x∈a.terms->BR 0 x=0)/\a.terms.length<=6)/\r.body.length<=4/\(∀ g,g∈r.guards->BR 0 g.a=0/\BR 0 g.b=0/\1<=g.op/\g.op<=7)/\r.guards.length<=4/\ ∀ g,g∈r.guards->ET [g.a] r.body=true/\ET [g.b] r.body=true:=by
 obtain⟨_,h1⟩:=NI (fun _=>zu) h;obtain⟨h2,h3⟩:=NI (fun _=>zu) h1;obtain⟨h4,h5⟩:=NI (fun q=>q) h3;have ha:=fun a (q:a∈r.body)=>(Yfg<|kF (by omega:EU FH r.body=0) a q).2;have hg:=fun g (q:g∈r.guards)=>kF h5 g q;have key: ∀ g,g∈r.guards->(1<=g.op/\g.op<=7)/\(BR 0 g.a=0/\ET [g.a] r.body=true)/\(BR 0 g.b=0/\ET [g.b] r.body=true):=fun g q=>by
  obtain⟨k1,k2⟩:=NI (fun _=>zu)<|hg g q;obtain⟨k3,k4⟩:=NI (fun q=>q) k2;exact⟨zx,Yi1 zx,Yi1 k4⟩
 exact⟨ha,zx,fun g q=>⟨(key g q).2.1.1,(key g q).2.2.1,(key g q).1⟩,zx,fun g q=>⟨(key g q).2.1.2,(key g q).2.2.2⟩⟩
def Jj.rule (h:TZ r=0):Jj r:=by
 obtain⟨h1,h2⟩:=NI (fun q=>q) h;obtain⟨h3,h4⟩:=NI (fun q=>q) h2;obtain⟨h5,_⟩:=NI (fun _=>zu) h4;obtain⟨k1,k2,k3⟩:=Yfg (by omega:FH r.head=0);obtain⟨b1,b2,b3,b4,b5⟩:=Yh9 (by omega:JQ r=0);exact⟨k1,k2,k3,b1,b2,b3,b4,by simpa using h5,b5⟩
def Jj.bare (h:SE r=0):Jj r:=by
 obtain⟨h1,h2⟩:=NI (fun _=>zu) h;obtain⟨b1,b2,b3,b4,b5⟩:=Yh9 h2;have ht:r.head.terms=[]:=List.length_eq_zero_iff.1 zx;exact⟨zx,by rw[ht];simp,by rw[ht];simp,b1,b2,b3,b4,by rw[ht];rfl,b5⟩
def Low (n:Nat) (s:Sl):Prop:=s.1.size<1000000000/\s.2<1000000000/\(s.1.size=0->s.2<n)
structure PD (n:Nat) (b:BD):Prop where
 ok:fI b
 name:b.hd.1.size<=16
 len:b.hd.2.length<=6
 hd: ∀ s,s∈b.hd.2->Low n s
 at_: ∀ p,p∈b.at_-> ∀ s,s∈p.2->Low n s
 gs: ∀ g,g∈b.gs->Low n g.2.1/\Low n g.2.2/\1<=g.1/\g.1<=7
 g4:b.gs.length<=4
def Low.mono {s:Sl}(h:Low n s)(k:n<=m):Low m s:=⟨h.1,h.2.1,fun q=>BK (h.2.2 q) k⟩
def PD.mono {b:BD}(h:PD n b)(k:n<=m):PD m b:=⟨h.ok,h.name,h.len,fun s q=>(h.hd s q).mono k,fun p q s q'=>(h.at_ p q s q').mono k,fun g q=>⟨(h.gs g q).1.mono k,(h.gs g q).2.1.mono k,(h.gs g q).2.2⟩,h.g4⟩
def Zyi (k:ByteArray): ∀ (l:List ByteArray) (i:Nat) {j:Nat},TP k l i=some j->j<i+l.length
 | [],i,j,h=>by simp[TP]at h
 | y::l,i,j,h=>by
  rw[TP]at h;split at h
  ·injection h with h;simp only[DU];omega
  ·have:=Zyi k l (i+1) h
   simp only[DU];omega
def Z3a (vs:List T)(x:T):vs.length<=(Wz vs x).length/\bS vs x<(Wz vs x).length:=by
 unfold Wz bS;cases h:TP (C8 x) (vs.map C8) 0 with
 | none=>simp
 | some j=>
  have:=Zyi _ _ _ h
  simp at this;simpa using this
def Znv (vs:List T)(x:T):vs.length<=(Eb vs x).length:=by
 unfold Eb;split
 ·exact EO _
 ·exact(Z3a vs x).1
def Ydv (h:BR 0 x=0)(hk:x.k=1):1<=x.t.size/\x.t.size<=16:=by
 rw[qd]at h;obtain⟨h1,_⟩:=NI (fun q=>q) h;have h2:Oc 0 x.k x.i x.t x.l.length=0:=zx
 unfold Oc at h2;obtain⟨h3,_⟩:=NI (fun _=>zu) h2;have h4:Ih x.k x.i x.t x.l.length=true:=by
  cases e:Ih x.k x.i x.t x.l.length with
  | true=>rfl
  | false=>exact absurd (.inl e) h3
 unfold Ih UX at h4;rw[if_pos hk,Bool.and_eq_true]at h4;exact Z21 h4.2
def Zrp (h:BR 0 x=0)(hl:vs.length<100000):Low (Eb vs x).length (Dw vs x):=by
 unfold Dw Eb;by_cases hk:x.k=1
 ·rw[if_pos hk,if_pos hk]
  have:=Ydv h hk
  exact⟨by show x.t.size<_;omega,by show 0<_;omega,fun q=>by have q:x.t.size=0:=q;omega⟩
 ·rw[if_neg hk,if_neg hk];have h1:=(Z3a vs x).2;have h2:=Z29 vs x;exact⟨by show 0<_;omega,by show bS vs x<_;omega,fun _=>h1⟩
def qL: ∀ (xs:List T) (vs:List T),(∀ x,x∈xs->BR 0 x=0)->vs.length+xs.length<100000->vs.length<=(Cc vs xs).2.length/\ ∀ s,s∈(Cc vs xs).1->Low (Cc vs xs).2.length s
 | [],vs,_,_=>⟨EO _,fun _ h=>by simp[Cc]at h⟩
 | x::xs,vs,h,hl=>by
  have h1:=Znv vs x;have h2:=bK vs x;rw[DU]at hl;obtain⟨i1,i2⟩:=qL xs (Eb vs x) (fun y hy=>h y (by simp[hy])) zx;simp only[Cc];refine⟨zx,fun s hs=>?_⟩;rcases Ak.1 hs with rfl | hs
  ·exact(Zrp (h x zw) zx).mono i1
  ·exact i2 s hs
def Z3i: ∀ (xs:List T) (vs:List T) {x:T},x∈xs->x.k=1->(x.t,0)∈(Cc vs xs).1
 | [],_,_,h,_=>by cases h
 | y::xs,vs,x,h,hk=>by
  simp only[Cc];rcases Ak.1 h with rfl | h
  ·rw[Dw,if_pos hk];exact List.mem_cons_self
  ·exact List.mem_cons_of_mem _<|Z3i xs _ h hk
def Zrf: ∀ (xs:List T) (vs:List T) {s:Sl},s∈(Cc vs xs).1->s.1.size≠0-> ∃ x,x∈xs/\x.k=1/\s=(x.t,0)
 | [],_,_,h,_=>by simp[Cc]at h
 | y::xs,vs,s,h,h0=>by
  simp only[Cc]at h;rcases Ak.1 h with rfl | h
  ·by_cases hk:y.k=1
   ·exact⟨y,zw,hk,by rw[Dw,if_pos hk]⟩
   ·rw[Dw,if_neg hk]at h0;exact absurd rfl h0
  ·obtain⟨x,h1,h2⟩:=Zrf xs _ h h0;exact⟨x,by simp[h1],h2⟩
def Zxu: ∀ (l:List A) (st:List T×List Pt),(∀ a,a∈l->(∀ x,x∈a.terms->BR 0 x=0)/\a.terms.length<=6)->st.1.length+6*l.length<100000->st.1.length<=(l.foldl Jv st).1.length/\(∀ p,p∈(l.foldl Jv st).2->p∈st.2\/(p.2.length<=6/\ ∀ s,s∈p.2->Low (l.foldl Jv st).1.length s))/\(∀ p,p∈st.2->p∈(l.foldl Jv st).2)/\(∀ a,a∈l-> ∃ vs,(a.name,(Cc vs a.terms).1)∈(l.foldl Jv st).2)/\ ∀ p,p∈(l.foldl Jv st).2->p∈st.2\/ ∃ a vs,a∈l/\p=(a.name,(Cc vs a.terms).1)
 | [],st,_,_=>⟨EO _,fun _ h=> .inl h,fun _ h=>h,fun _ h=>(by cases h),fun _ h=> .inl h⟩
 | a::l,st,h,hl=>by
  rw[DU]at hl;have ha:=h a zw;have hp:=qL a.terms st.1 ha.1 zx;have hq:=(Xx a.terms st.1).2;obtain⟨i1,i2,i3,i4,i5⟩:=Zxu l (Jv st a) (fun b hb=>h b (by simp[hb])) (by simp only[Jv];omega);rw[List.foldl_cons];have e1:(Jv st a).1=(Cc st.1 a.terms).2:=rfl;have e2:(Jv st a).2=st.2++[(a.name,(Cc st.1 a.terms).1)]:=rfl;rw[e1]at i1;rw[e2]at i2 i3 i5;refine⟨zx,fun p q=>?_,fun p q=>i3 p (by simp[q]),fun b q=>?_,fun p q=>?_⟩
  ·rcases i2 p q with q | q
   ·rcases Aj.1 q with q | q
    ·exact .inl q
    ·rw[Bh.1 q];exact .inr ⟨by rw[(Xx _ _).1];exact ha.2,fun s hs=>(hp.2 s hs).mono i1⟩
   ·exact .inr q
  ·rcases Ak.1 q with rfl | q
   ·exact⟨st.1,i3 _ zw⟩
   ·exact i4 b q
  ·rcases i5 p q with q | ⟨b,vs,q1,q2⟩
   ·rcases Aj.1 q with q | q
    ·exact .inl q
    ·exact .inr ⟨a,st.1,zw,Bh.1 q⟩
   ·exact .inr ⟨b,vs,by simp[q1],q2⟩
def Zxt: ∀ (l:List G) (st:List T×List Gt),(∀ g,g∈l->BR 0 g.a=0/\BR 0 g.b=0/\1<=g.op/\g.op<=7)->st.1.length+2*l.length<100000->st.1.length<=(l.foldl Ld st).1.length/\ ∀ p,p∈(l.foldl Ld st).2->p∈st.2\/(Low (l.foldl Ld st).1.length p.2.1/\Low (l.foldl Ld st).1.length p.2.2/\1<=p.1/\p.1<=7/\ ∃ g vs us,g∈l/\p=(g.op.toNat,Dw vs g.a,Dw us g.b))
 | [],st,_,_=>⟨EO _,fun _ h=> .inl h⟩
 | g::l,st,h,hl=>by
  rw[DU]at hl;obtain⟨ha,hb,ho⟩:=h g zw;have l1:=bK st.1 g.a;have l2:=bK (Eb st.1 g.a) g.b;have m1:=Znv st.1 g.a;have m2:=Znv (Eb st.1 g.a) g.b;obtain⟨i1,i2⟩:=Zxt l (Ld st g) (fun b hb=>h b (by simp[hb])) (by simp only[Ld];omega);rw[List.foldl_cons];have e1:(Ld st g).1=Eb (Eb st.1 g.a) g.b:=rfl;have e2:(Ld st g).2=st.2++[(g.op.toNat,Dw st.1 g.a,Dw (Eb st.1 g.a) g.b)]:=rfl;rw[e1]at i1;rw[e2]at i2;refine⟨zx,fun p q=>?_⟩;rcases i2 p q with q | ⟨q1,q2,q3,q4,g',vs,us,q5,q6⟩
  ·rcases Aj.1 q with q | q
   ·exact .inl q
   ·rw[Bh.1 q];exact .inr ⟨(Zrp ha zx).mono zx,(Zrp hb zx).mono zx,by show 1<=g.op.toNat;omega,by show g.op.toNat<=7;omega,g,_,_,zw,rfl⟩
  ·exact .inr ⟨q1,q2,q3,q4,g',vs,us,by simp[q5],q6⟩
def Ztd {l:List T}(h:ET l body=true)(hx:x∈l)(hk:x.k=1): ∃ a y,a∈body/\y∈a.terms/\y.k=1/\y.t=x.t:=by
 unfold ET at h
 have:=SI.1 h x hx
 simp only[Z9e,hk,decide_true,Bool.not_true,Bool.false_or,List.any_eq_true,Bool.and_eq_true,decide_eq_true_eq]at this;obtain⟨a,h1,y,h2,h3,h4⟩:=this;exact⟨a,y,h1,h2,h3,h4⟩
def Jj.pQ (h:Jj r)(hl:vs.length+100<100000):vs.length<=(Jg vs r).1.length/\(Jg vs r).1.length<=vs.length+38/\PD (Jg vs r).1.length (Qh vs r):=by
 have hp:=qL r.head.terms vs h.ht (by have:=h.h6;omega);have hpl:=Xx r.head.terms vs;have h6:=h.h6;have hb4:=h.b4;have hg4:=h.g4;obtain⟨a1,a2,_,a4,a5⟩:=Zxu r.body ((Cc vs r.head.terms).2,[]) h.bt (by dsimp only;omega);have al:=vz r.body ((Cc vs r.head.terms).2,[]) fun a ha=>(h.bt a ha).2;have ap:=Zqr r.body ((Cc vs r.head.terms).2,[]);obtain⟨g1,g2⟩:=Zxt r.guards ((O6 vs r).1,[]) h.gt (by show(O6 vs r).1.length+_<_;unfold O6;dsimp only at*;omega);have gl:=Znc r.guards ((O6 vs r).1,[]);have gn:=Zqq r.guards ((O6 vs r).1,[]);have eP:r.body.foldl Jv ((Cc vs r.head.terms).2,[])=O6 vs r:=rfl;have eG:r.guards.foldl Ld ((O6 vs r).1,[])=Jg vs r:=rfl;rw[eP]at a1 a2 a4 a5 al ap;rw[eG]at g1 g2 gl gn;dsimp only at a1 a2 a4 a5 al ap g1 g2 gl gn;have var: ∀ {l:List T},ET l r.body=true-> ∀ x,x∈l->x.k=1-> ∃ p,p∈(O6 vs r).2/\(x.t,0)∈p.2:=fun hb x hx hk=>by
  obtain⟨a,y,h1,h2,h3,h4⟩:=Ztd hb hx hk;obtain⟨us,hu⟩:=a4 a h1;exact⟨_,hu,by rw[<- h4];exact Z3i a.terms us h2 h3⟩
 refine⟨zx,zx,⟨⟨fun g hg s hs=>?_,fun s hs=>?_,rfl,?_,fun p q=>?_⟩,h.hn,?_,fun s hs=>(hp.2 s hs).mono zx,fun p q s hs=>?_,fun g q=>?_,?_⟩⟩
 ·rcases g2 g hg with q | ⟨_,_,_,_,g',us,ws,q1,q2⟩
  ·cases q
  ·have side: ∀ {t:T} {us:List T},ET [t] r.body=true->(Dw us t).1.size=0\/ ∃ x,x∈(O6 vs r).2/\ ∃ y,y∈x.2/\y.1=(Dw us t).1:=fun{t us} hb=>by
    by_cases hk:t.k=1
    ·obtain⟨p,h1,h2⟩:=var hb t zw hk;exact .inr ⟨p,h1,_,h2,by rw[Dw,if_pos hk]⟩
    ·exact .inl (by rw[Dw,if_neg hk];rfl)
   rcases hs with rfl | rfl
   ·rw[q2];exact side (h.gb g' q1).1
   ·rw[q2];exact side (h.gb g' q1).2
 ·by_cases h0:s.1.size=0
  ·exact .inl h0
  ·obtain⟨x,h1,h2,rfl⟩:=Zrf r.head.terms vs hs h0;exact .inr<|var h.hb x h1 h2
 ·show(O6 vs r).2.length<=4;simp at ap;omega
 ·rcases a2 p q with q | q
  ·cases q
  ·exact q.1
 ·show(Cc vs r.head.terms).1.length<=6;omega
 ·rcases a2 p q with q | q
  ·cases q
  ·exact(q.2 s hs).mono g1
 ·rcases g2 g q with q | ⟨q1,q2,q3,q4,_⟩
  ·cases q
  ·exact⟨q1,q2,q3,q4⟩
 ·show(Jg vs r).2.length<=4;simp at gn;omega
structure MM (n:Nat) (f:Fc):Prop where
 name:f.1.size<=16
 len:f.2.length<=6
 val: ∀ v,v∈f.2->v<n
def MM.mono {f:Fc}(h:MM n f)(k:n<=m):MM m f:=⟨h.name,h.len,fun v q=>BK (h.val v q) k⟩
def TG.in {b:BD}{P:Fc->Prop}(hb:PD n b)(hP: ∀ f,P f->MM n f){x:Fc}(h:TG b vs P x):MM n x:=by
 obtain⟨σ,⟨h1,_⟩,rfl⟩:=h;refine⟨hb.name,by show(b.hd.2.map _).length<=6;rw[Dj];exact hb.len,fun v hv=>?_⟩;obtain⟨s,hs,rfl⟩:=List.mem_map.1 hv;by_cases h0:s.1.size=0
 ·rw[P7,if_pos h0];exact(hb.hd s hs).2.2 h0
 ·rcases hb.ok.head s hs with q | ⟨x,hx,hq⟩
  ·exact absurd q h0
  ·exact(hP _<|h1 x hx).val _<|List.mem_map.2 ⟨s,hq,rfl⟩
end Go.W
namespace Go.P
variable {a:Nat->Addr}{w w':World}{vs:List T}{F X':List Nat}
def xC.ctx {p:Nat}{b:BD}{fs:List Fc}{e:Ending}(h:xC w w' e p b fs vs F)(hG:Oq a w)(hF: ∀ i,i∈F->23<=i){n:Nat}(hb:PD n b):
  ∃ c cs F',e= .returned (zq c.q 0)/\c.p=p/\c.b=b/\Ctx a c cs fs vs F' [] (zn) [] w'/\Hy cs (fun _=>0) (fun _ _ _=>0)/\Off F w w'/\(∀ i,i∈F'->i∈F\/w.heap.size<=i)/\ ∀ i,i∈c.q::c.m::c.S->w.heap.size<=i:=by
 obtain⟨q,m,sv,Fa,gv,Fg,hv,Gh,ov,Go,F',h1,h2,h3,h4,h5,h6,h7,h8,h9,hA,hB,hC,hD⟩:=h;obtain⟨cs,hcs⟩: ∃ cs,(((Qg p m b.hd.1 hv).setIfInBounds 3 sv).setIfInBounds 4 gv).setIfInBounds 5 ov=cs:=⟨_,rfl⟩;have sz:cs.size=972:=by rw[<- hcs];simp[qh]
 have lo: ∀ j,j≠3->j≠4->j≠5->cs[j]?=(Qg p m b.hd.1 hv)[j]?:=fun j j3 j4 j5=>by rw[<- hcs,Dy,if_neg zx,Dy,if_neg zx,Dy,if_neg zx]
 have l3:cs[3]?=some sv:=by rw[<- hcs,Dy,if_neg zx,Dy,if_neg zx,Dy,if_pos rfl,if_pos (by simp[qh])]
 have l4:cs[4]?=some gv:=by rw[<- hcs,Dy,if_neg zx,Dy,if_pos rfl,if_pos (by simp[qh])]
 have l5:cs[5]?=some ov:=by rw[<- hcs,Dy,if_pos rfl,if_pos (by simp[qh])]
 have low: ∀ j,j<8->j≠3->j≠4->j≠5->cs[j]?=_:=fun j j8 j3 j4 j5=>(lo j j3 j4 j5).trans (jl _ _ _ _ j j8);have l7:cs[7]?=some (zn):=low 7 zx zx zx zx;have hi: ∀ j,8<=j->j<972->cs[j]?=some (.int .u64 0):=fun j h1 h2=>(lo j zx zx zx).trans (Z4q _ _ _ _ j h1 h2);rw[hcs]at h2;have tZ:23<=w.heap.size:=hG.most;obtain⟨S,hS⟩: ∃ S,Fa++(Fg++(Gh++Go))=S:=⟨_,rfl⟩;rw[hS]at hB hC;obtain⟨pa,ca,rfl,kA⟩:=AQ.Vx (S:=S) h4 (fun k hk=>by rw[<- hS];simp[hk]) fun p q=>⟨hb.ok.l6 p q,fun s hs=>(hb.at_ p q s hs).1⟩;obtain⟨pg,cg,rfl,kG⟩:=AQ.fA (S:=S) h5 (fun k hk=>by rw[<- hS];simp[hk]) fun g q=>⟨(hb.gs g q).1.1,(hb.gs g q).2.1.1,(hb.gs g q).2.2⟩;obtain⟨ph,ch,rfl,kH⟩:=AQ.Jn (S:=S) h6 (fun k hk=>by rw[<- hS];simp[hk]) fun s hs=>(hb.hd s hs).1;obtain⟨pm,cm,rfl,kM⟩:=AQ.YX (S:=S) h7 (fun k hk=>by rw[<- hS];simp[hk]);have zJ:b.hs.length<=24:=by
  have:=Zqy (hd:=b.hd.2) hb.ok.l4 hb.ok.l6
  have:=hb.len
  rw[hb.ok.hs];omega
 refine⟨⟨q,p,m,b,S,pa,ca⟩,cs,F',h1,rfl,rfl,⟨⟨by rw[Zwa l7];exact h2,low 6 zx zx zx zx,zx,AQ.nil,⟨#[],0,h3,rfl⟩,hD,Ag.nil _ _,zw,zw⟩,⟨sz,low 0 zx zx zx zx,low 1 zx zx zx zx,⟨ph,ch,low 2 zx zx zx zx,kH,hb.len⟩,⟨l3,hb.ok.l4,kA⟩,⟨pg,cg,l4,hb.g4,kG⟩,⟨pm,cm,l5,zJ,kM⟩,fun j hj=>(hB j (by simp[hj])).2.1⟩,h8,hG.of h9 hF,fun j hj=>?_,fun j hj=>⟨fun h=>(hB j (by have h:j∈S:=h;simp[h])).2.2 hj,(hA j hj).elim (hF j) fun h=>zx⟩⟩,⟨fun k hk=>⟨hi _ zx zx,zu⟩,fun i n k h1 h2 h3=>⟨hi _ zx zx,zu⟩⟩,h9,hA,fun i hi=>(hB i hi).1⟩;simp only[Ak,Lj,or_false]at hj;rcases hj with rfl | rfl
 ·exact⟨(hB _ zw).2.2,fun h=>(hC _ h).1 rfl,by have:=(hB j zw).1;omega⟩
 ·exact⟨(hB _ zw).2.2,fun h=>(hC _ h).2 rfl,by have:=(hB j zw).1;omega⟩
def Ctx.bY {c:Cx}{cs:Array Value}{fs fs':List Fc}{Ia:List T}{F' G:List Nat}{xs:Bn}{ov:Value}{Fo:List Nat}(h:Ctx a c cs fs vs F xs ov Fo w)(hw:Df w' c.p fs' Ia F')(ho:Off (G++F) w w')(hG: ∀ j,j∈G->j∉c.q::c.m::Fo/\j∉c.S/\23<=j)(hs: ∀ i,i∈F'->i∈F\/w.heap.size<=i):Ctx a c cs fs' Ia F' xs ov Fo w':=by
 refine⟨h.bd.off ho fun j hj q=>(Aj.1 q).elim (fun q=>(hG j q).1 hj) (h.dB j hj).1,h.rd.of ho.size (fun k hk=>ho.block k (h.rd.lS k hk) fun q=>(Aj.1 q).elim (fun q=>(hG k q).2.1 hk) fun q=>(h.dF k q).1 hk) ⟨rfl,fun _ _=>rfl⟩,hw,h.gl.of ho fun j hj=>(Aj.1 hj).elim (fun q=>(hG j q).2.2) fun q=>(h.dF j q).2,fun j hj=>⟨fun q=>?_,(h.dB j hj).2⟩,fun j hj=>?_⟩
 ·rcases hs j q with q | q
  ·exact(h.dB j hj).1 q
  ·have:=h.bd.lt j hj;omega
 ·rcases hs j hj with q | q
  ·exact h.dF j q
  ·exact⟨fun r=>by have:=h.rd.lS j r;omega,Ab h.gl.most q⟩
structure BS where
 c:Cx
 cs:Array Value
 ov:Value
 Fo:List Nat
 A:Nat->Nat
 B:Nat->Nat->Nat->Nat
def BS.own (x:BS):List Nat:=x.c.q::x.c.m::(x.Fo++x.c.S)
structure MI (a:Nat->Addr) (p:Nat) (fs:List Fc) (vs:List T) (F X:List Nat) (l:List BS) (w:World):Prop where
 each: ∀ x,x∈l->Ctx a x.c x.cs fs vs F [] x.ov x.Fo w/\Hy x.cs x.A x.B/\x.c.p=p
 apart:l.Pairwise fun x y=> ∀ j,j∈x.own->j∉y.own
 rest: ∀ j,j∈X->j<w.heap.size/\j∉F/\ ∀ x,x∈l->j∉x.own
section
variable {a:Nat->Addr} {p:Nat} {fs fs':List Fc} {vs Ia:List T} {F F' X:List Nat} {l l':List BS} {w w':World}
def Z92 {x:BS}(h:Ctx a x.c x.cs fs vs F [] x.ov x.Fo w){j:Nat}(hj:j∈x.own):j<w.heap.size:=by
 unfold BS.own at hj;rw[<- EC,<- EC]at hj;rcases Aj.1 hj with q | q
 ·exact h.bd.lt j q
 ·exact h.rd.lS j q
def MI.below (h:MI a p fs vs F X l w)(hb:Bl w w'):MI a p fs vs F X l w':=⟨fun x hx=>⟨(h.each x hx).1.below hb,(h.each x hx).2⟩,h.apart,fun j hj=>⟨BK (h.rest j hj).1 hb.size,(h.rest j hj).2⟩⟩
def MI.world (h:MI a p fs vs F X l w)(hw:Df w' p fs' Ia F')(ho:Off F w w')(hs: ∀ i,i∈F'->i∈F\/w.heap.size<=i):MI a p fs' Ia F' X l w':=
 ⟨fun x hx=>⟨(h.each x hx).1.world (by rw[(h.each x hx).2.2];exact hw) ho hs,(h.each x hx).2⟩,h.apart,fun j hj=>⟨BK (h.rest j hj).1 ho.size,fun q=>(hs j q).elim (h.rest j hj).2.1 fun q=>by have:=(h.rest j hj).1;omega,(h.rest j hj).2.2⟩⟩
def MI.step {l1 l2:List BS}{x x':BS}(h:MI a p fs vs F X (l1++x::l2) w)(hx:Ctx a x'.c x'.cs fs' vs F' [] x'.ov x'.Fo w')(hT:Hy x'.cs x'.A x'.B)(hc:x'.c=x.c)(ho:Off (x.c.q::x.c.m::(x.Fo++F)) w w')(hs: ∀ i,i∈F'->i∈F\/w.heap.size<=i)(hf: ∀ i,i∈x'.Fo->i∈x.Fo\/w.heap.size<=i):MI a p fs' vs F' X (l1++x'::l2) w':=by
 have hx0:=h.each x zw;have hp:x'.c.p=p:=by rw[hc];exact hx0.2.2
 have hown: ∀ j,j∈x'.own->j∈x.own\/w.heap.size<=j:=fun j hj=>by
  unfold BS.own at hj⊢;rw[hc]at hj;simp only[Ak,Aj]at hj⊢;rcases hj with q | q | q | q
  ·exact .inl<|.inl q
  ·exact .inl<|.inr<|.inl q
  ·exact(hf j q).imp (fun q=> .inr (.inr<|.inl q)) id
  ·exact .inl<|.inr<|.inr<|.inr q
 have hap:=h.apart;rw[List.pairwise_append,List.pairwise_cons]at hap;obtain⟨p1,⟨p2,p3⟩,p4⟩:=hap;have two: ∀ y,y∈l1\/y∈l2-> ∀ j,j∈x.own->j∉y.own:=fun y hy j hj q=>hy.elim (fun hy=>p4 y hy x zw j q hj) fun hy=>p2 y hy j hj q;have zA:Off ((x.c.q::x.c.m::x.Fo)++F) w w':=ho;have oth: ∀ y,y∈l1\/y∈l2->Ctx a y.c y.cs fs' vs F' [] y.ov y.Fo w'/\Hy y.cs y.A y.B/\y.c.p=p:=fun y hy=>by
  have mJ:=h.each y (by simp only[Aj,Ak];exact hy.imp id .inr);refine⟨mJ.1.bY (by rw[mJ.2.2,<- hp];exact hx.wd) zA (fun j hj=>?_) hs,mJ.2⟩;have hjx:j∈x.own:=by unfold BS.own;rw[<- EC,<- EC];exact Md _ hj
  have hn:=two y hy j hjx;unfold BS.own at hn;rw[<- EC,<- EC,Aj,not_or]at hn;exact⟨hn.1,hn.2,(hx0.1.dB j hj).2.2⟩
 have new: ∀ y,y∈l1\/y∈l2-> ∀ j,j∈x'.own->j∉y.own:=fun y hy j hj q=>by
  rcases hown j hj with r | r
  ·exact two y hy j r q
  ·have:=Z92 (h.each y (by simp only[Aj,Ak];exact hy.imp id .inr)).1 q
   omega
 refine⟨fun y hy=>?_,?_,fun j hj=>⟨BK (h.rest j hj).1 ho.size,fun q=>(hs j q).elim (h.rest j hj).2.1 fun q=>by have:=(h.rest j hj).1;omega,fun y hy q=>?_⟩⟩
 ·simp only[Aj,Ak]at hy;rcases hy with hy | rfl | hy
  ·exact oth y<|.inl hy
  ·exact⟨hx,hT,hp⟩
  ·exact oth y<|.inr hy
 ·rw[List.pairwise_append,List.pairwise_cons];refine⟨p1,⟨fun y hy=>new y (.inr hy),p3⟩,fun y hy z hz j hj q=>?_⟩;rcases Ak.1 hz with rfl | hz
  ·exact new y (.inl hy) j q hj
  ·exact p4 y hy z (by simp[hz]) j hj q
 ·simp only[Aj,Ak]at hy;rcases hy with hy | rfl | hy
  ·exact(h.rest j hj).2.2 y (by simp[hy]) q
  ·rcases hown j q with r | r
   ·exact(h.rest j hj).2.2 x zw r
   ·have:=(h.rest j hj).1;omega
  ·exact(h.rest j hj).2.2 y (by simp[hy]) q
def MI.off {G:List Nat}(h:MI a p fs vs F X l w)(ho:Off G w w')(hG: ∀ j,j∈G->23<=j/\j∉F/\ ∀ x,x∈l->j∉x.own)(hX: ∀ j,j∈X'->j<w'.heap.size/\j∉F/\ ∀ x,x∈l->j∉x.own):MI a p fs vs F X' l w':=by
 refine⟨fun x hx=>⟨(h.each x hx).1.other ho fun j hj=>?_,(h.each x hx).2⟩,h.apart,hX⟩;have hn:=(hG j hj).2.2 x hx;unfold BS.own at hn;rw[<- EC,<- EC,Aj,not_or]at hn;exact⟨hn.1,(hG j hj).2.1,hn.2,(hG j hj).1⟩
def MI.snoc {x:BS}(h:MI a p fs vs F X l w)(hx:Ctx a x.c x.cs fs vs F [] x.ov x.Fo w)(hT:Hy x.cs x.A x.B)(hp:x.c.p=p)(hn: ∀ y,y∈l-> ∀ j,j∈y.own->j∉x.own)(hX: ∀ j,j∈X'->j<w.heap.size/\j∉F/\j∉x.own/\ ∀ y,y∈l->j∉y.own):MI a p fs vs F X' (l++[x]) w:=by
 refine⟨fun y hy=>?_,?_,fun j hj=>⟨(hX j hj).1,(hX j hj).2.1,fun y hy=>?_⟩⟩
 ·rcases Aj.1 hy with hy | hy
  ·exact h.each y hy
  ·rw[Bh.1 hy];exact⟨hx,hT,hp⟩
 ·rw[List.pairwise_append];exact⟨h.apart,zw,fun y hy z hz=>by rw[Bh.1 hz];exact hn y hy⟩
 ·rcases Aj.1 hy with hy | hy
  ·exact(hX j hj).2.2.2 y hy
  ·rw[Bh.1 hy];exact(hX j hj).2.2.1
end
end Go.P
namespace Go.W
variable {a:A}{n:Nat}
def QC (st:List Fc×List T) (a:A):List Fc×List T:=((TI st.1 (a.name,FF [] (Cc st.2 a.terms).1)).2,(Cc st.2 a.terms).2)
structure Rz (a:A):Prop where
 name:a.name.size<=16
 ok: ∀ x,x∈a.terms->BR 0 x=0
 len:a.terms.length<=6
 free:ET a.terms []=true
def Rz.fact (h:Ul a=0):Rz a:=by
 obtain⟨h1,h2⟩:=NI (fun q=>q) h;obtain⟨h3,_⟩:=NI (fun _=>zu) h2;obtain⟨k1,k2,k3⟩:=Yfg (by omega:FH a=0);exact⟨k1,k2,k3,by simpa using h3⟩
structure Uf (n:Nat) (st:List Fc×List T):Prop where
 nd:st.1.Nodup
 ok: ∀ f,f∈st.1->MM st.2.length f
 len:st.1.length<=n
 vals:st.2.length<=6*n
def Ya5 {ss:List Sl}(h: ∀ s,s∈ss->s.1.size=0):FF [] ss=ss.map (·.2):=by
 unfold FF;exact List.map_congr_left fun s hs=>by rw[Dr,if_pos<|h s hs]
def Rz.WR (h:Rz a){vs:List T}{s:Sl}(hs:s∈(Cc vs a.terms).1):s.1.size=0:=by
 by_cases h0:s.1.size=0
 ·exact h0
 ·obtain⟨x,h1,h2,_⟩:=Zrf a.terms vs hs h0;obtain⟨_,_,q,_⟩:=Ztd h.free h1 h2;cases q
def Uf.fact {st:List Fc×List T}(h:Uf n st)(hn:n<60)(ha:Rz a):MM (Cc st.2 a.terms).2.length (a.name,FF [] (Cc st.2 a.terms).1):=by
 have hv:=h.vals;have hl:=ha.len;have hp:=qL a.terms st.2 ha.ok zx;refine⟨ha.name,by show(FF _ _).length<=6;unfold FF;rw[Dj,(Xx _ _).1];exact hl,fun v q=>?_⟩;have q:v∈FF [] (Cc st.2 a.terms).1:=q;rw[Ya5 fun s hs=>ha.WR hs]at q;obtain⟨s,hs,rfl⟩:=List.mem_map.1 q;exact(hp.2 s hs).2.2<|ha.WR hs
def Uf.step {st:List Fc×List T}(h:Uf n st)(hn:n<60)(ha:Rz a):Uf (n+1) (QC st a)/\(TI st.1 (a.name,FF [] (Cc st.2 a.terms).1)).1=true:=by
 have hv:=h.vals;have hl:=ha.len;have hf:=h.fact hn ha;have hp:=(qL a.terms st.2 ha.ok zx).1;have hq:=(Xx a.terms st.2).2;unfold QC;generalize (a.name,FF [] (Cc st.2 a.terms).1)=f at*;have t:=EX.one st.1 f;obtain⟨ad,e,had⟩:=t.ext;have hlen:=h.len;by_cases Ci:f∈st.1
 ·rw[Zvr Ci];exact⟨⟨h.nd,fun g q=>(h.ok g q).mono hp,by dsimp only;omega,by dsimp only;omega⟩,rfl⟩
 ·rw[Zq2 Ci zx]at t⊢;refine⟨⟨t.nd h.nd,fun g q=>?_,by simp;omega,by dsimp only;omega⟩,rfl⟩;rcases Aj.1 q with q | q
  ·exact(h.ok g q).mono hp
  ·rw[Bh.1 q];exact hf
def Uf.all: ∀ (l:List A) (n:Nat) (st:List Fc×List T),Uf n st->n+l.length<=60->(∀ a,a∈l->Rz a)->Uf (n+l.length) (l.foldl QC st)
 | [],n,st,h,_,_=>h
 | a::l,n,st,h,hn,ha=>by
  rw[DU]at hn⊢
  have:=Uf.all l (n+1) (QC st a) (h.step zx<|ha a zw).1 zx fun b hb=>ha b (by simp[hb])
  rwa [show n+1+l.length=n+(l.length+1)by omega]at this
def MM.ok {f:Fc}(h:MM n f)(hn:n<1000000000):GY f:=⟨by have:=h.name;omega,h.len,fun v q=>by have:=h.val v q;omega⟩
end Go.W
namespace Go.P
attribute [local go_sem] Me
def Ybb {w:World}{p:Nat}{F:List Nat}(h:Df w p [] [] F){B D:Nat}{l:List A}{pl:Option Addr}{cl:Nat}(hb:Ap 2 (Ep B w<|D+2) pl l)(hB:B<=w.heap.size)(hFB: ∀ i,i∈F->B<=i)(h1: ∀ a,a∈l->Rz a)(hl:l.length<=60):
  Calls prog 149 #[zq p 0,.slice pl l.length cl] w fun e w'=>e= .returned (.bool true)/\ ∃ F',Df w' p (l.foldl QC ([],[])).1 (l.foldl QC ([],[])).2 F'/\Off F w w'/\ ∀ i,i∈F'->i∈F\/w.heap.size<=i:=by
 obtain⟨nl,L8⟩: ∃ nl,AF (l.length=nl):=⟨_,⟨rfl⟩⟩;rw[L8.out]at hl;rw[L8.out];have HTA:AF (∀ k,k<=nl->Uf k ((l.take k).foldl QC ([],[]))):=⟨fun k hk=>by
  have:=Uf.all (l.take k) 0 ([],[]) ⟨zw,fun _ q=>(by cases q),EO _,Eg _⟩ (by rw[List.length_take,L8.out];omega) fun a ha=>h1 a (List.mem_of_mem_take ha)
  rwa [List.length_take,L8.out,Nat.min_eq_left hk,Gx]at this⟩
 have HBD:=AC hb;have H1:=AC h1;have H:=AC h;clear hb h1 h;refine X9 func149 rfl ?_;simp only[ntmps149,GN,DU,JC,Nat.reduceAdd,Nat.reduceSub,Qu,Qv,Qr,Qt,JU,EC];go_wp2
 go_loopw [9] (fun iv wr=> ∃ k,k<=nl/\iv= zo ((k:Nat):Int)/\ ∃ F',Df wr p ((l.take k).foldl QC ([],[])).1 ((l.take k).foldl QC ([],[])).2 F'/\Off F w wr/\ ∀ i,i∈F'->i∈F\/w.heap.size<=i) (fun iv _=>nl-Td iv)
 case atStart=>exact⟨0,Eg _,rfl,F,H.out,Off.refl _ _,fun _ h=> .inl h⟩
 case round=>
  obtain⟨k,hk,rfl,F',hwd,DL,Dh⟩:=hrel;have RE:=HTA.out k hk;obtain⟨st,hst⟩: ∃ st,AF ((l.take k).foldl QC ([],[])=st):=⟨_,⟨rfl⟩⟩;rw[hst.out]at RE hwd;by_cases hlt:k<nl
  ·obtain⟨a,hak⟩: ∃ a,l[k]?=some a:=⟨_,A8 (by have:=L8.out;omega)⟩;have Aq:=H1.out a<|Ej hak;have hv:=RE.vals;have hf:=(RE.fact zx Aq).ok (by have:=(Xx a.terms st.2).2;have:=Aq.len;omega);obtain⟨hj1,Am⟩:=RE.step zx Aq;have TA:=AC<|AJ RE<|AJ Aq hf;have EJ:=AC Am;have HLN:AF ((Cc st.2 a.terms).1.length<=6):=⟨by rw[(Xx _ _).1];exact Aq.len⟩;have HSZ:AF (∀ s,s∈(Cc st.2 a.terms).1->s.1.size<1000000000):=⟨fun s hs=>by rw[Aq.WR hs];omega⟩;obtain⟨bb,oo,rfl,hA⟩:=HBD.out.at_ k a hak;have jK:Below B w wr:=DL.below hFB hB;obtain⟨G4,pc,cc,z0,z1,hAS⟩:=(Ep.carry (Go.W.Below.carry jK lr) lr hA).vals;obtain⟨pc',cc',e1,_,_,hrt⟩:=hAS;injection e1 with _ e1;injection e1 with e1 _;injection e1 with e1 _ e3;subst e1;subst e3;have g:(k:Int)<(nl:Int):=zx
   have aT:B<=wr.heap.size:=Ab hB jK.size;have jH: ∀ j,j∈F'->B<=j:=fun j hj=>(Dh j hj).elim (hFB j) zx;have CS:=AC fun u (hu:Bl wr u)=>Zk9 (c:=cc) (n:=a.name) (hwd.of hu.size fun j hj=>hu.block j (hwd.lt j hj)) (hrt.carry fun b o x q=>He.carry (Bq hu aT) lr q) (Ab aT hu.size) Aq.ok Aq.len zx jH;have HR:=AC<|AJ hwd<|AJ DL Dh;have AK:=AC hak;clear hwd DL Dh hA hrt hak RE Aq hf hj1 Am;generalize hla:a.terms.length=na at*;clear hla;go_wp2_with fail
   refine(CS.out _<|(AR _ wr).alloc lr _).mono ?_;rintro e w5 ⟨sv5,G5,F5,rfl,UK,Pm,RP,Di,hs5,dh⟩;obtain⟨p5,c5,rfl,hsa⟩:=AQ.Jn (S:=G5) UK (fun _ h=>h) HSZ.out;have CF:=AC<|Zna (w:=w5) (mv:= .map none) (xs:=[]) (.inl ⟨rfl,rfl⟩) (fun m e=>by cases e) none 0 0 (c:=c5) hsa (fun j hj=>Pm.lt j hj) HLN.out a.name;have Gn: ∀ i,i∈F5->i∈F'\/wr.heap.size+1<=i:=fun i hi=>(hs5 i hi).imp id fun h=>by simpa using h
   have P5:=AC<|AJ RP<|AJ Di Gn;obtain⟨f,hfq⟩: ∃ f,AF ((a.name,FF [] (Cc st.2 a.terms).1)=f):=⟨_,⟨rfl⟩⟩;rw[hfq.out]at CF TA EJ;clear RP Di hs5 UK Pm dh Gn hsa;generalize (Cc st.2 a.terms).1.length=n5 at*;go_wp2_with fail
   refine mq CF.out ?_;rintro w6 Gp;have CJ:=AC<|Zvs (P5.out.1.of Gp.size fun j hj=>Gp.block j (P5.out.1.lt j hj)) f TA.out.2.2 (fun y hy=>(TA.out.1.ok y hy).ok zx) (by have:=TA.out.1.len;omega);rw[EJ.out]at CJ;have HB6:=AC Gp;clear Gp;go_wp2_with fail
   refine CJ.out.mono ?_;rintro e w7 ⟨rfl,F7,XX,NJ,PY⟩;have EQ:(l.take<|k+1).foldl QC ([],[])=((TI st.1 f).2,(Cc st.2 a.terms).2):=by
    rw[PM,AK.out,List.foldl_append,hst.out];simp[QC,hfq.out]
   have l5:wr.heap.size+1<=w5.heap.size:=by have:=P5.out.2.1.size;simpa using this
   have HF:AF (∃ F',Df w7 p ((l.take<|k+1).foldl QC ([],[])).1 ((l.take<|k+1).foldl QC ([],[])).2 F'/\Off F w w7/\ ∀ i,i∈F'->i∈F\/w.heap.size<=i):=by
    rw[EQ];have lw:=HR.out.2.1.size;have eX: ∀ i,i∈F5->i∈F\/w.heap.size<=i:=fun i hi=>(P5.out.2.2 i hi).elim (HR.out.2.2 i) fun h=> .inr zx;refine⟨F7,XX,(((HR.out.2.1.trans (Off.of (F:=[])<|(AR _ wr).alloc lr _) fun _ h=>(by cases h)).trans P5.out.2.1 fun i hi=>HR.out.2.2 i hi).trans (Off.of (F:=[]) HB6.out) fun _ h=>(by cases h)).trans NJ eX,fun i hi=>(PY i hi).elim (eX i) fun h=> .inr (by have:=HB6.out.size;omega)⟩
   clear EQ XX NJ PY;go_wp2
   exact⟨⟨k+1,zx,zw,HF.out⟩,by simp[Td];omega⟩
  ·have g: ¬ (k:Int)<(nl:Int):=zx
   obtain rfl:k=nl:=zx
   have jN:l.foldl QC ([],[])=st:=by rw[<- hst.out,U0 (by have:=L8.out;omega)]
   have HE:=AC jN;have HR:=AC<|AJ hwd<|AJ DL Dh;clear jN hwd DL Dh RE;go_wp2
   go_ret
   rw[HE.out];exact⟨rfl,F',HR.out.1,HR.out.2.1,HR.out.2.2⟩
end Go.P
namespace Go.W
def PD.zY {n:Nat}{b:BD}(h:PD n b):Uu b:=by
 have hk:=qj (hd:=b.hd.2) h.ok.l4 h.ok.l6;have hl:=Zqy (hd:=b.hd.2) h.ok.l4 h.ok.l6
 have:=h.name
 have:=h.len
 refine⟨zx,h.len,fun s hs=>(h.hd s hs).2.1,?_,?_,?_⟩
 ·rw[h.ok.hs];exact hk.nd
 ·rw[h.ok.hs];omega
 ·rw[h.ok.hs];exact hk.lt
def PD.nums {b:BD}{vs:List T}{fs:List Fc}(h:PD vs.length b)(hf: ∀ f,f∈fs->MM vs.length f):Zp b fs vs []:=⟨fun f q=>⟨(hf f q).len,(hf f q).val⟩,fun _ q=>(by cases q),fun g q=>⟨(h.gs g q).1.2.2,(h.gs g q).2.1.2.2⟩⟩
end Go.W
namespace Go.P
section
variable {a:Nat->Addr} {p seen now:Nat} {fs:List Fc} {vs:List T} {F X:List Nat} {l1 l2:List BS} {x:BS} {w:World}
def Z6s (h:MI a p fs vs F X (l1++x::l2) w)(hb:PD vs.length x.c.b)(hf: ∀ f,f∈fs->MM vs.length f)(hT:FU x.c.b vs fs seen x.A x.B)(hs:seen<=now)(hn:now<=fs.length)(Fq:fs.length<=60):
  Calls prog 186 #[zq x.c.q 0,zo (seen:Int),zo (now:Int)] w fun e w'=>e= .returned (.tuple #[])/\ ∃ x',x'.c=x.c/\MI a p fs vs F X (l1++x'::l2) w'/\FU x.c.b vs fs now x'.A x'.B/\Off (x.c.q::x.c.m::(x.Fo++F)) w w'/\ ∀ i,i∈x'.Fo->i∈x.Fo\/w.heap.size<=i:=by
 obtain⟨hx,VQ,_⟩:=h.each x zw;refine(Zx5 hx (hb.nums hf) VQ zx hn Fq fun k j hk hj=>?_).mono ?_
 ·have:=hT.lt k j<|(Ol<|Nat.lt_trans (hT.PR zx k) zu).1 hj
  omega
 ·rintro e w' ⟨rfl,cs',Br,Au,hc,hTb',hst⟩;have DL:Off (x.c.q::x.c.m::(x.Fo++F)) w w':=⟨hst.1.os,hst.1.tape,hst.1.output,hst.1.size,fun k hk hn=>hst.1.block k hk fun q=>hn (by simp only[Ak,Aj]at q⊢;exact q.imp id (·.imp id .inl))⟩;exact⟨rfl,⟨x.c,cs',Br,Au,_,_⟩,rfl,h.step (x':=⟨x.c,cs',Br,Au,_,_⟩) hc hTb' rfl DL (fun _ q=> .inl q) hst.2,hT.Z7 hs zx,DL,hst.2⟩
def Z1m (h:MI a p fs vs F X (l1++x::l2) w)(hb:PD vs.length x.c.b)(hf: ∀ f,f∈fs->MM vs.length f)(hv:vs.length<100000)(hT:FU x.c.b vs fs now x.A x.B)(hs:seen<=now)(hn:now<=fs.length)(Fq:fs.length<=60)(hold:x.c.b.at_≠[]-> ∀ y,TG x.c.b vs (·∈fs.take seen) y->y∈fs):
  Calls prog 187 #[zq x.c.q 0,zo (seen:Int)] w fun e w'=> ∃ r fs' F' x',e= .returned (.bool r)/\EX (TG x.c.b vs (·∈fs.take now)) fs r fs'/\x'.c=x.c/\x'.A=x.A/\x'.B=x.B/\MI a p fs' vs F' X (l1++x'::l2) w'/\Off (x.c.q::x.c.m::(x.Fo++F)) w w'/\(∀ i,i∈F'->i∈F\/w.heap.size<=i)/\ ∀ i,i∈x'.Fo->i∈x.Fo\/w.heap.size<=i:=by
 obtain⟨hx,VQ,_⟩:=h.each x zw;refine(Z5g hx VQ (hb.nums hf).known hb.zY zx (fun j n q=>by have:=hT.lt j n q;omega) (hT.PR zx) (fun y q=>(hf y q).ok zx) Fq).mono ?_;rintro e w' ⟨r,fs',F',Br,Au,rfl,ht,hc,ho,h4,h5⟩;refine⟨r,fs',F',⟨x.c,x.cs,Br,Au,x.A,x.B⟩,rfl,ht.weak (fun y q=>Z5h hT hb.ok hn Fq q) fun y q=>?_,rfl,rfl,rfl,h.step (x':=⟨x.c,x.cs,Br,Au,x.A,x.B⟩) hc VQ rfl ho h4 h5,ho,h4,h5⟩;rcases Z5f hT hb.ok hn Fq hs q with q | q
 ·exact .inl q
 ·exact .inr<|hold q.1 y q.2
end
end Go.P
