import Derived.Test.YtaoiihbjdonaoaaGreatDoorW45
set_option linter.defProp false
set_option maxRecDepth 100000
set_option maxHeartbeats 8000000
set_option linter.unusedSimpArgs false
open Go.Proofs Go.RowKit Go.W Tryz
namespace Go.W
variable {x v:T}{vs:List T}{c Aa:Int}{b:Bk}
def WE (x:T):Prop:=BR 0 x=0/\InT 3 x
def GdA (a:A):Prop:= ∀ x,x∈a.terms->WE x
structure GdR (r:R):Prop where
 hd:GdA r.head
 bd: ∀ a,a∈r.body->GdA a
 gs: ∀ g,g∈r.guards->WE g.a/\WE g.b
def WE.inj {y:T}(hx:WE x)(hy:WE y)(h:C8 x=C8 y):x=y:=by
 have h1:=Zrw 3 x lr hx.1 hx.2 [];have h2:=Zrw 3 y lr hy.1 hy.2 [];rw[h]at h1;exact(Prod.mk.inj<|Except.ok.inj<|h1.symm.trans h2).1
structure BF (v:T) (vs:List T):Prop where
 all: ∀ x,x∈vs->WE x
 fst:vs[0]?=some v
def Ym4 (k:ByteArray): ∀ (l:List ByteArray) (i:Nat) {j:Nat},TP k l i=some j->i<=j/\l[j-i]?=some k
 | [],i,j,h=>by simp[TP]at h
 | y::l,i,j,h=>by
  rw[TP]at h;split at h
  ·rename_i e;injection h with h;subst h;exact⟨EO _,by rw[Nat.sub_self,e];rfl⟩
  ·obtain⟨h1,h2⟩:=Ym4 k l (i+1) h;refine⟨zx,?_⟩;rw[show j-i=(j-(i+1))+1 by omega,List.getElem?_cons_succ];exact h2
def BF.num (h:BF v vs)(hx:WE x):BF v (Wz vs x)/\(Wz vs x)[bS vs x]?=some x:=by
 unfold Wz bS;cases e:TP (C8 x) (vs.map C8) 0 with
 | none=>
  refine⟨⟨fun y hy=>?_,?_⟩,?_⟩
  ·rcases Aj.1 hy with hy | hy
   ·exact h.all y hy
   ·rw[Bh.1 hy];exact hx
  ·show(vs++[x])[0]?=_;rw[PK (DW.1 h.fst).1];exact h.fst
  ·show(vs++[x])[vs.length]?=_;simp
 | some j=>
  refine⟨h,?_⟩;obtain⟨_,h2⟩:=Ym4 _ _ _ e;rw[Nat.sub_zero,FK]at h2;show vs[j]?=some x;cases hy:vs[j]? with
  | none=>rw[hy]at h2;cases h2
  | some y=>
   rw[hy]at h2;injection h2 with h2;rw[WE.inj (h.all y<|Ej hy) hx h2]
def BF.slot (h:BF v vs)(hx:WE x):BF v (Eb vs x):=by
 unfold Eb;split
 ·exact h
 ·exact(h.num hx).1
def BF.pat: ∀ (xs:List T) {vs:List T},BF v vs->(∀ x,x∈xs->WE x)->BF v (Cc vs xs).2
 | [],_,h,_=>h
 | x::xs,_,h,hx=>BF.pat xs (h.slot<|hx x zw) fun y hy=>hx y (by simp[hy])
def BF.bB: ∀ (l:List A) {st:List T×List Pt},BF v st.1->(∀ a,a∈l->GdA a)->BF v (l.foldl Jv st).1
 | [],_,h,_=>h
 | a::l,_,h,ha=>BF.bB l (st:=Jv _ a) (BF.pat a.terms h<|ha a zw) fun y hy=>ha y (by simp[hy])
def BF.bC: ∀ (l:List G) {st:List T×List Gt},BF v st.1->(∀ g,g∈l->WE g.a/\WE g.b)->BF v (l.foldl Ld st).1
 | [],_,h,_=>h
 | g::l,_,h,hg=>BF.bC l (st:=Ld _ g) ((h.slot (hg g zw).1).slot (hg g zw).2) fun y hy=>hg y (by simp[hy])
def BF.pQ (h:BF v vs){r:R}(hr:GdR r):BF v (Jg vs r).1:=
 BF.bC r.guards (BF.bB r.body (st:=(_,[])) (BF.pat r.head.terms h hr.hd) hr.bd) hr.gs
def BF.bdys: ∀ (rs:List R) {st:List T×List BD},BF v st.1->(∀ r,r∈rs->GdR r)->BF v (rs.foldl Xz st).1/\ ∀ b,b∈(rs.foldl Xz st).2->b∈st.2\/ ∃ r,r∈rs/\b.hd.1=r.head.name
 | [],_,h,_=>⟨h,fun _ q=> .inl q⟩
 | r::rs,st,h,hr=>by
  obtain⟨h1,h2⟩:=BF.bdys rs (st:=Xz st r) (h.pQ<|hr r zw) fun y hy=>hr y (by simp[hy]);refine⟨h1,fun b hb=>?_⟩;rcases h2 b hb with q | ⟨r',q1,q2⟩
  ·rcases Aj.1 q with q | q
   ·exact .inl q
   ·rw[Bh.1 q];exact .inr ⟨r,zw,rfl⟩
  ·exact .inr ⟨r',by simp[q1],q2⟩
abbrev CZ:ByteArray:=⟨#[116,105,109,101]⟩
def Ym9 {fs:List Fc}{x y:Fc}(h:y∈(TI fs x).2):y∈fs\/y=x:=by
 unfold TI at h;split at h
 ·exact .inl h
 ·split at h
  ·exact .inl h
  ·exact(Aj.1 h).imp id Bh.1
def Yna {fs:List Fc}{x y:Fc}(h:y∈fs):y∈(TI fs x).2:=by
 unfold TI;split
 ·exact h
 ·split
  ·exact h
  ·exact Md _ h
structure TmF (P:Fc->Prop):Prop where
 one:P (CZ,[0])
 all: ∀ x,P x->x.1=CZ->x=(CZ,[0])
def BF.bE: ∀ (l:List A) {st:List Fc×List T},BF v st.2->TmF (·∈st.1)->(∀ a,a∈l->GdA a/\a.name≠CZ)->BF v (l.foldl QC st).2/\TmF (·∈(l.foldl QC st).1)
 | [],_,h,k,_=>⟨h,k⟩
 | a::l,st,h,k,ha=>BF.bE l (st:=QC st a) (BF.pat a.terms h (ha a zw).1) ⟨Yna k.one,fun x hx e=>by
  rcases Ym9 hx with q | rfl
  ·exact k.all x q e
  ·exact absurd e (ha a zw).2⟩ fun y hy=>ha y (by simp[hy])
def TmF.fn {bs:List BD}{P:Fc->Prop}(h:TmF P)(hb: ∀ b,b∈bs->b.hd.1≠CZ): ∀ k,TmF (Fn bs vs P k)
 | 0=>h
 | k+1=>⟨.inl (h.fn hb k).one,fun x hx e=>by
  rcases hx with hx | ⟨b,hb',σ,_,rfl⟩
  ·exact(h.fn hb k).all x hx e
  ·exact absurd e<|hb b hb'⟩
def WE.date (h:Gq c):WE (.mk 5 c ⟨#[]⟩ []):=⟨by rw[qd];rfl,h,fun y hy=>by cases hy⟩
structure kC (b:Bk):Prop where
 fs: ∀ a,a∈b.facts->GdA a/\a.name≠CZ
 rs: ∀ r,r∈b.rules->GdR r/\r.head.name≠CZ
def kC.world (h:kC b)(hc:Gq Aa):BF (.mk 5 Aa ⟨#[]⟩ []) (Vb (Ec Aa b).1 (Ec Aa b).2).1/\TmF (Uc (Ec Aa b).1 (Ec Aa b).2):=by
 obtain⟨h1,h2⟩:=BF.bE b.facts (st:=QC ([],[])<|rF Aa) (v:= .mk 5 Aa ⟨#[]⟩ []) ⟨fun x hx=>by
  rw[Bh.1 (show x∈[T.mk 5 Aa ⟨#[]⟩ []]from hx)];exact WE.date hc,rfl⟩ ⟨Bh.2 rfl,fun x hx _=>Bh.1 hx⟩ h.fs
 obtain⟨h3,h4⟩:=BF.bdys b.rules (st:=(_,[])) h1 fun r hr=>(h.rs r hr).1;refine⟨h3,h2.fn (fun x hx=>?_) 12⟩;rcases h4 x hx with q | ⟨r,q1,q2⟩
 ·cases q
 ·rw[q2];exact(h.rs r q1).2
def exV:T:= .mk 1 0 ⟨#[116]⟩ []
def bA (c:Int):R:=⟨⟨⟨#[]⟩,[]⟩,[⟨CZ,[exV]⟩],[⟨4,exV,.mk 5 c ⟨#[]⟩ []⟩]⟩
def C9 (c:Int):Bk:=⟨[],[],[[bA c]]⟩
def Ynb {P:Fc->Prop}(hv:BF (.mk 5 Aa ⟨#[]⟩ []) vs)(hP:TmF P)(hc:Gq c):jW P vs (bA c)↔Aa<=c:=by
 obtain⟨h1,h2⟩:=hv.num<|WE.date hc;have e1:(Jg vs<|bA c).1=Wz vs (.mk 5 c ⟨#[]⟩ []):=rfl;have e2:(Qh vs<|bA c).at_=[(CZ,[(⟨#[116]⟩,0)])]:=rfl;have e3:(Qh vs<|bA c).gs=[(4,(⟨#[116]⟩,0),(⟨#[]⟩,bS vs<|.mk 5 c ⟨#[]⟩ []))]:=rfl;have key:rQ (Wz vs<|.mk 5 c ⟨#[]⟩ []) 4 0 (bS vs<|.mk 5 c ⟨#[]⟩ [])=decide (Aa<=c):=by
  unfold rQ;rw[List.getD_eq_getElem?_getD,List.getD_eq_getElem?_getD,h1.fst,h2];simp[gZ,T.k,T.i];rfl
 unfold jW Yjq iM;rw[e1,e2,e3];constructor
 ·rintro⟨σ,q1,q2⟩;have q3:=hP.all _ (q1 _<|Bh.2 rfl) rfl;have q4:σ ⟨#[116]⟩=0:=by
   have q6:[P7 σ (⟨#[116]⟩,0)]=[0]:=congrArg Prod.snd q3;rw[P7,if_neg zu]at q6;exact(List.cons.inj q6).1
  have q5:=q2 _<|Bh.2 rfl;simp only[P7]at q5;rw[if_neg zu,if_pos zu,q4,key,decide_eq_true_iff]at q5;exact q5
 ·intro q;refine⟨fun _=>0,fun x hx=>?_,fun g hg=>?_⟩
  ·rw[Bh.1 hx];exact hP.one
  ·rw[Bh.1 hg];simp only[P7];rw[if_neg zu,if_pos zu,key,decide_eq_true_iff];exact q
def Ynd (h:kC b)(h1:Gq Aa)(h2:Gq c):(okW (Ec Aa b) [[bA c]]).1=true↔Aa<=c:=by
 obtain⟨k1,k2⟩:=h.world h1;have k3:=Ynb k1 k2 h2;rw[<- k3];unfold okW;have e:(Je (Uc (Ec Aa b).1 (Ec Aa b).2) (Vb (Ec Aa b).1 (Ec Aa b).2).1 [bA c]).1=true↔jW (Uc (Ec Aa b).1 (Ec Aa b).2) (Vb (Ec Aa b).1 (Ec Aa b).2).1 (bA c):=by
  unfold Je;split
  ·rename_i q;exact⟨fun _=>q,fun _=>rfl⟩
  ·rename_i q;exact⟨fun q'=>(by simp[Je]at q'),fun q'=>absurd q' q⟩
 rw[<- e];unfold Su;split
 ·rename_i q;exact⟨fun _=>q,fun _=>by simp[Su]⟩
 ·rename_i q;exact⟨fun q'=>(by simp at q'),fun q'=>absurd q' q⟩
def Ynf {bs:List Bk}{ps:List Dk}(h:kC b)(h1:Gq Aa)(h2:Gq c):(c<Aa->Ux Aa (b::bs++[C9 c]) ps≠6)/\(Aa<=c->Ux Aa (b::bs++[C9 c]) ps=Ux Aa (b::bs) ps):=by
 have e0:rY (Ec Aa b) (C9 c)=Ec Aa b:=by simp[rY,C9]
 have e1:JL Aa (b::bs++[C9 c])=JL Aa (b::bs)++[Ec Aa b]:=by
  rw[EC];simp only[JL,List.map_append,List.map_cons,List.map_nil,e0,EC]
 have hl:(JL Aa<|b::bs).length=(b::bs).length:=by simp[JL]
 have r:ZH Aa (b::bs++[C9 c])↔ZH Aa (b::bs):=by
  unfold ZH;rw[e1];refine⟨fun h y hy=>h y (Md _ hy),fun h y hy=>?_⟩;rcases Aj.1 hy with hy | hy
  ·exact h y hy
  ·rw[Bh.1 hy];exact h _ (by simp[JL])
 have p:fG Aa (b::bs++[C9 c])↔fG Aa (b::bs)/\Aa<=c:=by
  unfold fG;rw[e1,List.zip_append hl];refine⟨fun h'=>⟨fun z hz=>h' z (Md _ hz),(Ynd h h1 h2).1<|h' (Ec Aa b,C9 c)<|Vq _ zw⟩,fun h' z hz=>?_⟩;rcases Aj.1 hz with hz | hz
  ·exact h'.1 z hz
  ·simp only[List.zip_cons_cons,List.zip_nil_right,Bh]at hz;rw[hz];exact(Ynd h h1 h2).2 h'.2
 have a:jY Aa (b::bs++[C9 c]) ps↔jY Aa (b::bs) ps:=by
  unfold jY;constructor
  ·rintro⟨b',l,e,h⟩;rw[EC]at e;injection e with e1 _;subst e1;exact⟨b,bs,rfl,h⟩
  ·rintro⟨b',l,e,h⟩;injection e with e1 _;subst e1;exact⟨b,_,rfl,h⟩
 constructor
 ·intro q q'
  have:=(p.1 (wG.1 q').2.1).2
  omega
 ·intro q;have p':fG Aa (b::bs++[C9 c])↔fG Aa (b::bs):=p.trans<|and_iff_left q;unfold Ux;rw[propext r,propext p',propext a]
end Go.W
namespace Go.W
def Ync (c:Int):IU (C9 c)=0:=by rfl
def Yni (c:Int):(LM<|C9 c).size<=4000:=by
 have h:=qC<|TJ c;have h0:=qC 0;have h1:=qC 1;have h4:=qC 4;have hb: ∀ n,(b1 n).size=1:=fun _=>rfl;have e1:(⟨#[116]⟩:ByteArray).size=1:=rfl;have e4:(⟨#[116,105,109,101]⟩:ByteArray).size=4:=rfl;simp[LM,C9,bA,exV,BO,cat,Le,JI,Tc,C8,Em,hb,e1,e4];omega
def Ynk {c:Int}(h:Gq c):QA (C9 c):=by
 have hv:InT 3 exV:=⟨⟨zu,zu⟩,fun y hy=>by cases hy⟩;refine⟨fun a ha=>(by cases ha),fun r hr=>(by cases hr),fun l hl r hr=>?_⟩;rw[Bh.1 hl]at hr;rw[Bh.1 hr];refine⟨fun y hy=>(by cases hy),fun a ha y hy=>?_,fun g hg=>?_⟩
 ·rw[Bh.1 ha]at hy;rw[Bh.1 hy];exact hv
 ·rw[Bh.1 hg];exact⟨hv,h,fun y hy=>by cases hy⟩
end Go.W
namespace Go.P
variable {x:Bk}{c:Int}
def kC.of (h:IU x=0)(hi:QA x)(hf: ∀ a,a∈x.facts->a.name≠CZ)(hr: ∀ r,r∈x.rules->r.head.name≠CZ):kC x:=by
 have k:=kY.of h;refine⟨fun a ha=>⟨fun y hy=>⟨(k.fo a ha).ok y hy,hi.1 a ha y hy⟩,hf a ha⟩,fun r q=>⟨⟨fun y hy=>⟨(k.ro r q).ht y hy,(hi.2.1 r q).1 y hy⟩,fun a ha y hy=>⟨((k.ro r q).bt a ha).1 y hy,(hi.2.1 r q).2.1 a ha y hy⟩,fun g hg=>⟨⟨((k.ro r q).gt g hg).1,((hi.2.1 r q).2.2 g hg).1⟩,⟨((k.ro r q).gt g hg).2.1,((hi.2.1 r q).2.2 g hg).2⟩⟩⟩,hr r q⟩⟩
def Yng (c:Int):Ic (C9 c)=0:=by
 unfold Ic;rw[Ync,if_neg zu,if_neg (by have:=Yni c;omega)]
def Js.ex {key:ByteArray}(h:Js key x [])(hc:Gq c):Js key x [C9 c]:=⟨h.k,zw,fun y hy=>by
 rcases Ak.1 hy with rfl | hy
 ·exact h.all _<|List.mem_cons_self ..
 ·rw[Bh.1 hy];exact⟨Yng c,Ynk hc⟩⟩
def Ym2 (ids:List ByteArray)(Aa:Int)(bs:List Bk)(ps:List Dk):IQ [] ids Aa bs ps=Ux Aa bs ps:=by
 unfold IQ;rw[if_neg];intro h;obtain⟨t,_,h⟩:=jf.1 h;cases h
def Yne (h:kC x){Aa:Int}(h1:Gq c)(h2:Gq Aa)(ids ids':List ByteArray)(ps:List Dk):(Aa<c->IQ [] ids c [x,C9 Aa] ps≠6)/\(c<=Aa->IQ [] ids c [x,C9 Aa] ps=IQ [] ids' c [x] ps):=by
 rw[Ym2,Ym2];exact Ynf (bs:=[]) h h1 h2
end Go.P
