import Derived.Test.YtpmcefkhkkpnbaaGreatDoorW42
set_option linter.all false
set_option maxRecDepth 100000
set_option maxHeartbeats 8000000
open Go.Proofs Go.RowKit Go.W Tryz
namespace Go.W
def bB (x:T):Prop:=BR 0 x=0/\InT 3 x
def GdA (a:A):Prop:= ∀ x,x∈a.te->bB x
structure GdR (r:R):Prop where
 hd:GdA r.head
 bd: ∀ a,a∈r.body->GdA a
 gs: ∀ g,g∈r.gu->bB g.a/\bB g.b
def bB.inj {x y:T}(hx:bB x)(hy:bB y)(h:C8 x=C8 y):x=y:=by
 have h1:=Zrw 3 x lr hx.1 hx.2 [];have h2:=Zrw 3 y lr hy.1 hy.2 [];rw[h]at h1;exact(Prod.mk.inj<|Except.ok.inj<|h1.symm.trans h2).1
def Ynt (k:Ay): ∀ (l:List Ay) (i:Nat) {j:Nat},TP k l i=some j->i<=j/\l[j-i]?=some k
 | [],i,j,h=>by simp[TP]at h
 | y::l,i,j,h=>by
  rw[TP]at h;split at h
  ·rename_i e;injection h with h;subst h;exact⟨EO _,by rw[Nat.sub_self,e];rfl⟩
  ·obtain⟨h1,h2⟩:=Ynt k l (i+1) h;refine⟨zx,?_⟩;rw[show j-i=(j-(i+1))+1 by omega,List.getElem?_cons_succ];exact h2
def Yog {fs:List Fc}{x y:Fc}(h:y∈(TI fs x).2):y∈fs\/y=x:=by
 unfold TI at h;split at h
 .exact .inl h
 .split at h
  .exact .inl h
  .exact(Aj.1 h).imp id Bh.1
def Yoh {fs:List Fc}{x y:Fc}(h:y∈fs):y∈(TI fs x).2:=by
 unfold TI;split
 .exact h
 .split
  .exact h
  .exact Md _ h
section
variable {n:Ay}{c:bA}{t:T}{K:List A}{r:R}
def Yom (τ:Ay->T) (t:T):T:=if t.k=1 then τ t.t else t
def Ynb (τ:Ay->T) (a:A):A:=⟨a.name,a.te.map<|Yom τ⟩
def Yqh (r:R) (τ:Ay->T):Prop:= ∀ g,g∈r.gu->Ynm g.op (Yom τ g.a) (Yom τ g.b)=true
def Ynd (r:R) (K:List A) (h:A):Prop:= ∃ τ,(∀ a,a∈r.body->Ynb τ a∈K)/\Yqh r τ/\h=Ynb τ r.head
def AgT (c:bA) (τ:Ay->T):Prop:= ∀ x,x∈c->τ x.1=x.2
structure Ynw (c:bA):Prop where
 nd:(c.map (·.1)).Nodup
 gr: ∀ x,x∈c->x.2.k≠1
def Ym8: ∀ (c:bA),Ym5 n c=none↔n∉c.map (·.1)
 | []=>by simp[Ym5]
 | y::c=>by
  rw[Ym5,xp,Ak];by_cases h:y.1=n
  ·simp[h]
  ·rw[xd h,Ym8 c];simp[Ne.symm h]
def Ynr {v:T}: ∀ (c:bA),Ym5 n c=some v->(n,v)∈c
 | [],h=>by simp[Ym5]at h
 | y::c,h=>by
  rw[Ym5]at h;by_cases e:y.1=n
  ·rw[xj e]at h;injection h with h;rw[<- e,<- h];exact List.mem_cons_self
  ·rw[xd e]at h;exact wj _<|Ynr c h
def KnT (c:bA) (t:T):Prop:=t.k=1->t.t∈c.map (·.1)
def Ym2 {τ:Ay->T}(h:AgT c τ)(hk:KnT c t):BF c t=Yom τ t:=by
 unfold BF Yom;split
 .rename_i h1;cases e:Ym5 t.t c with
  | none=>exact absurd (hk h1) ((Ym8 c).1 e)
  | some v=>exact(h _<|Ynr c e).symm
 .rfl
def Yp2 (hk: ¬ KnT c t):BF c t=t/\t.k=1/\t.t∉c.map (·.1):=by
 unfold KnT at hk;have h1:t.k=1:=Classical.byContradiction fun q=>hk fun q'=>absurd q' q;have h2:t.t∉c.map (·.1):=fun q=>hk fun _=>q;refine⟨?_,h1,h2⟩;unfold BF;rw[xj h1,(Ym8 c).2 h2];rfl
def Ynw.sat (h:Ynw c): ∃ τ,AgT c τ:=by
 refine⟨fun n=>(Ym5 n c).getD (.mk 0 0 ⟨#[]⟩ []),fun x hx=>?_⟩;have nd:=h.nd;clear h;induction c with
 | nil=>cases hx
 | cons y c ih=>
  simp only[Ym5];obtain⟨n1,n2⟩:=List.nodup_cons.1 nd;rcases Ak.1 hx with rfl | hx
  .simp
  .have:y.1≠x.1:=fun e=>n1 (by show y.1∈_;rw[e];exact List.mem_map_of_mem hx)
   rw[xd this];exact ih hx n2
def Ynw.known (h:Ynw c)(hk:KnT c t):(BF c t).k≠1:=by
 unfold BF;split
 .rename_i h1;cases e:Ym5 t.t c with
  | none=>exact absurd (hk h1) ((Ym8 c).1 e)
  | some v=>exact h.gr _<|Ynr c e
 .assumption
def Yns: ∀ (ts fs:List T) (c:bA),ts.length=fs.length->Ynw c->(∀ f,f∈fs->f.k≠1)->(∀ c',Yoo c ts fs=some c'->Ynw c'/\(∀ τ,AgT c' τ↔AgT c τ/\ts.map (Yom τ)=fs)/\ ∀ n,n∈c'.map (·.1)↔n∈c.map (·.1)\/ ∃ t,t∈ts/\t.k=1/\t.t=n)/\(Yoo c ts fs=none-> ∀ τ,AgT c τ->ts.map (Yom τ)≠fs)
 | [],[],c,_,hc,_=>by simp[Yoo,hc]
 | [],_::_,_,h,_,_=>by simp at h
 | _::_,[],_,h,_,_=>by simp at h
 | t::ts,f::fs,c,h,hc,hf=>by
  have hl:ts.length=fs.length:=by simpa using h
  have hfs: ∀ x,x∈fs->x.k≠1:=fun x hx=>hf x (wj _ hx);rw[Yoo];by_cases hk:KnT c t
  .rw[xd<|hc.known hk];by_cases hv:BF c t=f
   .rw[xj hv];obtain⟨i1,i2⟩:=Yns ts fs c hl hc hfs;refine⟨fun c' hc'=>?_,fun hn τ hτ e=>?_⟩
    .obtain⟨j1,j2,j3⟩:=i1 c' hc';refine⟨j1,fun τ=>?_,fun n=>?_⟩
     .rw[j2 τ,xp,List.cons.injEq];constructor
      .rintro⟨q1,q2⟩;exact⟨q1,(Ym2 q1 hk).symm.trans hv,q2⟩
      .rintro⟨q1,_,q2⟩;exact⟨q1,q2⟩
     .rw[j3 n];constructor
      .rintro(q | ⟨y,q1,q2⟩)
       .exact .inl q
       .exact .inr ⟨y,wj _ q1,q2⟩
      .rintro(q | ⟨y,q1,q2,q3⟩)
       .exact .inl q
       .rcases Ak.1 q1 with rfl | q1
        .exact .inl<|q3▸hk q2
        .exact .inr ⟨y,q1,q2,q3⟩
    .rw[xp,List.cons.injEq]at e;exact i2 hn τ hτ e.2
   .rw[xd hv];refine⟨fun c' hc'=>(by cases hc'),fun _ τ hτ e=>?_⟩;rw[xp,List.cons.injEq]at e;exact hv<|(Ym2 hτ hk).trans e.1
  .obtain⟨v1,v2,v3⟩:=Yp2 hk;rw[v1,xj v2];have hc':Ynw (c++[(t.t,f)]):=by
    refine⟨?_,fun x hx=>?_⟩
    .rw[wb,Mc];exact⟨hc.nd,zw,fun a ha b hb e=>v3 (by simp at hb;rw[<- hb,<- e];exact ha)⟩
    .rcases Aj.1 hx with hx | hx
     .exact hc.gr x hx
     .rw[Bh.1 hx];exact hf f List.mem_cons_self
   have hA: ∀ τ,AgT (c++[(t.t,f)]) τ↔AgT c τ/\Yom τ t=f:=fun τ=>by
    unfold AgT Yom;rw[xj v2];simp[or_imp,forall_and]
   obtain⟨i1,i2⟩:=Yns ts fs _ hl hc' hfs;refine⟨fun c' hc'=>?_,fun hn τ hτ e=>?_⟩
   .obtain⟨j1,j2,j3⟩:=i1 c' hc';refine⟨j1,fun τ=>?_,fun n=>?_⟩
    .rw[j2 τ,hA τ,xp,List.cons.injEq,and_assoc]
    .rw[j3 n,wb,Aj];simp only[xp,List.map_nil,Ak,Lj,or_false];constructor
     .rintro((q | q) | ⟨y,q1,q2⟩)
      .exact .inl q
      .exact .inr ⟨t,.inl rfl,v2,q.symm⟩
      .exact .inr ⟨y,.inr q1,q2⟩
     .rintro(q | ⟨y,rfl | q1,q2,q3⟩)
      .exact .inl<|.inl q
      .exact .inl<|.inr q3.symm
      .exact .inr ⟨y,q1,q2,q3⟩
   .rw[xp,List.cons.injEq]at e;exact i2 hn τ ((hA τ).2 ⟨hτ,e.1⟩) e.2
def Yoj {a f:A}(hc:Ynw c)(hf: ∀ t,t∈f.te->t.k≠1):(∀ c',Yny a f c=some c'->Ynw c'/\(∀ τ,AgT c' τ↔AgT c τ/\Ynb τ a=f)/\ ∀ n,n∈c'.map (·.1)↔n∈c.map (·.1)\/ ∃ t,t∈a.te/\t.k=1/\t.t=n)/\(Yny a f c=none-> ∀ τ,AgT c τ->Ynb τ a≠f):=by
 unfold Yny;split
 .rename_i h;obtain⟨i1,i2⟩:=Yns a.te f.te c h.2 hc hf;refine⟨fun c' hc'=>?_,fun hn τ hτ e=>i2 hn τ hτ (congrArg A.te e)⟩;obtain⟨j1,j2,j3⟩:=i1 c' hc';refine⟨j1,fun τ=>(j2 τ).trans (and_congr_right fun _=>⟨fun e=>?_,fun e=>congrArg A.te e⟩),j3⟩;unfold Ynb;rw[e,h.1]
 .rename_i h;refine⟨fun c' hc'=>(by cases hc'),fun _ τ _ e=>h ?_⟩;subst e;simp[Ynb]
def Yn5 (hK: ∀ f,f∈K-> ∀ t,t∈f.te->t.k≠1): ∀ (l:List A) (c:bA),Ynw c->(∀ t,t.k=1->((∃ g,g∈r.gu/\(t=g.a\/t=g.b))\/t∈r.head.te)->t.t∈c.map (·.1)\/ ∃ a,a∈l/\ ∃ y,y∈a.te/\y.k=1/\y.t=t.t)-> ∀ h,h∈Ynq K r l c↔ ∃ τ,AgT c τ/\(∀ a,a∈l->Ynb τ a∈K)/\Yqh r τ/\h=Ynb τ r.head
 | [],c,hc,hb,h=>by
  have kn: ∀ t,((∃ g,g∈r.gu/\(t=g.a\/t=g.b))\/t∈r.head.te)->KnT c t:=fun t ht h1=>by
   rcases hb t h1 ht with q | ⟨a,q,_⟩
   ·exact q
   ·cases q
  have e1: ∀ τ,AgT c τ->(Ype r c=true↔Yqh r τ):=fun τ hτ=>by
   unfold Ype Yqh;rw[SI];exact forall_congr' fun g=>forall_congr' fun hg=>by rw[Ym2 hτ<|kn g.a<|.inl ⟨g,hg,.inl rfl⟩,Ym2 hτ<|kn g.b<|.inl ⟨g,hg,.inr rfl⟩]
  have e2: ∀ τ,AgT c τ->hdE r c=Ynb τ r.head:=fun τ hτ=>by
   unfold hdE Ynb;congr 1
   exact List.map_congr_left fun t ht=>Ym2 hτ (kn t<|.inr ht)
  rw[Ynq];constructor
  ·intro q;obtain⟨τ,hτ⟩:=hc.sat
   split at q
   ·rename_i q1;exact⟨τ,hτ,fun _ q=>(by cases q),(e1 τ hτ).1 q1,(Bh.1 q).trans<|e2 τ hτ⟩
   ·cases q
  ·rintro⟨τ,hτ,_,q1,q2⟩;rw[xj<|(e1 τ hτ).2 q1,q2,e2 τ hτ];exact Bh.2 rfl
 | a::l,c,hc,hb,h=>by
  rw[Ynq,List.mem_flatMap];constructor
  ·rintro⟨f,hf,q⟩;obtain⟨i1,_⟩:=Yoj (a:=a) hc<|hK f hf;cases e:Yny a f c with
   | none=>rw[e]at q;cases q
   | some c'=>
    rw[e]at q;obtain⟨j1,j2,j3⟩:=i1 c' e;obtain⟨τ,t1,t2,t3⟩:=(Yn5 hK l c' j1 (fun t h1 h2=>by
     rw[j3];rcases hb t h1 h2 with q | ⟨b,q1,y,q2,q3,q4⟩
     ·exact .inl<|.inl q
     ·rcases Ak.1 q1 with rfl | q1
      ·exact .inl<|.inr ⟨y,q2,q3,q4⟩
      ·exact .inr ⟨b,q1,y,q2,q3,q4⟩) h).1 q
    have:=(j2 τ).1 t1
    refine⟨τ,this.1,fun b hb=>?_,t3⟩;rcases Ak.1 hb with rfl | hb
    ·rw[this.2];exact hf
    ·exact t2 b hb
  ·rintro⟨τ,t1,t2,t3⟩;refine⟨Ynb τ a,t2 a List.mem_cons_self,?_⟩;obtain⟨i1,i2⟩:=Yoj (a:=a) hc<|hK _<|t2 a List.mem_cons_self;cases e:Yny a (Ynb τ a) c with
   | none=>exact absurd rfl (i2 e τ t1)
   | some c'=>
    obtain⟨j1,j2,j3⟩:=i1 c' e;exact(Yn5 hK l c' j1 (fun t h1 h2=>by
     rw[j3];rcases hb t h1 h2 with q | ⟨b,q1,y,q2,q3,q4⟩
     ·exact .inl<|.inl q
     ·rcases Ak.1 q1 with rfl | q1
      ·exact .inl<|.inr ⟨y,q2,q3,q4⟩
      ·exact .inr ⟨b,q1,y,q2,q3,q4⟩) h).2 ⟨τ,(j2 τ).2 ⟨t1,rfl⟩,fun b hb=>t2 b (wj _ hb),t3⟩
def Jj.heads (hr:Jj r)(hK: ∀ f,f∈K-> ∀ t,t∈f.te->t.k≠1)(h:A):h∈Ynq K r r.body []↔Ynd r K h:=by
 rw[Yn5 hK r.body [] ⟨List.nodup_nil,fun _ q=>by cases q⟩ fun t h1 h2=>?_]
 .exact exists_congr fun τ=>and_iff_right fun _ q=>by cases q
 .right
  rcases h2 with⟨g,hg,rfl | rfl⟩ | ht
  .exact(Ztd (hr.gb g hg).1 (Bh.2 rfl) h1).imp fun a ⟨y,q1,q2⟩=>⟨q1,y,q2⟩
  .exact(Ztd (hr.gb g hg).2 (Bh.2 rfl) h1).imp fun a ⟨y,q1,q2⟩=>⟨q1,y,q2⟩
  .exact(Ztd hr.hb ht h1).imp fun a ⟨y,q1,q2⟩=>⟨q1,y,q2⟩
end
def AtF (V:List T) (f:Fc) (a:A):Prop:=f.1=a.name/\f.2.map (fun k=>V[k]?)=a.te.map some
variable {vs V:List T}{i:Nat}{x:T}{σ:Ay->Nat}{τ:Ay->T}{a b:A}{r:R}{K:List A}
structure C9 (vs:List T):Prop where
 all: ∀ x,x∈vs->bB x
 nd:(vs.map C8).Nodup
 gr: ∀ x,x∈vs->x.k≠1
def C9.inj (h:C9 vs){j:Nat}(hi:vs[i]?=some x)(hj:vs[j]?=some x):i=j:=
 (List.getElem?_inj (by rw[Dj];exact(DW.1 hi).1) h.nd).1 (by rw[FK,FK,hi,hj])
def Ynu (k:Ay): ∀ (l:List Ay) (i:Nat),TP k l i=none->k∉l
 | [],_,_=>zw
 | y::l,i,h=>by
  rw[TP]at h;split at h
  ·cases h
  ·rename_i e;rw[Ak,not_or];exact⟨e,Ynu k l (i+1) h⟩
def Yp8 (h:vs <+:V)(hx:vs[i]?=some x):V[i]?=some x:=by
 obtain⟨t,rfl⟩:=h;rw[PK (DW.1 hx).1];exact hx
def C9.num (h:C9 vs)(hx:bB x)(hk:x.k≠1):C9 (Wz vs x)/\(Wz vs x)[bS vs x]?=some x/\vs <+:Wz vs x:=by
 unfold Wz bS;cases e:TP (C8 x) (vs.map C8) 0 with
 | none=>
  refine⟨⟨fun y hy=>?_,?_,fun y hy=>?_⟩,?_,?_⟩
  .rcases Aj.1 hy with hy | hy
   .exact h.all y hy
   .rw[Bh.1 hy];exact hx
  .show((vs++[x]).map C8).Nodup;rw[wb,Mc];exact⟨h.nd,zw,fun a ha b hb q=>Ynu _ _ _ e (by simp at hb;rw[<- hb,<- q];exact ha)⟩
  .rcases Aj.1 hy with hy | hy
   .exact h.gr y hy
   .rw[Bh.1 hy];exact hk
  .show(vs++[x])[vs.length]?=_;simp
  .exact List.prefix_append _ _
 | some j=>
  refine⟨h,?_,List.prefix_refl _⟩;obtain⟨_,h2⟩:=Ynt _ _ _ e;rw[Nat.sub_zero,FK]at h2;show vs[j]?=some x;cases hy:vs[j]? with
  | none=>rw[hy]at h2;cases h2
  | some y=>
   rw[hy]at h2;injection h2 with h2;rw[bB.inj (h.all y<|Ej hy) hx h2]
def C9.slot (h:C9 vs)(hx:bB x):C9 (Eb vs x)/\vs <+:Eb vs x:=by
 unfold Eb;split
 .exact⟨h,List.prefix_refl _⟩
 .rename_i q;exact⟨(h.num hx q).1,(h.num hx q).2.2⟩
def C9.pat: ∀ (xs:List T) {vs:List T},C9 vs->(∀ x,x∈xs->bB x)->C9 (Cc vs xs).2/\vs <+:(Cc vs xs).2
 | [],_,h,_=>⟨h,List.prefix_refl _⟩
 | x::xs,_,h,hx=>by
  obtain⟨h1,h2⟩:=h.slot<|hx x zw;obtain⟨h3,h4⟩:=C9.pat xs h1 fun y hy=>hx y (by simp[hy]);exact⟨h3,h2.trans h4⟩
def Yna (V:List T) (σ:Ay->Nat) (τ:Ay->T) (t:T):Prop:=t.k=1->V[σ t.t]?=some (τ t.t)
def Ynn (h:C9 vs){t:T}(ht:bB t)(hp:Eb vs t <+:V)(hv:Yna V σ τ t):V[P7 σ<|Dw vs t]?=some (Yom τ t):=by
 unfold Eb at hp;unfold Dw P7 Yom;by_cases hk:t.k=1
 .have hz: ¬ t.t.size=0:=fw ((Ydv ht.1 hk).1)
  simp only[xj hk,xd hz];exact hv hk
 .rw[xd hk]at hp;simp only[xd hk];rw[xj (show(ByteArray.mk #[]).size=0 from rfl)];exact Yp8 hp (h.num ht hk).2.1
def Yos: ∀ (ts:List T) {vs:List T},C9 vs->(∀ t,t∈ts->bB t)->(Cc vs ts).2 <+:V->(∀ t,t∈ts->Yna V σ τ t)->(Cc vs ts).1.map (fun s=>V[P7 σ s]?)=ts.map fun t=>some (Yom τ t)
 | [],_,_,_,_,_=>rfl
 | t::ts,vs,h,ht,hp,hv=>by
  obtain⟨h1,h2⟩:=h.slot<|ht t zw;obtain⟨h3,h4⟩:=C9.pat ts h1 fun y hy=>ht y (by simp[hy]);rw[Cc,xp,xp,Ynn h (ht t zw) (h4.trans hp)<|hv t zw,Yos ts h1 (fun y hy=>ht y (by simp[hy])) hp fun y hy=>hv y (by simp[hy])]
def Yo4 (hV:C9 V)(hσ: ∀ n i,V[i]?=some (τ n)->σ n=i): ∀ (ts:List T) {vs:List T} (ks:Cg),C9 vs->(∀ t,t∈ts->bB t)->(Cc vs ts).2 <+:V->ks.map (fun k=>V[k]?)=ts.map (fun t=>some (Yom τ t))->(Cc vs ts).1.map (P7 σ)=ks/\ ∀ t,t∈ts->Yna V σ τ t
 | [],_,ks,_,_,_,hk=>by
  have:ks=[]:=by simpa using hk
  subst this;exact⟨rfl,fun _ q=>by cases q⟩
 | t::ts,vs,[],_,_,_,hk=>by simp at hk
 | t::ts,vs,k::ks,h,ht,hp,hk=>by
  obtain⟨h1,h2⟩:=h.slot<|ht t zw;obtain⟨h3,h4⟩:=C9.pat ts h1 fun y hy=>ht y (by simp[hy]);rw[xp,xp,List.cons.injEq]at hk;obtain⟨i1,i2⟩:=Yo4 hV hσ ts ks h1 (fun y hy=>ht y (by simp[hy])) hp hk.2;have hv:Yna V σ τ t:=fun q=>by
   have e:=hk.1;unfold Yom at e;rw[xj q]at e;rw[hσ _ _ e];exact e
  refine⟨?_,fun y hy=>?_⟩
  .rw[Cc,xp,i1,hV.inj (Ynn h (ht t zw) (h4.trans hp) hv) hk.1]
  .rcases Ak.1 hy with rfl | hy
   .exact hv
   .exact i2 y hy
def Yph (hV:C9 V): ∀ {ks js:Cg} {ts:List T},ks.map (fun k=>V[k]?)=ts.map some->js.map (fun k=>V[k]?)=ts.map some->ks=js
 | [],[],_,_,_=>rfl
 | [],_::_,[],_,h=>by simp at h
 | [],_::_,_::_,h,_=>by simp at h
 | _::_,[],[],h,_=>by simp at h
 | _::_,[],_::_,_,h=>by simp at h
 | _::_,_::_,[],h,_=>by simp at h
 | k::ks,j::js,t::ts,h1,h2=>by
  simp only[xp,List.cons.injEq]at h1 h2;rw[hV.inj h1.1 h2.1,Yph hV h1.2 h2.2]
def AtF.fc (hV:C9 V){f g:Fc}(h1:AtF V f a)(h2:AtF V g a):f=g:=Prod.ext (h1.1.trans h2.1.symm)<|Yph hV h1.2 h2.2
def Yoi {ts us:List T}(h:ts.map some=us.map some):ts=us:=by
 have:=congrArg (List.filterMap id) h
 simpa[List.filterMap_map]using this
def A.ext (h1:a.name=b.name)(h2:a.te=b.te):a=b:=by
 cases a;cases b;simp at h1 h2;rw[h1,h2]
def AtF.atom {f:Fc}(h1:AtF V f a)(h2:AtF V f b):a=b:=A.ext (h1.1.symm.trans h2.1)<|Yoi<|h1.2.symm.trans h2.2
def Yn0 (V:List T) (a:A) (p:Pt):Prop:=p.1=a.name/\GdA a/\ ∃ vs,C9 vs/\(Cc vs a.te).2 <+:V/\p.2=(Cc vs a.te).1
def Yqo (V:List T) (t:T) (s:Sl):Prop:=bB t/\ ∃ vs,C9 vs/\Eb vs t <+:V/\s=Dw vs t
def Yp5 (V:List T) (g:G) (q:Gt):Prop:=q.1=g.op.toNat/\Yqo V g.a q.2.1/\Yqo V g.b q.2.2
structure Ync (V:List T) (r:R) (b:BD):Prop where
 hd:Yn0 V r.head b.hd
 a1: ∀ a,a∈r.body-> ∃ p,p∈b.at_/\Yn0 V a p
 a2: ∀ p,p∈b.at_-> ∃ a,a∈r.body/\Yn0 V a p
 g1: ∀ g,g∈r.gu-> ∃ q,q∈b.gs/\Yp5 V g q
 g2: ∀ q,q∈b.gs-> ∃ g,g∈r.gu/\Yp5 V g q
def Yo0: ∀ (l:List A) {st:List T×List Pt},C9 st.1->(∀ a,a∈l->GdA a)->C9 (l.foldl Jv st).1/\st.1 <+:(l.foldl Jv st).1/\ ∀ V,(l.foldl Jv st).1 <+:V->(∀ p,p∈st.2->p∈(l.foldl Jv st).2)/\(∀ a,a∈l-> ∃ p,p∈(l.foldl Jv st).2/\Yn0 V a p)/\ ∀ p,p∈(l.foldl Jv st).2->p∈st.2\/ ∃ a,a∈l/\Yn0 V a p
 | [],_,h,_=>⟨h,List.prefix_refl _,fun _ _=>⟨fun _ q=>q,fun _ q=>(by cases q),fun _ q=> .inl q⟩⟩
 | a::l,st,h,ha=>by
  obtain⟨h1,h2⟩:=C9.pat a.te h<|ha a zw;obtain⟨h3,h4,h5⟩:=Yo0 l (st:=Jv st a) h1 fun y hy=>ha y (by simp[hy]);refine⟨h3,h2.trans h4,fun V hV=>?_⟩;obtain⟨k1,k2,k3⟩:=h5 V hV;have hp:Yn0 V a (a.name,(Cc st.1 a.te).1):=⟨rfl,ha a zw,st.1,h,h4.trans hV,rfl⟩;refine⟨fun p q=>k1 p (Md _ q),fun b hb=>?_,fun p q=>?_⟩
  ·rcases Ak.1 hb with rfl | hb
   ·exact⟨_,k1 _<|Vq _<|Bh.2 rfl,hp⟩
   ·exact k2 b hb
  ·rcases k3 p q with q | ⟨b,q1,q2⟩
   ·rcases Aj.1 q with q | q
    ·exact .inl q
    ·rw[Bh.1 q];exact .inr ⟨a,zw,hp⟩
   ·exact .inr ⟨b,by simp[q1],q2⟩
def Yoz: ∀ (l:List G) {st:List T×List Gt},C9 st.1->(∀ g,g∈l->bB g.a/\bB g.b)->C9 (l.foldl Ld st).1/\st.1 <+:(l.foldl Ld st).1/\ ∀ V,(l.foldl Ld st).1 <+:V->(∀ p,p∈st.2->p∈(l.foldl Ld st).2)/\(∀ a,a∈l-> ∃ p,p∈(l.foldl Ld st).2/\Yp5 V a p)/\ ∀ p,p∈(l.foldl Ld st).2->p∈st.2\/ ∃ a,a∈l/\Yp5 V a p
 | [],_,h,_=>⟨h,List.prefix_refl _,fun _ _=>⟨fun _ q=>q,fun _ q=>(by cases q),fun _ q=> .inl q⟩⟩
 | a::l,st,h,ha=>by
  obtain⟨g1,g2⟩:=ha a zw;obtain⟨h1,h2⟩:=h.slot g1;obtain⟨eu,h2'⟩:=h1.slot g2;obtain⟨h3,h4,h5⟩:=Yoz l (st:=Ld st a) eu fun y hy=>ha y (by simp[hy]);refine⟨h3,(h2.trans h2').trans h4,fun V hV=>?_⟩;obtain⟨k1,k2,k3⟩:=h5 V hV;have hp:Yp5 V a (a.op.toNat,Dw st.1 a.a,Dw (Eb st.1 a.a) a.b):=⟨rfl,⟨g1,st.1,h,h2'.trans<|h4.trans hV,rfl⟩,g2,_,h1,h4.trans hV,rfl⟩;refine⟨fun p q=>k1 p (Md _ q),fun b hb=>?_,fun p q=>?_⟩
  ·rcases Ak.1 hb with rfl | hb
   ·exact⟨_,k1 _<|Vq _<|Bh.2 rfl,hp⟩
   ·exact k2 b hb
  ·rcases k3 p q with q | ⟨b,q1,q2⟩
   ·rcases Aj.1 q with q | q
    ·exact .inl q
    ·rw[Bh.1 q];exact .inr ⟨a,zw,hp⟩
   ·exact .inr ⟨b,by simp[q1],q2⟩
def Yp6 (h:C9 vs)(hr:GdR r):C9 (Jg vs r).1/\vs <+:(Jg vs r).1/\ ∀ V,(Jg vs r).1 <+:V->Ync V r (Qh vs r):=by
 obtain⟨h1,h2⟩:=C9.pat r.head.te h hr.hd;obtain⟨h3,h4,h5⟩:=Yo0 r.body (st:=((Cc vs r.head.te).2,[])) h1 hr.bd;obtain⟨h6,h7,h8⟩:=Yoz r.gu (st:=((O6 vs r).1,[])) h3 hr.gs;refine⟨h6,h2.trans<|h4.trans h7,fun V hV=>?_⟩;obtain⟨_,k1,k2⟩:=h5 V<|h7.trans hV;obtain⟨_,k3,k4⟩:=h8 V hV;exact⟨⟨rfl,hr.hd,vs,h,h4.trans<|h7.trans hV,rfl⟩,k1,fun p q=>(k2 p q).resolve_left zw,k3,fun p q=>(k4 p q).resolve_left zw⟩
def Yn2: ∀ (rs:List R) {st:List T×List BD},C9 st.1->(∀ r,r∈rs->GdR r)->C9 (rs.foldl Xz st).1/\st.1 <+:(rs.foldl Xz st).1/\ ∀ V,(rs.foldl Xz st).1 <+:V->(∀ b,b∈st.2->b∈(rs.foldl Xz st).2)/\(∀ r,r∈rs-> ∃ b,b∈(rs.foldl Xz st).2/\Ync V r b)/\ ∀ b,b∈(rs.foldl Xz st).2->b∈st.2\/ ∃ r,r∈rs/\Ync V r b
 | [],_,h,_=>⟨h,List.prefix_refl _,fun _ _=>⟨fun _ q=>q,fun _ q=>(by cases q),fun _ q=> .inl q⟩⟩
 | r::rs,st,h,hr=>by
  obtain⟨h1,h2,h0⟩:=Yp6 h<|hr r zw;obtain⟨h3,h4,h5⟩:=Yn2 rs (st:=Xz st r) h1 fun y hy=>hr y (by simp[hy]);refine⟨h3,h2.trans h4,fun V hV=>?_⟩;obtain⟨k1,k2,k3⟩:=h5 V hV;have hp:=h0 V<|h4.trans hV;refine⟨fun p q=>k1 p (Md _ q),fun b hb=>?_,fun p q=>?_⟩
  ·rcases Ak.1 hb with rfl | hb
   ·exact⟨_,k1 _<|Vq _<|Bh.2 rfl,hp⟩
   ·exact k2 b hb
  ·rcases k3 p q with q | ⟨b,q1,q2⟩
   ·rcases Aj.1 q with q | q
    ·exact .inl q
    ·rw[Bh.1 q];exact .inr ⟨r,zw,hp⟩
   ·exact .inr ⟨b,by simp[q1],q2⟩
def Yn0.rel {p:Pt}(h:Yn0 V a p)(hv: ∀ t,t∈a.te->Yna V σ τ t):AtF V (JM σ p) (Ynb τ a):=by
 obtain⟨h1,h2,vs,h3,h4,h5⟩:=h;refine⟨h1,?_⟩
 have:=Yos a.te h3 h2 h4 hv
 unfold JM Ynb;rw[List.map_map,List.map_map,h5];exact this
def Yp5.held (hV:C9 V){g:G}{q:Gt}(h:Yp5 V g q)(ha:Yna V σ τ g.a)(hb:Yna V σ τ g.b):rQ V q.1 (P7 σ q.2.1) (P7 σ q.2.2)=Ynm g.op (Yom τ g.a) (Yom τ g.b):=by
 obtain⟨h1,⟨a1,va,a2,a3,a4⟩,b1,vb,b2,b3,b4⟩:=h;have e1:=Ynn a2 a1 a3 ha;have e2:=Ynn b2 b1 b3 hb;rw[<- a4]at e1;rw[<- b4]at e2;unfold rQ Ynm;rw[xr,xr,e1,e2,h1];simp only[Option.getD_some];congr 1
 rw[decide_eq_decide];exact⟨fun e=>by rw[e,e2]at e1;exact(Gw e1).symm,fun e=>hV.inj e1 (e▸e2)⟩
def Yow (hr:Jj r)(hv: ∀ a,a∈r.body-> ∀ t,t∈a.te->Yna V σ τ t):(∀ t,t∈r.head.te->Yna V σ τ t)/\ ∀ g,g∈r.gu->Yna V σ τ g.a/\Yna V σ τ g.b:=by
 have key: ∀ (l:List T) t,ET l r.body=true->t∈l->Yna V σ τ t:=fun l t hb ht hk=>by
  obtain⟨a,y,q1,q2,q3,q4⟩:=Ztd hb ht hk;rw[<- q4];exact hv a q1 y q2 q3
 exact⟨fun t ht=>key _ t hr.hb ht,fun g hg=>⟨key _ _ (hr.gb g hg).1<|Bh.2 rfl,key _ _ (hr.gb g hg).2<|Bh.2 rfl⟩⟩
def Ync.fwd (hV:C9 V){b:BD}(hb:Ync V r b)(hr:Jj r){P:Fc->Prop}(hP: ∀ f,P f-> ∃ a,a∈K/\AtF V f a){x:Fc}(h:TG b V P x): ∃ y,Ynd r K y/\AtF V x y:=by
 obtain⟨σ,⟨w1,w2⟩,rfl⟩:=h;have hv: ∀ a,a∈r.body-> ∀ t,t∈a.te->Yna V σ (fun n=>(V[σ n]?).getD (.mk 0 0 ⟨#[]⟩ [])) t:=fun a ha t ht hk=>by
  obtain⟨p,p1,p2,p3,vs,p4,p5,p6⟩:=hb.a1 a ha;obtain⟨c,_,_,c2⟩:=hP _<|w1 p p1;have hz:(t.t,0)∈p.2:=by rw[p6];exact Z3i _ _ ht hk
  have hs: ¬ t.t.size=0:=fw ((Ydv (p3 t ht).1 hk).1)
  have hm:V[σ t.t]?∈c.te.map some:=by
   rw[<- c2];exact List.mem_map.2 ⟨σ t.t,List.mem_map.2 ⟨_,hz,by unfold P7;rw[xd hs]⟩,rfl⟩
  obtain⟨u,_,hu⟩:=List.mem_map.1 hm;show V[σ t.t]?=some ((V[σ t.t]?).getD<|.mk 0 0 ⟨#[]⟩ []);rw[<- hu];rfl
 obtain⟨hh,hg⟩:=Yow hr hv;refine⟨_,⟨_,fun a ha=>?_,fun g uB=>?_,rfl⟩,hb.hd.rel hh⟩
 .obtain⟨p,p1,p2⟩:=hb.a1 a ha;obtain⟨c,c1,c2⟩:=hP _<|w1 p p1;rw[(p2.rel<|hv a ha).atom c2];exact c1
 .obtain⟨q,q1,q2⟩:=hb.g1 g uB;rw[<- q2.held hV (hg g uB).1 (hg g uB).2];exact w2 q q1
def Ync.bwd (hV:C9 V){b:BD}(hb:Ync V r b)(hr:Jj r){P:Fc->Prop}(hK: ∀ a,a∈K-> ∃ f,P f/\AtF V f a){y:A}(h:Ynd r K y): ∃ x,TG b V P x/\AtF V x y:=by
 obtain⟨τ,w1,w2,rfl⟩:=h;obtain⟨σ,hσ⟩: ∃ σ:Ay->Nat,∀ n i,V[i]?=some (τ n)->σ n=i:=by
  classical
  refine⟨fun n=>if h: ∃ i,V[i]?=some (τ n)then h.choose else 0,fun n i hi=>?_⟩;have h: ∃ i,V[i]?=some (τ n):=⟨i,hi⟩;simp only[dif_pos h];exact hV.inj h.choose_spec hi
 have key: ∀ a p,a∈r.body->Yn0 V a p->(∀ t,t∈a.te->Yna V σ τ t)/\P (JM σ p):=fun a p ha hp=>by
  obtain⟨f,f1,f2,f3⟩:=hK _<|w1 a ha;obtain⟨h1,h2,vs,h3,h4,h5⟩:=hp;obtain⟨k1,k2⟩:=Yo4 hV hσ a.te f.2 h3 h2 h4 (by rw[f3];unfold Ynb;rw[List.map_map];rfl);refine⟨k2,?_⟩
  have:JM σ p=f:=Prod.ext (h1.trans f2.symm) (by unfold JM;rw[h5];exact k1)
  rw[this];exact f1
 have hv: ∀ a,a∈r.body-> ∀ t,t∈a.te->Yna V σ τ t:=fun a ha=>by
  obtain⟨p,_,p2⟩:=hb.a1 a ha;exact(key a p ha p2).1
 obtain⟨hh,hg⟩:=Yow hr hv;refine⟨_,⟨σ,⟨fun p hp=>?_,fun q hq=>?_⟩,rfl⟩,hb.hd.rel hh⟩
 .obtain⟨a,a1,a2⟩:=hb.a2 p hp;exact(key a p a1 a2).2
 .obtain⟨g,g1,g2⟩:=hb.g2 q hq;rw[g2.held hV (hg g g1).1 (hg g g1).2];exact w2 g g1
structure Yno (fs:List A) (rs:List R) (l:List A):Prop where
 has: ∀ a,a∈fs->a∈l
 closed: ∀ r,r∈rs-> ∀ y,Ynd r l y->y∈l
 Yjy: ∀ K:List A,(∀ a,a∈fs->a∈K)->(∀ r,r∈rs-> ∀ y,Ynd r K y->y∈K)-> ∀ a,a∈l->a∈K
def You: ∀ (l:List A) {st:List Fc×List T},C9 st.2->(∀ a,a∈l->GdA a/\Rz a)->(∀ V,st.2 <+:V-> ∀ f,f∈st.1-> ∃ a,AtF V f a)->st.1.length+l.length<=60->C9 (l.foldl QC st).2/\st.2 <+:(l.foldl QC st).2/\ ∀ V,(l.foldl QC st).2 <+:V->(∀ f,f∈st.1->f∈(l.foldl QC st).1)/\(∀ a,a∈l-> ∃ f,f∈(l.foldl QC st).1/\AtF V f a)/\ ∀ f,f∈(l.foldl QC st).1->f∈st.1\/ ∃ a,a∈l/\AtF V f a
 | [],_,h,_,_,_=>⟨h,List.prefix_refl _,fun _ _=>⟨fun _ q=>q,fun _ q=>(by cases q),fun _ q=> .inl q⟩⟩
 | a::l,st,h,ha,hs,hl=>by
  obtain⟨g1,g2⟩:=ha a zw;obtain⟨h1,h2⟩:=C9.pat a.te h g1;have Pn: ∀ t,t∈a.te->t.k≠1:=fun t ht hk=>by
   obtain⟨b,y,q,_⟩:=Ztd g2.free ht hk;cases q
  have hval:FF [] (Cc st.2 a.te).1=(Cc st.2 a.te).1.map (P7 fun _=>0):=by
   have hz: ∀ s,s∈(Cc st.2 a.te).1->s.1.size=0:=fun s q=>Classical.byContradiction fun q'=>by
    obtain⟨x,x1,x2,_⟩:=Zrf _ _ q q';exact Pn x x1 x2
   rw[Ya5 hz];exact List.map_congr_left fun s q=>by unfold P7;rw[xj<|hz s q]
  have hat: ∀ V,(Cc st.2 a.te).2 <+:V->AtF V (a.name,FF [] (Cc st.2 a.te).1) a:=fun V hV=>by
   refine⟨rfl,?_⟩
   have:=Yos (σ:=fun _=>0) (τ:=fun _=> .mk 0 0 ⟨#[]⟩ []) a.te h g1 hV fun t ht hk=>absurd hk (Pn t ht)
   show(FF [] (Cc st.2 a.te).1).map _=_;rw[hval,List.map_map];refine this.trans (List.map_congr_left fun t ht=>?_);unfold Yom;rw[xd<|Pn t ht]
  have hlen:st.1.length<60:=by rw[DU]at hl;omega
  have Dh: ∀ f,f∈st.1->f∈(QC st a).1:=fun f q=>Yoh q;have hfrom: ∀ f,f∈(QC st a).1->f∈st.1\/f=(a.name,FF [] (Cc st.2 a.te).1):=fun f q=>Yog q;have Ci:(a.name,FF [] (Cc st.2 a.te).1)∈(QC st a).1:=by
   show _∈(TI _ _).2;by_cases q:(a.name,FF [] (Cc st.2 a.te).1)∈st.1
   .rw[Zvr q];exact q
   .rw[Zq2 q zx];simp
  have hl':(QC st a).1.length+l.length<=60:=by
   rw[DU]at hl
   have:(QC st a).1.length<=st.1.length+1:=by
    show(TI _ _).2.length<=_;unfold TI;split
    .simp
    .split <;> simp
   omega
  obtain⟨h3,h4,h5⟩:=You l (st:=QC st a) h1 (fun y hy=>ha y (by simp[hy])) (fun V hV f q=>by
   rcases hfrom f q with q | rfl
   .exact hs V (h2.trans hV) f q
   .exact⟨a,hat V hV⟩) hl'
  refine⟨h3,h2.trans h4,fun V hV=>?_⟩;obtain⟨k1,k2,k3⟩:=h5 V hV;have hp:=hat V<|h4.trans hV;refine⟨fun p q=>k1 p (Dh p q),fun b hb=>?_,fun p q=>?_⟩
  .rcases Ak.1 hb with rfl | hb
   .exact⟨_,k1 _ Ci,hp⟩
   .exact k2 b hb
  .rcases k3 p q with q | ⟨b,q1,q2⟩
   .rcases hfrom p q with q | rfl
    .exact .inl q
    .exact .inr ⟨a,zw,hp⟩
   .exact .inr ⟨b,by simp[q1],q2⟩
def Yot {l:List A}{rs:List R}(hl: ∀ a,a∈l->GdA a/\Rz a)(hl6:l.length<=60)(hr: ∀ r,r∈rs->GdR r/\Jj r)(hroom:kR l rs){fs:List Fc}(hfs: ∀ x,x∈fs↔Uc l rs x){out:List A}(ho: ∀ a,a∈out↔ ∃ f,f∈fs/\AtF (Vb l rs).1 f a):C9 (Vb l rs).1/\Yno l rs out:=by
 obtain⟨h1,h2,h3⟩:=You l (st:=([],[])) ⟨fun _ q=>(by cases q),List.nodup_nil,fun _ q=>(by cases q)⟩ hl (fun _ _ _ q=>by cases q) (by simpa using hl6);obtain⟨h4,h5,h6⟩:=Yn2 rs (st:=((Va l).2,[])) h1 fun r q=>(hr r q).1;obtain⟨_,k1,k2⟩:=h3 _ h5;obtain⟨_,k3,k4⟩:=h6 _<|List.prefix_refl _;have hV:C9 (Vb l rs).1:=h4;have hb2: ∀ b,b∈(Vb l rs).2-> ∃ r,r∈rs/\Ync (Vb l rs).1 r b:=fun b q=>(k4 b q).resolve_left zw;have hf2: ∀ f,f∈(Va l).1-> ∃ a,a∈l/\AtF (Vb l rs).1 f a:=fun f q=>(k2 f q).resolve_left zw;have Yjy: ∀ K:List A,(∀ a,a∈l->a∈K)->(∀ r,r∈rs-> ∀ y,Ynd r K y->y∈K)-> ∀ k f,Fn (Vb l rs).2 (Vb l rs).1 (·∈(Va l).1) k f-> ∃ a,a∈K/\AtF (Vb l rs).1 f a:=fun K hK hC k=>by
  induction k with
  | zero=>exact fun f q=>(hf2 f q).imp fun a q=>⟨hK a q.1,q.2⟩
  | succ k ih=>
   rintro f (q | ⟨b,b1,b2⟩)
   .exact ih f q
   .obtain⟨r,r1,r2⟩:=hb2 b b1;obtain⟨y,y1,y2⟩:=r2.fwd hV (hr r r1).2 ih b2;exact⟨y,hC r r1 y y1,y2⟩
 have hclosed: ∀ r,r∈rs-> ∀ y,Ynd r out y->y∈out:=fun r r1 y hy=>by
  obtain⟨b,b1,b2⟩:=k3 r r1;obtain⟨x,x1,x2⟩:=b2.bwd hV (hr r r1).2 (P:=Uc l rs) (fun a ha=>by
   obtain⟨f,f1,f2⟩:=(ho a).1 ha;exact⟨f,(hfs f).1 f1,f2⟩) hy
  exact(ho y).2 ⟨x,(hfs x).2<|hroom.2 x ⟨b,b1,x1⟩,x2⟩
 have hhas: ∀ a,a∈l->a∈out:=fun a ha=>by
  obtain⟨f,f1,f2⟩:=k1 a ha;exact(ho a).2 ⟨f,(hfs f).2<|Fn.mono (Eg _) f1,f2⟩
 refine⟨hV,hhas,hclosed,fun K hK hC a ha=>?_⟩;obtain⟨f,f1,f2⟩:=(ho a).1 ha;obtain⟨a',a1,a2⟩:=Yjy K hK hC 12 f<|(hfs f).1 f1;rw[f2.atom a2];exact a1
variable {fs l ks:List A}{y:A}
noncomputable def Ypx (l ks:List A):Nat:=(l.filter fun a=> @decide (a∉ks) (Classical.propDecidable _)).length
def Yoc {α:Type}{p q:α->Bool}(h: ∀ a,p a=true->q a=true){y:α}(h1:q y=true)(h2:p y=false): ∀ (l:List α),(l.filter p).length<=(l.filter q).length/\(y∈l->(l.filter p).length+1<=(l.filter q).length)
 | []=>⟨EO _,fun q=>by cases q⟩
 | a::l=>by
  obtain⟨i1,i2⟩:=Yoc h h1 h2 l;rw[List.filter_cons,List.filter_cons];refine⟨?_,fun hy=>?_⟩
  ·cases hp:p a with
   | true=>rw[h a hp];simpa using i1
   | false=>
    cases q a with
    | true=>simp;omega
    | false=>simpa using i1
  ·rcases Ak.1 hy with rfl | hy
   ·rw[h1,h2];simpa using i1
   ·have:=i2 hy
    cases hp:p a with
    | true=>rw[h a hp];simpa using this
    | false=>
     cases q a with
     | true=>simp;omega
     | false=>simpa using this
structure KnS (fs l ks:List A):Prop where
 has: ∀ a,a∈fs->a∈ks
 sub: ∀ a,a∈ks->a∈l
 cnt:ks.length+Ypx l ks<=fs.length+l.length
def KnS.start (h: ∀ a,a∈fs->a∈l):KnS fs l fs:=⟨fun _ h=>h,h,Nat.add_le_add_left (List.length_filter_le _ _) _⟩
def KnS.add (h:KnS fs l ks)(hy:y∈l)(hn:y∉ks):KnS fs l (ks++[y]):=by
 refine⟨fun a ha=>Md _ (h.has a ha),fun a ha=>?_,?_⟩
 .rcases Aj.1 ha with ha | ha
  .exact h.sub a ha
  .rw[Bh.1 ha];exact hy
 .have:Ypx l (ks++[y])+1<=Ypx l ks:=by
   unfold Ypx;refine(Yoc (y:=y) (fun a q=>?_) ?_ ?_ l).2 hy
   .simp only[wA]at q⊢;exact fun q'=>q (Md _ q')
   .simpa using hn
   .simp
  have h2:=h.cnt;rw[JS];simp;omega
def KnS.len (h:KnS fs l ks):ks.length<=fs.length+l.length:=Ab (Nat.le_add_right _ _) h.cnt
def Ynd.mono {r:R}{K L:List A}(h: ∀ a,a∈K->a∈L)(hy:Ynd r K y):Ynd r L y:=hy.imp fun _ ⟨h1,h2⟩=>⟨fun a ha=>h _ (h1 a ha),h2⟩
variable {P:Nat->Prop}{B d b o g:Nat}{w u:Bb}{vs:Bu}{x:A}{zs:List (List Value×A)}{xs:List A}{F:Cg}
def Ym1 (P:Nat->Prop) (B:Nat) (w:Bb) (d:Nat) (vs:Bu) (x:A):Prop:= ∃ p c,vs=[um x.name,sP p x.te.length c]/\x.name.size<1000000000/\x.te.length<=c/\Ap 4 (fun b o t=>P b/\kC B w d b o t) p x.te
def Ym1.imp {P':Nat->Prop}(h:Ym1 P B w d vs x)(f: ∀ b o t,P b->kC B w d b o t->P' b/\kC B u d b o t):Ym1 P' B u d vs x:=by
 obtain⟨p,c,h1,h2,h3,h4⟩:=h;exact⟨p,c,h1,h2,h3,h4.cy fun b o t q=>f b o t q.1 q.2⟩
def kC.block {x:T}(h:kC B w d b o x)(hB:EG B B w u)(hb:u.heap[b]?=w.heap[b]?):kC B u d b o x:=by
 obtain⟨vs,h1,h2⟩:=h;exact⟨vs,Ed.cy h1 hB,fun j v hj=>(A9 (a:=(zm b (o+j))) hb).trans (h2 j v hj)⟩
def kC.lt {x:T}(h:kC B w d b o x):b<w.heap.size:=by
 obtain⟨_,_,c0,_⟩:=h.vals;exact Wx c0
def Ym1.la (h:Ym1 P B w d vs x)(hB:B<=w.heap.size)(hu:Bl w u):Ym1 P B u d vs x:=h.imp fun _ _ _ q1 q2=>⟨q1,q2.la hB hu⟩
def Ym1.one (h:Ym1 P B w d vs x):vs.length=2/\ ∀ u,u∈vs->u.oneCell'=true:=by
 obtain⟨p,c,rfl,_⟩:=h;refine⟨rfl,fun u hu=>?_⟩;simp at hu;rcases hu with rfl | rfl <;> rfl
def Ym1.at (h:Ym1 P B w d vs x)(hc: ∀ j u,vs[j]?=some u->w.cell? (zm b (o+j))=some u):Ynl B w d b o x:=by
 obtain⟨p,c,rfl,h2,h3,h4⟩:=h;exact⟨hc 0 _ rfl,h2,p,c,hc 1 _ rfl,h3,h4.cy fun _ _ _ q=>q.2⟩
def Ym1.s (h:Ym1 P B w d vs x)(hB:B<=w.heap.size):Jz w.heap.size w d vs x:=by
 obtain⟨p,c,rfl,h2,h3,h4⟩:=h;exact⟨p,c,rfl,h2,h3,h4.cy fun _ _ _ q=>q.2.at hB⟩
def Yon (B:Nat) (w:Bb) (d:Nat) (kv:Value) (ks:List A):Prop:= ∃ zs:List (List Value×A),w.ownsRow B 64 2 kv zs.length (zs.map (·.1)).flatten/\ks=zs.map (·.2)/\ ∀ z,z∈zs->Ym1 (fun b=>kv.ownBlock≠some b) B w d z.1 z.2
section
variable {B d:Nat} {w u:Bb} {kv:Value} {ks:List A}
def Yon.form (h:Yon B w d kv ks): ∃ p c,kv= sP p ks.length c/\ks.length<=c:=by
 obtain⟨zs,ho,rfl,_⟩:=h;rw[Dj];rcases ho.2 with⟨rfl,h0⟩ | ⟨g,cap,cur,rfl,_,_,h2,_⟩
 .exact⟨none,0,by rw[h0],zx⟩
 .exact⟨_,_,rfl,h2⟩
def Yon.la (h:Yon B w d kv ks)(hB:B<=w.heap.size)(hu:Bl w u):Yon B u d kv ks:=by
 obtain⟨zs,ho,h1,h2⟩:=h;exact⟨zs,Zt6 ho fun k hk=>hu.block k (ho.lt k hk).2,h1,fun z hz=>(h2 z hz).la hB hu⟩
def Yon.own (h:Yon B w d kv ks): ∀ g,kv.ownBlock=some g->g<w.heap.size:=by
 obtain⟨zs,ho,_,_⟩:=h;exact fun g hg=>(ho.lt g hg).2
def Ypt (hl: ∀ z,z∈zs->z.1.length=2){i:Nat}{z:Bu×A}(hz:zs[i]?=some z){j:Nat}{u:Value}(hu:z.1[j]?=some u):((zs.map (·.1)).flatten)[i*2+j]?=some u:=by
 have:=Yf0 2 (zs.map fun z=>(z.1,z.2,([]:Cg))) (fun y hy=>by
  obtain⟨z,hz,rfl⟩:=List.mem_map.1 hy;exact hl z hz) i (z.1,z.2,[]) (by rw[FK,hz];rfl) j (by
   have h1:=hl z<|Ej hz;have h2:=(DW.1 hu).1
   omega)
 rw[List.map_map]at this;exact this.trans hu
def Yon.rows (h:Yon B w d kv ks)(hl:ks.length<1000000000): ∃ p c,kv= sP p ks.length c/\ks.length<=c/\Ap 2 (Ynl B w d) p ks:=by
 obtain⟨p,c,hv,hc⟩:=h.form;refine⟨p,c,hv,hc,hl,fun i x hx=>?_⟩;obtain⟨zs,ho,rfl,h2⟩:=h;rw[FK]at hx;obtain⟨z,hz,rfl⟩:=QP.1 hx;have hm:=Ej hz;have hi:=(DW.1 hz).1;rcases ho.2 with⟨_,h0⟩ | ⟨g,cap,cur,h1,_⟩
 .omega
 .have hp:p=some (zm g 0):=by
   rw[h1]at hv;injection hv with q;exact q.symm
  subst h1;refine⟨g,0,hp,(h2 z hm).at fun j u hu=>?_⟩;have hj:j<2:=by rw[<- (h2 z hm).one.1];exact(DW.1 hu).1
  rw[Gx,ho.cellAt (i*2+j) zx,Ypt (fun z hz=>(h2 z hz).one.1) hz hu]
def _root_.Go.W.Jz.c (h:Jz B w d vs x):Ym1 (fun b=>b<B) B w d vs x:=by
 obtain⟨p,c,h1,h2,h3,h4⟩:=h;exact⟨p,c,h1,h2,h3,h4.cy fun b o t q=>by
  obtain⟨hb,p,c,c0,c1,c2,c3,hs⟩:=q.vals;refine⟨hb,_,hs,fun j u hj=>?_⟩;match j with
  | 0=>cases hj;exact c0
  | 1=>cases hj;exact c1
  | 2=>cases hj;exact c2
  | 3=>cases hj;exact c3
  | j+4=>simp at hj⟩
def FaQ (w:Bb) (d:Nat):Du A:=fun _ vs x F=>F=[]/\Ym1 (fun b=>b<w.heap.size) w.heap.size w d vs x
def FaQ.sb:Ii (FaQ w d):=fun _ _ _ _ _ h _=>h
def FaQ.lie {p:Bp}(h:Ap 2 (Ep w.heap.size w<|d+1) p xs)(hu:Bl w u): ∃ zs:List (List Value×A×Cg),zs.map (·.2.1)=xs/\(zs.map (·.2.2)).flatten=[]/\zs.length=xs.length/\Lie 2 (FaQ w d) u p zs:=Ap.lie h fun b o x q=>by
 obtain⟨_,p,c,c0,c1,hs⟩:=q.vals;refine⟨_,rfl,hs.c.one.2,⟨rfl,hs.c⟩,fun j u hj=>?_⟩;match j with
 | 0=>cases hj;exact Cb c0 hu
 | 1=>cases hj;exact Cb c1 hu
 | j+2=>simp at hj
def FaQ.kn (h:AQ 64 2 (FaQ w d) u kv xs F)(hN:Ag w.heap.size u F)(hu:Bl w u):Yon w.heap.size u d kv xs:=by
 have hF: ∀ g,kv.ownBlock=some g->g∈F:=fun g hg=>by
  obtain⟨zs,_,_,_,rfl,_⟩:=h;simp[hg]
 obtain⟨zs,ho,hz,rfl,_,hl⟩:=h;refine⟨zs.map fun z=>(z.1,z.2.1),?_,by rw[List.map_map];rfl,fun z hm=>?_⟩
 .rw[Dj,List.map_map];refine⟨ho.1,?_⟩;rcases ho.2 with h1 | ⟨g,cap,cur,rfl,_,h2⟩
  .exact .inl h1
  .exact .inr ⟨g,cap,cur,rfl,hN.ge g<|hF g rfl,h2⟩
 .obtain⟨y,hy,rfl⟩:=List.mem_map.1 hm;exact(hz y hy).2.2.imp fun b o t q1 q2=>⟨fun e=>fw (hN.ge b<|hF b e),q2.la lr hu⟩
def Yon.more {w1:Bb}{cap:Nat}{ys:List (List Value×A)}(hz: ∀ z,z∈zs->Ym1 (fun b=>kv.ownBlock≠some b) B w d z.1 z.2)(hB:EG B B w w1)(hy: ∀ z,z∈ys->Ym1 (fun b=>kv.ownBlock≠some b) B w d z.1 z.2)(ha:qQ w w1 B 64 2 kv g cap (zs.length+ys.length) ((zs.map (·.1)).flatten++(ys.map (·.1)).flatten)):Yon B w1 d (sP (Qb g 0) (zs.length+ys.length) cap) (zs.map (·.2)++ys.map (·.2)):=by
 refine⟨zs++ys,?_,by rw[wb],fun z hm=>?_⟩
 .rw[JS,wb,List.flatten_append];exact ha.own
 .have hq:Ym1 (fun b=>kv.ownBlock≠some b) B w d z.1 z.2:=(Aj.1 hm).elim (hz z)<|hy z;refine hq.imp fun b o t q1 q2=>?_;have hb:=q2.lt;refine⟨fun e=>?_,q2.block hB (ha.grown.block b hb fun e=>q1 e.symm)⟩;have e:g=b:=Gw e;subst e;rcases ha.spot with hs | hs
  .exact q1 hs
  .omega
end
def _root_.Go.W.AQ.own1 {α:Type}{e:TypeId}{s:Nat}{Q:Du α}{n c:Nat}{xs:List α}(h:AQ e s Q w (sP (Qb g o) n c) xs F):g∈F:=by
 obtain⟨zs,_,_,_,rfl,_⟩:=h;simp[Value.ownBlock]
def Ypu {n1:Nat}{w0:Bb}{v:Value}{hs:List A}{G:Cg}(h:AQ 64 2 (Yni B w0 d) w v hs G)(hN:Ag n1 w G)(hc:EG B B w0 w): ∃ p c,v= sP p hs.length c/\Ap 2 (fun b o y=>n1<=b/\ ∃ vs,Ym1 (fun b=>n1<=b) B w d vs y/\ ∀ j u,vs[j]?=some u->w.cell? (zm b (o+j))=some u) p hs:=by
 have key: ∀ {tv:Value} {ts:List T} {F:Cg},AQ 95 4 (Ym9 B w0 d) w tv ts F->(∀ k,k∈F->n1<=k)-> ∃ p c,tv= sP p ts.length c/\ts.length<=c/\Ap 4 (fun b o t=>n1<=b/\kC B w d b o t) p ts:=fun{tv ts F} h hF=>by
  obtain⟨p,c,zs,hv,z1,z2,_,z3,z4⟩:=AQ.lie Ym9.one h;obtain⟨p',c',hv',hle,hlen⟩: ∃ p c,tv= sP p ts.length c/\ts.length<=c/\ts.length<1000000000:=by
   obtain⟨zs,ho,_,rfl,_,hl⟩:=h;rcases ho.2 with⟨rfl,h0⟩ | ⟨g,cap,cur,rfl,_,_,h2,_⟩
   .obtain rfl:=M9 h0;exact⟨none,0,rfl,EO _,zw⟩
   .exact⟨some (zm g 0),cap,by rw[Dj],by simpa using h2,by simpa using hl⟩
  have e:p'=p:=by
   rw[hv]at hv';injection hv' with q;exact q.symm
  subst e;refine⟨p',c',hv',hle,hlen,fun i x hx=>?_⟩;rw[<- z1,FK]at hx;obtain⟨z,hz,rfl⟩:=QP.1 hx;obtain⟨_,_,⟨_,hs⟩,b,o,rfl,hcell⟩:=z4 i z hz;refine⟨b,o,rfl,?_,_,Ed.cy hs hc,hcell⟩;subst hv';exact hF b h.own1
 obtain⟨p,c,zs,hv,z1,z2,_,z3,z4⟩:=AQ.lie Yni.one h;refine⟨p,c,hv,h.len,fun i x hx=>?_⟩;rw[<- z1,FK]at hx;obtain⟨z,hz,rfl⟩:=QP.1 hx;obtain⟨_,_,⟨tv,e,h2,h3⟩,b,o,rfl,hcell⟩:=z4 i z hz;obtain⟨pt,ct,rfl,h4,h5⟩:=key h3 fun k hk=>hN.ge k (z2 k<|List.mem_flatten.2 ⟨z.2.2,List.mem_map.2 ⟨z,Ej hz,rfl⟩,hk⟩);refine⟨b,o,rfl,?_,z.1,⟨pt,ct,e,h2,h4,h5⟩,hcell⟩;subst hv;exact hN.ge b h.own1
end Go.W
