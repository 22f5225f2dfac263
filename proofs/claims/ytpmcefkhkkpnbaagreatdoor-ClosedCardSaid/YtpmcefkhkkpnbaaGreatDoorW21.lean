import Derived.Test.YtpmcefkhkkpnbaaGreatDoorW20
set_option linter.all false
set_option maxRecDepth 100000
set_option maxHeartbeats 8000000
open Go.Proofs Go.RowKit Go.W Tryz
namespace Go.W
variable {t:Ay}{s:List UInt8}{d:Nat}{k i:Int}{r:R}{b:Bk}
def Ub {α:Type} (read:Tk->Nat->Re α) (Q:α->Prop):Prop:= ∀ x p y x' p',XF x->read x p= .ok (y,x',p')->Q y/\XF x'
def qO {α:Type}{Q:α->Prop}{xs:List α}(h: ∀ x∈xs,Q x){y:α}(hy:Q y): ∀ x∈xs++[y],Q x:=fun x hx=>by
 rcases List.mem_append.mp hx with hx | hx
 ·exact h x hx
 ·rw[List.mem_singleton.mp hx];exact hy
def Znu {α:Type}{read:Tk->Nat->Re α}{Q:α->Prop}(hr:Ub read Q){most:Nat}: ∀ {n:Nat} {xs:List α},(∀ x∈xs,Q x)->xs.length<=most->Ub (Jd t read s most n xs) fun ys=>(∀ x∈ys,Q x)/\ys.length<=most/\ys≠[]
 | 0,xs,_,_,x,p,y,x',p',_,h=>by cases h
 | n+1,xs,hx,hl,x,p,y,x',p',hT,h=>by
  rw[Jd]at h;obtain⟨z,x1,p1,h1,h2⟩:=I7 h;obtain⟨hz,Im⟩:=hr _ _ _ _ _ hT h1;split at h2
  .cases h2
  .rename_i hm;have hl':(xs++[z]).length<=most:=zc
   split at h2
   .obtain⟨u,x2,p2,h3,h4⟩:=I7 h2;exact Znu hr (qO hx hz) hl' _ _ _ _ _ (X8 h3).1 h4
   .cases h2;exact⟨⟨qO hx hz,hl',zw⟩,Im⟩
def Zor {read:Tk->Nat->Re T}{Q:T->Prop}(hr:Ub read Q):Ub (TN t read s) fun ys=>(∀ x∈ys,Q x)/\ys.length<=6:=fun x p y x' p' hT h=>by
 unfold TN at h;obtain⟨l,x1,p1,h1,h2⟩:=I7 h;obtain⟨u,x2,p2,h3,h4⟩:=I7 h2;cases h4;refine⟨?_,wI h3⟩;split at h1
 ·cases h1;simp
 ·have:=(Znu hr zw zw _ _ _ _ _ hT h1).1
  exact⟨this.1,this.2.1⟩
def wX {n:Nat}(h:Ih k i t n=true)(h1: ¬ (k=1/\0<d))(h2:t.size<=64)(h3:n<=6)(h4: ¬ (k=7/\d=3)):Oc d k i t n=0:=by
 unfold Oc;rw[xd (by rw[h];simpa using h1),xd zx,xd h4]
def vD {l:List T}(h:Oc d k i t l.length=0)(hl: ∀ y∈l,BR (d+1) y=0):BR d (.mk k i t l)=0:=by
 rw[BR,xd (by simp[h]),Zum,qo hl]
def Ztc (d:Nat)(b:Bool):BR d (.mk 6 (if b=true then 1 else 0) ⟨#[]⟩ [])=0:=by
 refine vD (wX ?_ zx zu zu zx) zw;cases b <;> decide
def Zlb (t:Ay): ∀ d,d<=3->Ub (Ha t d) fun y=>BR (3-d) y=0:=by
 intro d;induction d with
 | zero=>
  intro _ x p y x' p' hT h;rw[Ha]at h;split at h
  .obtain⟨z,x1,p1,h1,h2⟩:=I7 h;cases h2;refine⟨?_,(X8 h1).1⟩
   have:=Ztc (3-0)<|decide<|x.text.toList=Xl
   simpa using this
  split at h
  .cases h
  split at h
  .cases h
  .rename_i hk;obtain⟨z,x1,p1,h1,h2⟩:=I7 h;cases h2;obtain⟨k6,k7,hf,hs⟩:=hT.2.resolve_left zx;exact⟨vD (wX hf zx hs zw zx) zw,(X8 h1).1⟩
 | succ d ih=>
  intro hd x p y x' p' hT h;rw[Ha]at h;split at h
  .obtain⟨z,x1,p1,h1,h2⟩:=I7 h;cases h2;refine⟨?_,(X8 h1).1⟩
   have:=Ztc (3-(d+1))<|decide<|x.text.toList=Xl
   simpa using this
  split at h
  .obtain⟨z,x1,p1,h1,h2⟩:=I7 h;obtain⟨l,x2,p2,h3,h4⟩:=I7 h2;cases h4;obtain⟨⟨hl,h6⟩,Pv⟩:=Zor (ih zx) _ _ _ _ _ (X8 h1).1 h3;exact⟨vD (wX (by simp[Ih,UX];rfl) zx zu h6 zx) fun y hy=>by rw[show 3-(d+1)+1=3-d by omega];exact hl y hy,Pv⟩
  split at h
  .cases h
  .rename_i hk;obtain⟨z,x1,p1,h1,h2⟩:=I7 h;cases h2;obtain⟨k6,k7,hf,hs⟩:=hT.2.resolve_left zx;exact⟨vD (wX hf zx hs zw zx) zw,(X8 h1).1⟩
def jg {α:Type}{f:α->Int}{m:Nat}{l:List α}(h:l.length<=m)(hl: ∀ x∈l,f x=0):Ei f m l=0:=by
 unfold Ei;rw[xd zx,qo hl]
def Zzv (t:Ay):Ub (VT t) fun y=>FH y=0:=fun x p y x' p' hT h=>by
 unfold VT at h;split at h
 ·rename_i hw;obtain⟨z,x1,p1,h1,h2⟩:=I7 h;obtain⟨u,x2,p2,h3,h4⟩:=I7 h2;obtain⟨l,x3,p3,h5,h6⟩:=I7 h4;cases h6;obtain⟨⟨hl,hn⟩,eD⟩:=Zor (Zlb t 3 zx) _ _ _ _ _ (wI h3) h5;refine⟨?_,eD⟩;show FH ⟨x.text,l⟩=0;unfold FH;rw[xd (by simp[hT.1 hw.1]),jg hn hl]
 ·cases h
def Z90 (s:Ay):SY s<=7:=by
 unfold SY;split
 .rename_i i hi
  have:=(List.findIdx?_eq_some_iff_findIdx_eq.mp hi).1
  have hl:MV.length=7:=rfl;omega
 .omega
def Yd8 (g:G):Prop:= ¬ (g.op<1\/7<g.op)/\BR 0 g.a=0/\BR 0 g.b=0
def Zxv (t:Ay):Ub (fJ t) Yd8:=fun x p y x' p' hT h=>by
 unfold fJ at h;obtain⟨a,x1,p1,h1,h2⟩:=I7 h;obtain⟨ha,Im⟩:=Zlb t 3 zx _ _ _ _ _ hT h1;split at h2
 ·cases h2
 ·rename_i ho;obtain⟨u,x2,p2,h3,h4⟩:=I7 h2;obtain⟨b,x3,p3,h5,h6⟩:=I7 h4;obtain⟨hb,eD⟩:=Zlb t 3 zx _ _ _ _ _ (X8 h3).1 h5;cases h6
  have:=Z90 x1.text
  exact⟨⟨by dsimp only;omega,ha,hb⟩,eD⟩
structure xB (r:R):Prop where
 head:r.head=VX.head
 nb:r.body.length<=4
 ng:r.gu.length<=4
 body: ∀ a∈r.body,FH a=0
 gu: ∀ g∈r.gu,Yd8 g
def Z04 (t:Ay)(hr:xB r):Ub (Y8 t r) fun y=>xB y/\ ¬ (y.body.length=0/\y.gu.length=0):=fun x p y x' p' hT h=>by
 unfold Y8 at h;split at h
 ·obtain⟨a,x1,p1,h1,h2⟩:=I7 h;obtain⟨ha,Im⟩:=Zzv t _ _ _ _ _ hT h1;split at h2
  ·cases h2
  ·cases h2
   have:=hr.nb
   exact⟨⟨⟨hr.head,zc,hr.ng,qO hr.body ha,hr.gu⟩,zw⟩,Im⟩
 ·obtain⟨a,x1,p1,h1,h2⟩:=I7 h;obtain⟨ha,Im⟩:=Zxv t _ _ _ _ _ hT h1;split at h2
  ·cases h2
  ·cases h2
   have:=hr.ng
   exact⟨⟨⟨hr.head,hr.nb,zc,hr.body,qO hr.gu ha⟩,zw⟩,Im⟩
def Zol (t:Ay): ∀ (n:Nat) {r:R},xB r->Ub (PE t n r) fun y=>xB y/\ ¬ (y.body.length=0/\y.gu.length=0)
 | 0,r,_,x,p,y,x',p',_,h=>by cases h
 | n+1,r,hr,x,p,y,x',p',hT,h=>by
  rw[PE]at h;obtain⟨r1,x1,p1,h1,h2⟩:=I7 h;obtain⟨h3,Im⟩:=Z04 t hr _ _ _ _ _ hT h1;split at h2
  ·obtain⟨u,x2,p2,h4,h5⟩:=I7 h2;exact Zol t n h3.1 _ _ _ _ _ (X8 h4).1 h5
  ·cases h2;exact⟨h3,Im⟩
def Yap {b:List A}{x:T}(h:BR 0 x=0)(hb:ET [x] b=true):PI b x=0:=by
 unfold PI;rw[xd (by simp[h]),xd (by simp[hb])]
def Zzy (t:Ay):Ub (UZ t) fun y=>JQ y=0/\y.head=VX.head:=fun x p y x' p' hT h=>by
 unfold UZ at h;obtain⟨r,x1,p1,h1,h2⟩:=I7 h;obtain⟨⟨hr,hn⟩,Im⟩:=Zol t 9 ⟨rfl,zu,zu,by simp[VX],by simp[VX]⟩ _ _ _ _ _ hT h1;split at h2
 .rename_i hall;cases h2;have hb:=hr.nb;have hg:=hr.ng;refine⟨⟨?_,hr.head⟩,Im⟩;unfold JQ;rw[xd hn,xd zx,xd (by simp[qo hr.body]),qo];intro g hG;obtain⟨ho,ha,hb⟩:=hr.gu g hG;have hB:=List.all_eq_true.mp hall g hG;have aV:ET [g.a] y.body=true/\ET [g.b] y.body=true:=by
   simp only[ET,List.all_cons,List.all_nil,Bool.and_true,wx]at hB⊢;exact hB
  unfold QE;rw[xd ho,xd (by simp[Yap ha aV.1]),Yap hb aV.2]
 .cases h2
def Yfk (h:JQ r=0/\r.head=VX.head):SE r=0:=by
 unfold SE;rw[h.2,xd zu];exact h.1
def Zuy (t:Ay):Ub (ZR t) fun l=>J4 l=0:=fun x p y x' p' hT h=>by
 unfold ZR at h;obtain⟨u,x1,p1,h1,h2⟩:=I7 h;obtain⟨⟨hall,hl,hne⟩,Im⟩:=Znu (Zzy t) zw zw _ _ _ _ _ (wI h1) h2;refine⟨?_,Im⟩;show J4 y=0;unfold J4
 rw[xd (by simpa using hne),jg hl fun r hr=>Yfk (hall r hr)]
structure BkR (b:Bk):Prop where
 nf:b.fa.length<=24
 nr:b.ru.length<=24
 nc:b.ck.length<=24
 fa: ∀ a∈b.fa,Ul a=0
 ru: ∀ r∈b.ru,TZ r=0
 ck: ∀ c∈b.ck,J4 c=0
def BkR.right (h:BkR b):IU b=0:=by
 unfold IU;rw[xd (by simp[jg h.nf h.fa]),xd (by simp[jg h.nr h.ru]),jg h.nc h.ck]
def Yn8 (t:Ay)(hb:BkR b):Ub (fK t b) BkR:=fun x p y x' p' _ h=>by
 unfold fK at h;obtain⟨u,x1,p1,h1,h2⟩:=I7 h;obtain⟨l,x2,p2,h3,h4⟩:=I7 h2;obtain⟨hl,Pv⟩:=Zuy t _ _ _ _ _ (X8 h1).1 h3;split at h4
 ·cases h4
 ·cases h4
  have:=hb.nc
  exact⟨⟨hb.nf,hb.nr,zc,hb.fa,hb.ru,qO hb.ck hl⟩,Pv⟩
def Ynj (t:Ay)(hb:BkR b):Ub (Wu t b) BkR:=fun x p y x' p' hT h=>by
 unfold Wu at h;obtain⟨hd,x1,p1,h1,h2⟩:=I7 h;obtain⟨ha,Im⟩:=Zzv t _ _ _ _ _ hT h1;split at h2
 ·obtain⟨u,x2,p2,h3,h4⟩:=I7 h2;obtain⟨r,x3,p3,h5,h6⟩:=I7 h4;obtain⟨hr,eD⟩:=Zzy t _ _ _ _ _ (X8 h3).1 h5;split at h6
  ·cases h6
  ·rename_i KJ;split at h6
   ·cases h6
   ·cases h6
    have:=hb.nr
    refine⟨⟨hb.nf,zc,hb.nc,hb.fa,qO hb.ru ?_,hb.ck⟩,eD⟩;have hB:JQ {r with head:=hd}=JQ r:=rfl;unfold TZ;rw[xd (by simp[ha]),hB,xd (by simp[hr.1]),xd KJ]
 ·split at h2
  ·cases h2
  ·rename_i KJ;split at h2
   ·cases h2
   ·cases h2
    have:=hb.nf
    refine⟨⟨zc,hb.nr,hb.nc,qO hb.fa ?_,hb.ru,hb.ck⟩,Im⟩;unfold Ul;rw[xd (by simp[ha]),xd KJ]
def Yng (t:Ay): ∀ (n:Nat) {b:Bk},BkR b->Ub (Ve t n b) BkR
 | 0,b,_,x,p,y,x',p',_,h=>by cases h
 | n+1,b,hb,x,p,y,x',p',hT,h=>by
  rw[Ve]at h;split at h
  .cases h;exact⟨hb,hT⟩
  .obtain⟨b1,x1,p1,h1,h2⟩:=I7 h;obtain⟨u,x2,p2,h3,h4⟩:=I7 h2;have hb1:BkR b1:=by
    split at h1
    .exact(Yn8 t hb _ _ _ _ _ hT h1).1
    .exact(Ynj t hb _ _ _ _ _ hT h1).1
   exact Yng t n hb1 _ _ _ _ _ (wI h3) h4
def Ya7 {α:Type}{read:Tk->Nat->Re α}{Q:α->Prop}(hr:Ub read Q){y:α}(h:Gu t read= .ok y):Q y:=by
 unfold Gu at h;split at h
 .cases h
 .split at h
  .cases h
  .rename_i h1;cases h;obtain⟨u,x1,p1,h2,h3⟩:=I7 h1;exact(hr _ _ _ _ _ (Zrm h2) h3).1
def Yor (h:Gu t (QG t)= .ok b):IU b=0:=(Ya7 (Yng t 73 ⟨zw,zw,zw,zw,zw,zw⟩) h).right
variable {n:Int}{c:Prop}
def PO (n:Int):Prop:=1<=n/\n<=7
def Gl {α:Type} (m:Except (Int×Nat) α):Prop:= ∀ e,m= .error e->PO e.1
def Gv {α:Type}{x:α}:Gl (.ok x):=fun _ h=>by cases h
def GJ {α:Type}{p:Nat}(h:PO n):Gl (α:=α) (.error (n,p)):=fun _ h'=>by cases h';exact h
def r1:PO 1:=⟨zu,zu⟩
def r2:PO 2:=⟨zu,zu⟩
def r3:PO 3:=⟨zu,zu⟩
def r4:PO 4:=⟨zu,zu⟩
def r5:PO 5:=⟨zu,zu⟩
def r6:PO 6:=⟨zu,zu⟩
def r7:PO 7:=⟨zu,zu⟩
def Gi {α β:Type}{m:Re α}{f:α->Tk->Nat->Re β}(h:Gl m)(hf: ∀ y x p,Gl<|f y x p):Gl (Bf m f):=by
 unfold Bf;split
 .rename_i e;exact fun e' h'=>by cases h';exact h _ rfl
 .exact hf _ _ _
def Dm {α:Type}[Decidable c]{x y:Except (Int×Nat) α}(hx:Gl x)(hy:Gl y):Gl (if c then x else y):=by split <;> assumption
def Zxb (bs:Cg)(q:Nat): ∀ f v p,Gl (Sz bs q f v p)
 | 0,_,_=>Gv
 | f+1,_,_=>Dm (Zxb bs q f _ _) (GJ r1)
def Z8f (t:Ay)(x:Tk)(p:Nat):Gl (UY t x p):=by
 unfold UY;split
 .rename_i e h;exact fun e' h'=>by cases h';exact Zxb _ _ _ _ _ _ h
 .exact Dm Gv<|GJ r1
def Yb5 (t:Ay)(x:Tk)(p:Nat):Gl (Tm t x p):=by
 unfold Tm;split
 .exact Gv
 .exact Dm (Z8f _ _ _)<|GJ r1
def Zrj (t:Ay)(x:Tk): ∀ f p acc,Gl (JG t x f p acc)
 | 0,_,_=>GJ r1
 | f+1,p,acc=>by
  rw[JG];refine Dm Gv<|Dm (GJ r1)<|Dm ?_<|Dm (GJ r1)<|Zrj t x f _ _;split
  ·rename_i e h;exact fun e' h'=>by cases h';exact Yb5 _ _ _ _ h
  ·exact Zrj t x f _ _
def Z4r (t:Ay)(x:Tk)(p:Nat):Gl (Ue t x p):=Dm (GJ r1)<|Dm (GJ r4) Gv
def Z3c (t:Ay)(q k:Int)(x:Tk)(p:Nat):Gl (Ti t q k x p):=by
 unfold Ti;split
 .rename_i e h;refine fun e' h'=>?_;cases h';unfold Tj at h;dsimp only at h;generalize (if(Ac t).getD p 0=45 then p+1 else p)=p1 at h;split at h
  .cases h;exact r1
  .split at h
   .cases h
   .cases h;exact r1
 .exact Gv
def Zys (t:Ay)(p:Nat):Gl (Np t p):=by
 unfold Np;refine Dm Gv ?_;unfold Ud;refine Dm (Dm (GJ r4)<|Dm (Z4r _ _ _) Gv)<|Dm (Dm (GJ r4)<|Dm (GJ r1) Gv)<|Dm ?_<|Dm (Z3c _ _ _ _ _)<|Dm (Z3c _ _ _ _ _) ?_
 .unfold O4;split
  .rename_i e h;exact fun e' h'=>by cases h';exact Zrj _ _ _ _ _ _ h
  .exact Dm (GJ r4) Gv
 .unfold Xg;split
  .exact GJ r1
  .exact Gv
def Um (t:Ay)(x:Tk)(p:Nat):Gl (En t x p):=by
 unfold En;split
 .rename_i e h;exact fun e' h'=>by cases h';exact Zys _ _ _ h
 .exact Gv
def qg (t:Ay)(s:List UInt8)(x:Tk)(p:Nat):Gl (Nk t s x p):=Dm (Gi (Um _ _ _) fun _ _ _=>Gv)<|GJ r2
def Zv9 {α:Type}{read:Tk->Nat->Re α}(hr: ∀ x p,Gl<|read x p){s:List UInt8}{most:Nat}: ∀ n xs x p,Gl (Jd t read s most n xs x p)
 | 0,_,_,_=>GJ r4
 | n+1,_,_,_=>Gi (hr _ _) fun _ _ _=>Dm (GJ r4) (Dm (Gi (Um _ _ _) fun _ _ _=>Zv9 hr n _ _ _) Gv)
def Zui {read:Tk->Nat->Re T}(hr: ∀ x p,Gl<|read x p)(s:List UInt8)(x:Tk)(p:Nat):Gl (TN t read s x p):=Gi (Dm Gv<|Zv9 hr _ _ _ _) fun _ _ _=>Gi (qg _ _ _ _) fun _ _ _=>Gv
def vG (t:Ay): ∀ d x p,Gl (Ha t d x p)
 | 0,_,_=>Dm (Gi (Um _ _ _) fun _ _ _=>Gv) (Dm (GJ r3)<|Dm (GJ r2) (Gi (Um _ _ _) fun _ _ _=>Gv))
 | d+1,_,_=>Dm (Gi (Um _ _ _) fun _ _ _=>Gv) (Dm (Gi (Um _ _ _) fun _ _ _=>Gi (Zui (vG t d) _ _ _) fun _ _ _=>Gv)<|Dm (GJ r2) (Gi (Um _ _ _) fun _ _ _=>Gv))
def Zwy (t:Ay)(x:Tk)(p:Nat):Gl (VT t x p):=Dm (Gi (Um _ _ _) fun _ _ _=>Gi (qg _ _ _ _) fun _ _ _=>Gi (Zui (vG t 3) _ _ _) fun _ _ _=>Gv)<|GJ r2
def Z5k (t:Ay)(x:Tk)(p:Nat):Gl (fJ t x p):=Gi (vG t 3 _ _) fun _ _ _=>Dm (GJ r2) (Gi (Um _ _ _) fun _ _ _=>Gi (vG t 3 _ _) fun _ _ _=>Gv)
def Z98 (t:Ay)(r:R)(x:Tk)(p:Nat):Gl (Y8 t r x p):=Dm (Gi (Zwy _ _ _) fun _ _ _=>Dm (GJ r4) Gv) (Gi (Z5k _ _ _) fun _ _ _=>Dm (GJ r4) Gv)
def Zt8 (t:Ay): ∀ n r x p,Gl (PE t n r x p)
 | 0,_,_,_=>GJ r4
 | n+1,_,_,_=>Gi (Z98 _ _ _ _) fun _ _ _=>Dm (Gi (Um _ _ _) fun _ _ _=>Zt8 t n _ _ _) Gv
def Zw3 (t:Ay)(x:Tk)(p:Nat):Gl (UZ t x p):=Gi (Zt8 _ _ _ _ _) fun _ _ _=>Dm Gv (GJ r5)
def Zp2 (t:Ay)(x:Tk)(p:Nat):Gl (ZR t x p):=Gi (qg _ _ _ _) fun _ _ _=>Zv9 (Zw3 t) _ _ _ _
def Zp0 (t:Ay): ∀ n b x p,Gl (Ve t n b x p)
 | 0,_,_,_=>GJ r4
 | n+1,_,_,_=>Dm Gv (Gi (Dm (Gi (Um _ _ _) fun _ _ _=>Gi (Zp2 _ _ _) fun _ _ _=>Dm (GJ r4) Gv) (Gi (Zwy _ _ _) fun _ _ _=>Dm (Gi (Um _ _ _) fun _ _ _=>Gi (Zw3 _ _ _) fun _ _ _=>Dm (GJ r5) (Dm (GJ r4) Gv)) (Dm (GJ r5)<|Dm (GJ r4) Gv))) fun _ _ _=>Gi (qg _ _ _ _) fun _ _ _=>Zp0 t n _ _ _)
def Zkx (t:Ay): ∀ n l x p,Gl (Un t n l x p)
 | 0,_,_,_=>GJ r4
 | n+1,_,_,_=>Dm Gv (Dm (Gi (Um _ _ _) fun _ _ _=>Gi (Zp2 _ _ _) fun _ _ _=>Dm (GJ r4) (Gi (qg _ _ _ _) fun _ _ _=>Zkx t n _ _ _))<|GJ r2)
def Zuj {α:Type}(t:Ay){read:Tk->Nat->Re α}(hr: ∀ x p,Gl<|read x p):Gl (Gu t read):=by
 unfold Gu;refine Dm (GJ r4) ?_;split
 .rename_i e h;exact fun e' h'=>by cases h';exact Gi (Zys _ _) (fun _ _ _=>hr _ _) _ h
 .exact Gv
def Z97 (t:Ay):Gl (Gu t<|QG t):=Zuj t fun _ _=>Zp0 t 73 _ _ _
def Yc8 (t:Ay):Gl (Gu t<|Vh t):=Zuj t fun _ _=>Zkx t 25 _ _ _
def KQ {α:Type} (f:De α):Prop:= ∀ l e,f l= .error e->PO e
def QJ {α β:Type}{f:De α}{g:α->De β}(h:KQ f)(hg: ∀ x,KQ<|g x):KQ (f.then g):=fun l e he=>by
 unfold De.then at he;split at he
 ·rename_i h';cases he;exact h _ _ h'
 ·exact hg _ _ _ he
def Ry {α β:Type}{f:De α}{g:α->β}(h:KQ f):KQ (f.map g):=fun l e he=>by
 unfold De.map at he;split at he
 ·rename_i h';cases he;exact h _ _ h'
 ·cases he
def Ua {α:Type}[Decidable c]{f g:De α}(hf:KQ f)(hg:KQ g):KQ (if c then f else g):=by split <;> assumption
def bG {α:Type}(h:PO n):KQ (α:=α) fun _=> .error n:=fun _ _ h'=>by cases h';exact h
def jk:KQ LY:=fun l e h=>by cases l <;> cases h;exact r6
def vJ (n:Nat):KQ (Jt n):=fun l e h=>by
 unfold Jt at h;split at h <;> cases h
 exact r6
def Z25: ∀ (l:By) (k n:Nat) (e:Int),P6 k n l= .error e->PO e
 | [],k,n,e,h=>by cases h;exact r6
 | c::l,k,n,e,h=>by
  rw[P6]at h;split at h
  ·cases h;exact r7
  ·split at h
   ·cases h
   ·exact Z25 l _ _ e h
def qw:KQ Qm:=fun l e h=>Z25 l 0 0 e h
def Zrx:KQ Xm:=Ry<|QJ qw vJ
def Z3p {α:Type}{f:De α}(h:KQ f): ∀ n,KQ (FR f n)
 | 0=>fun l e he=>by cases he
 | n+1=>QJ h fun _=>Ry (Z3p h n)
def Zb {α:Type}(m:Nat){f:De α}(h:KQ f):KQ (DF m f):=QJ qw fun _=>Ua (bG r4) (Z3p h _)
def vH: ∀ d,KQ (MO d)
 | 0=>QJ jk fun _=>Ua (Ry qw) (Ua (Ry jk)<|Ua (bG r3)<|Ua (Ry Zrx)<|bG r7)
 | d+1=>QJ jk fun _=>Ua (Ry qw) (Ua (Ry jk)<|Ua (Ry<|Zb 6<|vH d)<|Ua (Ry Zrx)<|bG r7)
def Zpw:KQ ZF:=QJ Zrx fun _=>Ry (Zb 6<|vH 3)
def Zw1:KQ Y9:=QJ (Zb 4 Zpw) fun _=>Ry (Zb 4 (QJ jk fun _=>QJ (vH 3) fun _=>Ry (vH 3)))
def Z4n:KQ Xp:=QJ (Zb 24 Zpw) fun _=>QJ (Zb 24 (QJ Zpw fun _=>Ry Zw1)) fun _=>Ry (Zb 24<|Zb 4 Zw1)
def Wr (n:Int):Prop:=n=0\/PO n
def Ht [Decidable c]{x y:Int}(hx:Wr x)(hy:Wr y):Wr (if c then x else y):=by split <;> assumption
def Vw:Wr 0:= .inl rfl
def ul {α:Type}{f:α->Int}(h: ∀ x,Wr<|f x): ∀ l,Wr (EU f l)
 | []=>Vw
 | _::l=>Ht (h _) (ul h l)
def qH {α:Type}{f:α->Int}(h: ∀ x,Wr<|f x)(m:Nat)(l:List α):Wr (Ei f m l):=Ht (.inr r4)<|ul h l
def Yiw (d:Nat)(k i:Int)(t:Ay)(n:Nat):Wr (Oc d k i t n):=Ht (.inr r2) (Ht (.inr r4)<|Ht (.inr r3) Vw)
mutual
def Zr9: ∀ (x:T) (d:Nat),Wr (BR d x)
 | .mk k i t l,d=>by rw[BR];exact Ht (Yiw _ _ _ _ _)<|Zun l<|d+1
def Zun: ∀ (l:List T) (d:Nat),Wr (bJ d l)
 | [],d=>by rw[bJ];exact Vw
 | x::r,d=>by rw[bJ];exact Ht (Zr9 x d)<|Zun r d
end
def Zr6 (a:A):Wr (FH a):=Ht (.inr r2)<|qH (fun x=>Zr9 x 0) _ _
def Zou (b:List A)(t:T):Wr (PI b t):=Ht (Zr9 _ _)<|Ht (.inr r5) Vw
def Zot (r:R):Wr (JQ r):=Ht (.inr r2)<|Ht (.inr r4)<|Ht (ul Zr6 _)<|ul (fun _=>Ht (.inr r2) (Ht (Zou _ _)<|Zou _ _)) _
def Znz (b:Bk):Wr (IU b):=Ht (qH (fun _=>Ht (Zr6 _) (Ht (.inr r5) Vw)) _ _)<|Ht (qH (fun _=>Ht (Zr6 _) (Ht (Zot _)<|Ht (.inr r5) Vw)) _ _)<|qH (fun _=>Ht (.inr r2) (qH (fun _=>Ht (.inr r2) (Zot _)) _ _)) _ _
def Z44 {l:By}{e:Int}(h:Qn l= .error e):PO e:=by
 unfold Qn at h;split at h
 .cases h;exact r4
 .split at h
  .rename_i h';cases h;unfold GZ at h';split at h'
   .rename_i h2;cases h';exact Z4n _ _ h2
   .split at h' <;> cases h'
    exact r7
  .rename_i x _;split at h
   .rename_i hw;cases h;exact(Znz x).resolve_left hw
   .cases h
variable {B b o:Nat}{w:Bb}{vs:Bu}{x:A}
def Ap.mem {α:Type}{s:Nat}{Q:Nat->Nat->α->Prop}{p:Bp}{xs:List α}(h:Ap s Q p xs){y:α}(hy:y∈xs): ∃ b o,Q b o y:=by
 obtain⟨i,hi⟩:=List.mem_iff_getElem?.mp hy;obtain⟨b,o,_,q⟩:=h.at_ i y hi;exact⟨_,_,q⟩
def He.inT: ∀ {k d b o:Nat} {x:T},k<d->He B w d b o x->InT k x
 | 0,d+1,b,o,x,_,h=>by
  obtain⟨_,p,c,_,_,_,_,_,_,_,_,_,hi,_⟩:=h.vals;exact hi
 | k+1,d+1,b,o,x,hk,h=>by
  obtain⟨_,p,c,_,_,_,_,_,_,_,_,_,hi,_,hr⟩:=h.vals;exact⟨hi,fun y hy=>by obtain⟨_,_,q⟩:=hr.mem hy;exact He.inT zx q⟩
def Ed.inT {x:T}(hd:2<d)(h:Ed B w d vs x):InT 3 x:=by
 obtain⟨_,_,_,_,_,hi,_,hr⟩:=h;exact⟨hi,fun y hy=>by obtain⟨_,_,q⟩:=hr.mem hy;exact He.inT hd q⟩
def Jz.mH (hd:2<d)(h:Jz B w d vs x):ky x:=by
 obtain⟨_,_,_,_,_,hr⟩:=h;exact fun y hy=>by obtain⟨_,_,q⟩:=hr.mem hy;exact He.inT zx q
def Ep.mH (hd:3<d)(h:Ep B w d b o x):ky x:=by
 obtain⟨d,rfl⟩: ∃ e,d=e+1:=⟨d-1,zx⟩;obtain⟨_,_,_,_,_,s⟩:=h.vals;exact s.mH zx
def QK.iV {x:G}(hd:3<d)(h:QK B w d b o x):InG x:=by
 obtain⟨d,rfl⟩: ∃ e,d=e+1:=⟨d-1,zx⟩;obtain⟨_,_,_,_,_,_,_,_,_,_,_,_,_,_,s⟩:=h.vals;obtain⟨_,_,_,_,h1,h2⟩:=s;exact⟨h1.inT zx,h2.inT zx⟩
def FJ.inR {x:R}(hd:3<d)(h:FJ B w d b o x):kw x:=by
 obtain⟨d,rfl⟩: ∃ e,d=e+1:=⟨d-1,zx⟩;obtain⟨_,_,_,_,_,_,_,_,_,_,_,s⟩:=h.vals;obtain⟨_,_,_,_,_,_,h1,_,h2,_,h3⟩:=s;exact⟨h1.mH zx,fun y hy=>by obtain⟨_,_,q⟩:=h2.mem hy;exact q.mH zx,fun y hy=>by obtain⟨_,_,q⟩:=h3.mem hy;exact q.iV zx⟩
def EZ.cZ {x:Bk}(hd:2<d)(h:EZ B w d vs x):QA x:=by
 obtain⟨_,_,_,_,_,_,_,_,h1,_,h2,_,h3⟩:=h;refine⟨fun y hy=>by obtain⟨_,_,q⟩:=h1.mem hy;exact q.mH zx,fun y hy=>by obtain⟨_,_,q⟩:=h2.mem hy;exact q.inR zx,fun y hy=>?_⟩;obtain⟨_,_,q⟩:=h3.mem hy;obtain⟨_,_,_,_,s⟩:=q.vals;obtain⟨_,_,_,_,h4⟩:=s;exact fun r hr=>by obtain⟨_,_,q⟩:=h4.mem hr;exact q.inR zx
end Go.W
set_option linter.defProp false
namespace Go.W
structure YI {α:Type} (e:TypeId) (s:Nat) (Q:Du α) (B:Nat) (w w1:Bb) (F G:Cg) (v:Value) (ys:List α) (F':Cg):Prop where
 row:AQ e s Q w1 v ys F'
 new:Ag B w1 F'
 sub: ∀ k,k∈F'->k∈F\/k∈G\/w.heap.size<=k
 os:w1.os=w.os
 tape:w1.tape=w.tape
 output:w1.output=w.output
 size:w.heap.size<=w1.heap.size
 same: ∀ k,k<w.heap.size->k∉F->w1.heap[k]?=w.heap[k]?
def Zsw (w:Bb)(o o':Obj):((w.alloc o).alloc o').heap[w.heap.size+1]?=some o':=by
 have:=Hw (w.alloc o) o'
 simpa using this
section
def Js {α:Type}{Q:Du α}{N t e s z:Nat}(I:Sh 272 137 205 139 134 79 0 N t e s z Q){a:Nat->Addr}{w:Bb}{B m k:Nat}{p:Bp}{c:Nat}{xs:List α}{x:α}{vs:Bu}{F F2:Cg}(Z:AZ a w)(hR:AQ e s Q w (sP p xs.length c) xs F)(hQ:Q w vs x F2)(hB:B<=w.heap.size)(hN:Ag B w F)(BZ:Ag B w F2)(hD: ∀ j,j∈F->j∉F2)(hm:m<1000)(hl:xs.length<=m):
  Calls prog N #[sP p xs.length c,.agg vs.toArray,zo (m:Int),zo (k:Int)] w fun r w'=>(xs.length=m/\Wm a 4 k w.heap.size r w'/\Bl w w')\/(xs.length≠m/\ ∃ p' c' F',r=uY (sP p' (xs.length+1) c')/\YI e s Q B w w' F F2 (sP p' (xs.length+1) c') (xs++[x]) F'):=by
 obtain⟨HI,I⟩:=I;have HI:=AC HI;have H:=AC<|AJ hR<|AJ hQ<|AJ hN BZ;have HD:=AC hD;have z4:=fun o=>Cb Z.c4 ((AR _ w).alloc lr o);have CS:=AC fun u=>Xw a (n:=4) zu k u;obtain⟨n,hn⟩:=fu (xs.length);have HX:=AC hn;rw[hn];clear hR hN BZ hD Z;rcases I with⟨_,rfl,rfl,hs,hV⟩ | ⟨h,_⟩ | ⟨rfl,rfl,hs,hV⟩ | ⟨rfl,rfl,hs,hV⟩ | ⟨rfl,rfl,hs,hV⟩ | ⟨rfl,rfl,hs,hV⟩ | ⟨rfl,rfl,hs,hV⟩;rotate_left
 .cases h
 all_goals
  have HS:=AC hs;clear hs;refine hV hQ ?_;intros
  rename_i hv;subst hv;clear hQ hV;go_in
  by_cases Dp:n=m
  .have g1:((n:Int)==(m:Int))=true:=by rw[DR];omega
   have E:=AC Dp;clear Dp hn;go_wp2_with fail
   apply(CS.o _).mono;rintro e w2 ⟨⟨L,hL,rfl,Io⟩,hb⟩;exact⟨rfl,Or.inl ⟨E.o,⟨L,by simp at hL;omega,rfl,Io⟩,((AR _ w).alloc lr _).trans<|hb.mono zw⟩⟩
  .have g1:((n:Int)==(m:Int))=false:=zj
   have E:=AC Dp;have GU:xs.length<100000000:=zx
   clear Dp hn CS z4;go_wp2_with (at_builtin;go_must (refine Nu HI.o.1 rfl _ _ rfl HI.o.2.1 HI.o.2.2 B (sP p n c) xs F rfl (AQ.sb HI.o.2.1 _ _ _ _ _ (HX.o▸H.o.1) fun j hj=>(Ah _ _ _ (by have:=H.o.2.2.1.lt j hj;simp;omega)).trans (Ah _ _ _<|H.o.2.2.1.lt j hj)) (w.heap.size+1) _ _ _ x F2 rfl (Zsw _ _ _) HS.o.symm (HI.o.2.1 _ _ _ _ _ H.o.2.1 fun j hj=>(Ah _ _ _ (by have:=H.o.2.2.2.lt j hj;simp;omega)).trans (Ah _ _ _<|H.o.2.2.2.lt j hj)) GU zc (H.o.2.2.1.la lr zc) (H.o.2.2.2.la lr zc) HD.o ?_);intro g3 cap3 w4 F3 AM)
   have R4:=AM.row;rw[HX.o]at R4;try rw[HX.o]
   go_ret
   exact Or.inr ⟨E.o,_,_,F3,rfl,⟨R4,AM.new,fun j hj=>(AM.sub j hj).imp_right fun h=>h.imp_right fun h=>by simp at h;omega,AM.os,AM.tape,AM.output,by have:=AM.size;simp at this;omega,fun j hj hF=>(AM.same j zc hF).trans ((Ah _ _ _ zc).trans<|Ah _ _ _ hj)⟩⟩
def Z0r {d:Nat}:= @Js _ (BQ AV<|d+1) _ _ _ _ _<|shT (d:=d)
def Zq3 {d:Nat}:= @Js _ (Bz AV d) _ _ _ _ _<|shA (d:=d)
def Zx4 {d:Nat}:= @Js _ (Eo AV<|d+1) _ _ _ _ _<|shG (d:=d)
def Zq4 {d:Nat}:= @Js _ (DI AV d) _ _ _ _ _<|shR (d:=d)
def Zx3 {d:Nat}:= @Js _ (Ew AV d) _ _ _ _ _<|shC (d:=d)
def wS {d:Nat}:= @Js _ (DY AV d) _ _ _ _ _<|shP (d:=d) zu
end
variable {t:Ay}{x y:Tk}{p q:Nat}{u:Unit}
def Jr (x:Tk):Prop:=x.text.size<1000000000/\x.s.size<1000000000/\Gq x.k/\Gq x.i
def jq:Gq 0:=⟨zu,zu⟩
def Z22 (q:Nat):Jr (KR q):=⟨by show(0:Nat)<_;decide,by show(0:Nat)<_;decide,jq,jq⟩
def Z53 {l:List UInt8}{v:Int}(h:Lib.parseIntB 64 l= .ok v):Gq v:=by
 unfold Lib.parseIntB at h;split at h
 .cases h
 .rename_i c r;simp only at h;split at h
  .cases h
  .cases h
  .rename_i u _;split at h
   .cases h
   .rename_i h1;split at h
    .cases h
    .rename_i h2;cases h;unfold Gq;by_cases hn:c.toNat=45
     .rw[xj hn]
      have: ¬ 2 ^ (64-1)<u:=fun z=>h2 ⟨hn,z⟩
      have e:(2:Nat) ^ (64-1)=9223372036854775808:=zu
      omega
     .rw[xd hn]
      have: ¬ 2 ^ (64-1)<=u:=fun z=>h1 ⟨hn,z⟩
      have e:(2:Nat) ^ (64-1)=9223372036854775808:=zu
      omega
def Z2m (ht:t.size<=8000)(p q:Nat):(t.extract p q).size<1000000000:=by
 rw[YB];omega
def Z73 (hx:Jr x)(h:Ue t x p= .ok (u,y,q)):Jr y:=by
 unfold Ue at h;dsimp only at h;split at h
 .cases h
 .split at h
  .cases h
  .rename_i DK;cases h;refine⟨hx.1,?_,⟨by show(-9223372036854775808:Int)<=4;decide,by show(4:Int)<=9223372036854775807;decide⟩,jq⟩;show(WX _ _ _).toArray.size<_;rw[GN,q9];omega
def Yf5 {n:Int}(h:Tj t x p= .ok (n,y,q)):Gq n:=by
 unfold Tj at h;dsimp only at h;generalize (if(Ac t).getD p 0=45 then p+1 else p)=p1 at h;split at h
 .cases h
 .split at h
  .rename_i hp;cases h;exact Z53 hp
  .cases h
def Z9x {qq k:Int}(hx:Jr x)(hk:Gq k)(h:Ti t qq k x p= .ok (u,y,q)):Jr y:=by
 unfold Ti at h;split at h
 .cases h
 .rename_i hi;cases h;exact⟨hx.1,hx.2.1,hk,Yf5 hi⟩
def Ya3 (ht:t.size<=8000){c:Nat}(h:Ud t c p= .ok (u,y,q)):Jr y:=by
 have hx:=Z22 p;unfold Ud at h;split at h
 .unfold Xk at h;dsimp only at h;split at h
  .cases h
  .split at h
   .exact Z73 hx h
   .cases h;exact⟨Z2m ht _ _,hx.2⟩
 split at h
 .unfold Zd at h;dsimp only at h;split at h
  .cases h
  .split at h
   .cases h
   .cases h;exact⟨hx.1,Z2m ht _ _,⟨by show(-9223372036854775808:Int)<=1;decide,by show(1:Int)<=9223372036854775807;decide⟩,jq⟩
 split at h
 .unfold O4 at h;split at h
  .cases h
  .split at h
   .cases h
   .rename_i DK;cases h;refine⟨hx.1,?_,⟨by show(-9223372036854775808:Int)<=3;decide,by show(3:Int)<=9223372036854775807;decide⟩,jq⟩;show(List.toArray _).size<_;rw[GN];omega
 split at h
 .exact Z9x hx ⟨zu,zu⟩ h
 split at h
 .exact Z9x hx ⟨zu,zu⟩ h
 .unfold Xg at h;split at h
  .cases h
  .rename_i m hm;cases h;refine⟨?_,hx.2⟩;have dW:=List.mem_of_find?_eq_some hm;have hall: ∀ m∈Rx,m.size<1000000000:=zu
   exact hall m dW
def Zv4 (ht:t.size<=8000)(h:Np t p= .ok (u,y,q)):Jr y:=by
 unfold Np at h;split at h
 .cases h;exact Z22 _
 .exact Ya3 ht h
def Wn (ht:t.size<=8000){z:Tk}(h:En t x p= .ok (z,y,q)):Jr y/\z=x:=by
 unfold En at h;split at h
 .cases h
 .rename_i hr;cases h;exact⟨Zv4 ht hr,rfl⟩
def qI (ht:t.size<=8000){s:List UInt8}{z:Unit}(h:Nk t s x p= .ok (z,y,q)):Jr y:=by
 unfold Nk at h;split at h
 .unfold Bf at h;split at h
  .cases h
  .rename_i hr;cases h;exact(Wn ht hr).1
 .cases h
def MJ (a:Nat->Addr) (b:Nat) (w:Bb) (t:Ay) (u:Bb) (p:Nat) (x:Tk):Prop:=Rd u b t p x/\Ad b w u/\AZ a u/\Jr x
def Zx1 (x:Tk)(w:Bb):Calls prog 71 #[Jc x] w fun e w'=>e=uY (.bool<|Go.W.Oo x)/\Bl w w':=by
 have B:=AC<|(AR _ w).alloc lr<|.cells #[zo (x.at_:Int),um x.text,zo x.k,zo x.i,um x.s,zn] 180;have e0:Go.W.Oo x=((x.text.toList==[]) && (x.k==0)):=by
  unfold Go.W.Oo;rw[X4,Z9c]
 rw[e0];unfold Jc;go_in
 cases h1:(x.text.toList==[]);all_goals
  go_wp2_with fail
  all_goals go_ret
  all_goals exact⟨zw,B.o⟩
def Ztr (x:Tk)(hx:x.text.size<1000000000)(w:Bb):Calls prog 201 #[Jc x] w fun e w'=>e=uY (.bool<|Nj x.text)/\Bl w w':=by
 have B:=AC<|(AR _ w).alloc lr<|.cells #[zo (x.at_:Int),um x.text,zo x.k,zo x.i,um x.s,zn] 180;have C:=AC<|Zk5<|(Ac x.text).getD 0 0;unfold Jc;by_cases h0:x.text.size=0
 .have e0:Nj x.text=false:=by unfold Nj;rw[I8 zx];rfl
  have e1:(x.text.toList==[])=true:=by rw[X4];exact Nv h0
  rw[e0];clear C;go_in
  go_wp2_with fail
  all_goals go_ret
  all_goals exact⟨rfl,B.o⟩
 .have e0:Nj x.text=SF ((Ac x.text).getD 0 0):=by unfold Nj;rw[Nv h0];rfl
  have e1:(x.text.toList==[])=false:=by rw[X4];exact I8 h0
  have hp:0<x.text.size:=zx
  have hb:=ZQ x.text 0 hp;rw[e0];generalize (Ac x.text).getD 0 0=c at*;generalize SF c=z at*;clear e0;go_in
  go_wp2_with (go_at_call 127;apply(C.o _).mono;rintro e w' ⟨rfl,rfl⟩)
  all_goals go_ret
  all_goals exact⟨zw,B.o⟩
def jc {a:Nat->Addr}{w:Bb}{b:Nat}{t:Ay}{p:Nat}{x:Tk}(s:Ay)(Z:AZ a w)(h:Rd w b t p x):
  Calls prog 74 #[zq b 0,um s] w (JO a b t VU w<|Nk t s.toList x p):=by
 obtain⟨c0,c1,c2,c3,c4,c5,c6,c7,sf⟩:=h.1.eight;have CR:=AC<|QM a (n:=2) zu h;have CT:=AC<|Vg Z h;have z2:=Z.c2;have H:=AC h;clear Z h;go_in
 by_cases hs:x.text.toList=s.toList
 .have g:(x.text.toList==s.toList)=true:=by rw[DR];exact hs
  have Y:=AC (show Nk t s.toList x p=Bf (En t x p) fun _ x' p'=> .ok ((),x',p')from xj hs);clear CR z2 hs;go_wp2_with fail
  apply CT.o.mono;rintro e w1 ⟨hk4,⟨n,r,hy,hn,L,hL,rfl,hB⟩ | ⟨v,y,x2,r,hy,rfl,hv,hr4⟩⟩
  .exact⟨rfl,hk4,Or.inl ⟨n,r,Y.o.trans<|Es hy,hn,L,hL,rfl,hB⟩⟩
  .obtain rfl:v=Jc y:=hv;have R:=AC<|AJ hk4<|AJ (Y.o.trans<|Ee hy) hr4;clear hk4 hy hr4;go_wp2_with fail
   exact⟨rfl,_,(by simp[results,results74,go_sem];try rfl),R.o.1,Or.inr ⟨_,_,_,_,R.o.2.1,rfl,rfl,R.o.2.2⟩⟩
 .have g:(x.text.toList==s.toList)=false:=by rw[BJ];exact hs
  have Y:=AC (show Nk t s.toList x p= .error (2,x.at_)from xd hs);clear CT hs;go_wp2_with fail
  apply CR.o.mono;rintro e w2 ⟨⟨L,hL,rfl,hB⟩,hb⟩;exact⟨rfl,(Ad.refl b w).AU hb,Or.inl ⟨2,_,Y.o,zu,L,hL,rfl,hB⟩⟩
end Go.W
set_option linter.defProp false
namespace Go.W
variable {x2:Tk}{r:Nat}
section
variable {α:Type} {t:Ay} {f:Tk->Nat->Re α} {l:List UInt8} {m k:Nat} {xs:List α} {x:Tk} {p:Nat}
def Zyv {e:Int×Nat}(h:f x p= .error e):Jd t f l m (k+1) xs x p= .error e:=by rw[Jd];exact Es h
def Z3v {z:α}(h:f x p= .ok (z,x2,r))(hm:xs.length=m):Jd t f l m (k+1) xs x p= .error (4,x.at_):=by rw[Jd,Ee h,xj hm]
def Yao {z:α}(h:f x p= .ok (z,x2,r))(hm:xs.length≠m)(hl:x2.text.toList≠l):Jd t f l m (k+1) xs x p= .ok (xs++[z],x2,r):=by rw[Jd,Ee h,xd hm,xd hl]
def Z3w {z:α}(h:f x p= .ok (z,x2,r))(hm:xs.length≠m)(hl:x2.text.toList=l):(∀ e,En t x2 r= .error e->Jd t f l m (k+1) xs x p= .error e)/\ ∀ y x3 r3,En t x2 r= .ok (y,x3,r3)->Jd t f l m (k+1) xs x p=Jd t f l m k (xs++[z]) x3 r3:=by
 rw[Jd,Ee h,xd hm,xj hl];exact⟨fun e he=>Es he,fun y x3 r3 he=>Ee he⟩
def Ad.Py {e:TypeId}{s:Nat}{Q:Du α}{B:Nat}{w w1:Bb}{F G:Cg}{v:Value}{ys:List α}{F':Cg}(h:YI e s Q B w w1 F G v ys F'){b:Nat}{w0:Bb}(k:Ad b w0 w)(hF: ∀ i,i∈F->w0.heap.size<=i):Ad b w0 w1:=
 ⟨h.os.trans k.os,h.tape.trans k.tape,h.output.trans k.output,Ab k.size h.size,fun j hj hb=>(h.same j (BK hj k.size) (fun zL=>by have:=hF j zL;omega)).trans (k.block j hj hb)⟩
end
section
def Yec {α:Type} (e:TypeId) (s:Nat) (Q:Du α) (a:Nat->Addr) (b:Nat) (t:Ay) (f:Tk->Nat->Re α) (l:List UInt8) (m:Nat) (Y:Re (List α)) (w:Bb) (tv:Value) (wr:Bb):Prop:=
 ∃ (xs:List α) (F:Cg) (pp:Bp) (c:Nat) (x:Tk) (p:Nat),tv= sP pp xs.length c/\xs.length<=m/\AQ e s Q wr tv xs F/\Ag w.heap.size wr F/\MJ a b w t wr p x/\Jd t f l m (m+1-xs.length) xs x p=Y
def az:Value->Nat | .slice _ n _=>n | _=>0
def Zri {α:Type}{Q:Du α}{N J tt ee sz zb:Nat}(I:Sh 272 137 205 139 134 79 0 J tt ee sz zb Q)(IN:(N=247/\J=272)\/(N=140/\J=139)){K:Nat}(hen:Da K){first cap:Ca}{f:Tk->Nat->Re α}{a:Nat->Addr}{w:Bb}{b m:Nat}{t:Ay}{p:Nat}{x:Tk}(s:Ay)(Z:AZ a w)(h:Rd w b t p x)(hx:Jr x)(hm:m<1000)
  (HC: ∀ u p x,MJ a b w t u p x->Calls prog K (first++cap) u (JO a b t (Ie Q u.heap.size) u<|f x p)):
  Calls prog N #[zq b 0,um s,zo (m:Int),.func (.func K) first cap] w (JO a b t (S9 ee sz Q w.heap.size) w<|Jd t f s.toList m (m+1) [] x p):=by
 have HH:=AC HC;have Dz: ∀ args w,(callFunc K args).run prog w= .ok (.enter K args) w:=hen;have hg:=h.2.2.2;have ht:=h.2.1;have E9:=h.1.lt;have D0:AF (MJ a b w t w p x):=⟨h,Ad.refl _ _,Z,hx⟩;have ZW:=AC Z;clear HC hen Z h hx;have HI:=AC I;clear I;rcases IN with⟨rfl,rfl⟩ | ⟨rfl,rfl⟩;all_goals
  go_in
  go_wp2
  go_loopw [9] (fun tv wr=>Yec ee sz Q a b t f s.toList m (Jd t f s.toList m (m+1) [] x p) w tv wr) (fun tv _=>m+1-az tv)
  .exact⟨[],[],none,0,x,p,rfl,zw,AQ.nil,Ag.nil _ _,D0.o,rfl⟩
  .clear D0;obtain⟨xs,F,pp,c,y,q,rfl,VB,hR,hN,hD,hY⟩:=hrel;obtain⟨c0,c1,c2,c3,c4,c5,c6,c7,sf⟩:=hD.1.1.eight;obtain⟨k,hk⟩: ∃ k,m+1-xs.length=k+1:=⟨m-xs.length,zx⟩;rw[hk]at hY;have HR:=AC hR;have HN:=AC hN;have HD:=AC hD;have HY:=AC hY;have CC:=AC<|HH.o _ _ _ hD;have dH:=hD.2.1.size;generalize Jd t f s.toList m (m+1) [] x p=Y at*;clear hR hN hD hY HH;go_wp2_with fail
   apply CC.o.mono;rintro e w2 ⟨hk2,⟨n,r,hy,hn,L,hL,rfl,hB⟩ | ⟨v,z,x2,r,hy,rfl,⟨vs,F2,rfl,hQ,BZ⟩,hr2⟩⟩
   .exact⟨rfl,HD.o.2.1.trans hk2,Or.inl ⟨n,r,HY.o.symm.trans<|Zyv hy,hn,L,Ab dH hL,rfl,hB⟩⟩
   have hs2:=hk2.size;have bF: ∀ j,j∈F->j≠b:=fun j hj=>fw (HN.o.ge j hj)
   have R2:AQ ee sz Q w2 (sP pp xs.length c) xs F:=AQ.sb HI.o.1.2.1 _ _ _ _ _ HR.o fun j hj=>hk2.block j (HN.o.lt j hj) (bF j hj);have Z2:=HD.o.2.2.1.keeps hk2 hg;have CJ:=AC<|Js HI.o (B:=w.heap.size) (m:=m) (k:=y.at_) Z2 R2 hQ zx (HN.o.la lr hs2) (BZ.la zx lr) (fun j hj Am=>jE (HN.o.lt j hj) (BZ.ge j Am)) hm VB;have K2:=AC<|HD.o.2.1.trans hk2;have Ao:=AC hr2;have GE:=AC HN.o.ge;have HE:=AC hy;clear hk2 hQ BZ hr2 hy CC HR HN HD R2 Z2 c0 c1 c2 c3 c4 c5 c6 c7 sf bF;go_wp2_with fail
   apply CJ.o.mono;rintro e w3 (⟨hE,⟨L,hL,rfl,hB⟩,hb⟩ | ⟨hne,p',c',F',rfl,hG⟩)
   .exact⟨rfl,K2.o.AU hb,Or.inl ⟨4,_,HY.o.symm.trans<|Z3v HE.o hE,zu,L,zx,rfl,hB⟩⟩
   have K3:=AC<|Ad.Py hG K2.o GE.o;have hr3:Rd w3 b t r x2:=⟨Ao.o.1.of<|hG.same b Ao.o.1.lt (fun hj=>fw (GE.o b hj)),Ao.o.2⟩;have Dn:=AC hr3;obtain⟨c0,c1,c2,c3,c4,c5,c6,c7,sf⟩:=hr3.1.eight;have HG:=AC hG;have hs3:=hG.size;have Z3:AF (AZ a w3):=⟨ZW.o.keeps K3.o hg⟩;clear hG hr3 CJ Ao;by_cases hl:x2.text.toList=s.toList
   .have g1:(x2.text.toList==s.toList)=true:=by rw[DR];exact hl
    have M:=AC<|Z3w (l:=s.toList) (k:=k) (t:=t) HE.o hne hl;have CT:=AC<|Vg Z3.o Dn.o;clear hl HE;go_wp2_with fail
    apply CT.o.mono;rintro e w4 ⟨hk4,⟨n,r4,hy,hn,L,hL,rfl,hB⟩ | ⟨v,y4,x4,r4,hy,rfl,hv,hr4⟩⟩
    .exact⟨rfl,K3.o.trans hk4,Or.inl ⟨n,r4,HY.o.symm.trans<|M.o.1 _ hy,hn,L,zx,rfl,hB⟩⟩
    .obtain rfl:v=Jc y4:=hv;have UL:=hk4.size;have RR:AQ ee sz Q w4 (sP p' (xs.length+1) c') (xs++[z]) F':=AQ.sb HI.o.1.2.1 _ _ _ _ _ HG.o.row fun j hj=>hk4.block j (HG.o.new.lt j hj) (fw (HG.o.new.ge j hj));have aS:=HY.o.symm.trans<|M.o.2 _ _ _ hy;have R:=AC<|AJ RR<|AJ (HG.o.new.la lr UL)<|AJ (show MJ a b w t w4 r4 x4 from⟨hr4,K3.o.trans hk4,Z3.o.keeps hk4 hg,(Wn ht hy).1⟩) aS;clear RR hk4 hy hr4 aS;go_wp2
     exact⟨⟨xs++[z],F',p',c',x4,r4,zw,zc,by simpa using R.o.1,R.o.2.1,R.o.2.2.1,by rw[<- R.o.2.2.2.symm];congr 1;simp;omega⟩,by simp[az];omega⟩
   .have g1:(x2.text.toList==s.toList)=false:=by rw[BJ];exact hl
    have E:=AC<|HY.o.symm.trans<|Yao (l:=s.toList) (k:=k) (t:=t) HE.o hne hl;clear hl HE;go_wp2
    go_ret
    exact⟨K3.o,Or.inr ⟨_,xs++[z],x2,r,E.o,rfl,⟨F',by simpa using HG.o.row,HG.o.new⟩,Dn.o⟩⟩
def Zsz {d:Nat}:= @Zri _ (BQ AV<|d+1) _ _ _ _ _ _ (shT (d:=d))<|.inl ⟨rfl,rfl⟩
def Zsy {d:Nat}:= @Zri _ (DI AV d) _ _ _ _ _ _ (shR (d:=d))<|.inr ⟨rfl,rfl⟩
end
variable {w:Bb}{b p d:Nat}{t:Ay}{x:Tk}{a:Nat->Addr}
def Zsl:Da 248:=EH func248 zt rfl
def qc (d:Nat):Prop:= ∀ {a:Nat->Addr} {w:Bb} {b:Nat} {t:Ay} {p:Nat} {x:Tk},AZ a w->Rd w b t p x->Jr x->Calls prog 249 #[zq b 0,zo ((3-d:Nat):Int)] w (JO a b t (Ie (BQ AV<|d+1) w.heap.size) w<|Ha t d x p)
def ZJ (l:List UInt8):(⟨l.toArray⟩:Ay).toList=l:=by rw[Nw]
def Rd.Gz {w':Bb}(h:Rd w b t p x)(k:w'.heap[b]?=w.heap[b]?):Rd w' b t p x:=⟨h.1.of k,h.2⟩
def Z1e (ih:qc d){L1 L2:Nat}(Z:AZ a w)(h:Rd w b t p x)(hx:Jr x)(k1:w.cell? (zm L1 0)=some (zq b 0))(k2:w.cell? (zm L2 0)=some (zo ((3-d:Nat):Int))):
  Calls prog 248 #[zq L1 0,zq L2 0] w (JO a b t (Ie (BQ AV<|d+1) w.heap.size) w<|Ha t d x p):=by
 have l1:=fun o=>Cb k1 ((AR _ w).alloc lr o);have l2:=fun o=>Cb k2 ((AR _ w).alloc lr o);have C:=AC<|ih (Z.be<|(AR _ w).alloc lr<|.cells #[zo 0,zo 0,sE,zn] 95) (h.alloc<|.cells #[zo 0,zo 0,sE,zn] 95) hx;have hb:=h.1.lt;have L0:=AC<|AO.new w #[zo 0,zo 0,sE,zn] 95;have K0:=AC<|(Ad.refl b w).alloc<|.cells #[zo 0,zo 0,sE,zn] 95;obtain⟨dd,hdd⟩: ∃ z:Int,((3-d:Nat):Int)=z:=⟨_,rfl⟩;rw[hdd]at l2 C;clear k1 k2 Z h hdd;go_in
 go_wp2_with fail
 apply C.o.mono;rintro e w1 ⟨AX,⟨n,r,hy,hn,L,hL,rfl,hB⟩ | ⟨v,y,x2,r,hy,rfl,⟨vs,F,rfl,hQ,hN⟩,hr1⟩⟩
 .exact⟨rfl,K0.o.trans AX,Or.inl ⟨n,r,hy,hn,L,by simp at hL;omega,rfl,hB⟩⟩
 .obtain⟨p1,c1,rfl⟩:=BQ.vals hQ;obtain⟨y0,y1,y2,y3,sf⟩:=(L0.o.of<|AX.block w.heap.size zw zx).four;have R:=AC<|AJ hQ<|AJ hN<|AJ hr1<|AJ hy<|K0.o.trans AX;clear hQ hN hr1 hy AX C;go_wp2
  refine Bg (by simp[results,results248,go_sem,y0,y1,y2,y3];try rfl) rfl ?_;obtain⟨hQ,hN,hr1,hy,AX⟩:=R.o;exact⟨AX.r4 lr,Or.inr ⟨_,y,x2,r,hy,rfl,⟨_,F,rfl,BQ.sb (d+1) _ _ _ _ _ hQ fun j hj=>KY (by have:=hN.ge j hj;simp at this;omega),hN.la zw zw⟩,hr1.Gz<|KY zx⟩⟩
def Zue (ih:qc d)(s:Ay)(Z:AZ a w)(h:Rd w b t p x)(hx:Jr x):
  Calls prog 203 #[zq b 0,um s,zo ((3-d:Nat):Int)] w (JO a b t (S9 95 4 (BQ AV<|d+1) w.heap.size) w<|TN t (Ha t d) s.toList x p):=by
 have Ho:=MR;obtain⟨dd,hdd⟩: ∃ z:Int,((3-d:Nat):Int)=z:=⟨_,rfl⟩;have B0:=AC<|(zv w<|.cells #[zq b 0] 105).alloc zw<|.cells #[zo dd] 3;have K0:=AC<|((Ad.refl b w).alloc<|.cells #[zq b 0] 105).alloc<|.cells #[zo dd] 3;have L1:=AC<|(AO.new w #[zq b 0] 105).alloc<|.cells #[zo dd] 3;have L2:=AC<|AO.new (w.alloc<|.cells #[zq b 0] 105) #[zo dd] 3;have hb:=h.1.lt;have hg:=h.2.2.2;have H0:=AC<|(h.alloc<|.cells #[zq b 0] 105).alloc<|.cells #[zo dd] 3;have Z0:=AC<|Z.be B0.o;have C:=AC (Zsz (d:=d) (f:=Ha t d) Zsl (first:=#[]) (cap:=#[zq w.heap.size 0,zq (w.heap.size+1) 0]) (m:=6) ⟨#[44]⟩ Z0.o H0.o hx zx fun u q y hu=>Z1e ih hu.2.2.1 hu.1 hu.2.2.2 ((L1.o.of<|hu.2.1.block w.heap.size zc zx).one.1) (by rw[hdd];have:=(L2.o.of<|hu.2.1.block _ zw zc).one.1;simpa using this));rw[show(⟨#[44]⟩:Ay).toList=[44]from ZJ [44]]at C;obtain⟨c0,c1,c2,c3,c4,c5,c6,c7,sf⟩:=H0.o.1.eight;have CW:=AC fun u q y (h1:AZ a u) (h2:Rd u b t q y)=>jc s h1 h2;have l1:=L1.o.one.1;rw[hdd];clear ih hdd Z h;go_in
 by_cases hs:x.text.toList=s.toList
 .have g1:(x.text.toList==s.toList)=true:=by rw[DR];exact hs
  have Y:AF (TN t (Ha t d) s.toList x p=Bf (Nk t s.toList x p) fun _ x2 p2=> .ok ([],x2,p2)):=⟨by unfold TN;rw[xj hs];rfl⟩;clear hs;go_wp2_with fail
  apply(CW.o _ _ _ Z0.o H0.o).mono;rintro e w1 ⟨AX,⟨n,r,hy,hn,L,hL,rfl,hB⟩ | ⟨v,y,x2,r,hy,rfl,hv,hr1⟩⟩
  .exact⟨rfl,K0.o.trans AX,Or.inl ⟨n,r,Y.o.trans<|Es hy,hn,L,by simp at hL;omega,rfl,hB⟩⟩
  .obtain rfl:v= .tuple #[]:=hv;have R:=AC<|AJ hr1<|AJ (Y.o.trans<|Ee hy)<|K0.o.trans AX;clear hr1 hy AX C;go_wp2
   go_ret
   exact⟨R.o.2.2,Or.inr ⟨_,[],x2,r,R.o.2.1,rfl,⟨[],AQ.nil,Ag.nil _ _⟩,R.o.1⟩⟩
 .have g1:(x.text.toList==s.toList)=false:=by rw[BJ];exact hs
  have Y:AF (TN t (Ha t d) s.toList x p=Bf (Jd t (Ha t d) [44] 6 7 [] x p) fun l x1 p1=>Bf (Nk t s.toList x1 p1) fun _ x2 p2=> .ok (l,x2,p2)):=⟨by unfold TN;rw[xd hs]⟩;clear hs;go_wp2_with fail
  apply C.o.mono;rintro e w1 ⟨AX,⟨n,r,hy,hn,L,hL,rfl,hB⟩ | ⟨v,xs,x1,r1,hy,rfl,⟨F,hR,hN⟩,hr1⟩⟩
  .exact⟨rfl,K0.o.trans AX,Or.inl ⟨n,r,Y.o.trans<|Es hy,hn,L,by simp at hL;omega,rfl,hB⟩⟩
  obtain⟨p1,cc,rfl⟩:=AQ.form hR;have Y2:=AC<|Y.o.trans<|Ee hy;have l2:=(L1.o.of<|AX.block w.heap.size zc zx).one.1;have hs1:=AX.size;have R1:=AC<|AJ hR<|AJ hN<|K0.o.trans AX;have Dl:=AC hr1;have Z1:=AC<|Z0.o.keeps AX hg;clear hR hN hr1 hy AX C Y l1 L1 L2 K0 H0 Z0 B0 c0 c1 c2 c3 c4 c5 c6 c7 sf;go_wp2_with fail
  apply(CW.o _ _ _ Z1.o Dl.o).mono;rintro e w2 ⟨hk2,⟨n,r,hy,hn,L,hL,rfl,hB⟩ | ⟨v,y,x2,r,hy,rfl,hv,hr2⟩⟩
  .exact⟨rfl,R1.o.2.2.trans hk2,Or.inl ⟨n,r,Y2.o.trans<|Es hy,hn,L,by simp at hs1;omega,rfl,hB⟩⟩
  .obtain rfl:v= .tuple #[]:=hv;have aQ:=R1.o.2.1;have R2:=AC<|AJ hr2<|AJ (Y2.o.trans<|Ee hy)<|AJ (R1.o.2.2.trans hk2) (AQ.sb (BQ.sb (ty:=AV)<|d+1) _ _ _ _ _ R1.o.1 fun j hj=>hk2.block j (aQ.lt j hj) (by have:=aQ.ge j hj;simp at this;omega));have hs2:=hk2.size;clear hr2 hy hk2 aQ;go_wp2
   go_ret
   exact⟨R2.o.2.2.1,Or.inr ⟨_,xs,x2,r,R2.o.2.1,rfl,⟨F,R2.o.2.2.2,R1.o.2.1.la zc hs2⟩,R2.o.1⟩⟩
def Yak (ih:qc d)(hd:d<3)(Z:AZ a w)(h:Rd w b t p x):
  Calls prog 274 #[zq b 0,zo ((3-(d+1):Nat):Int)] w (JO a b t (Ie (BQ AV<|d+2) w.heap.size) w (Bf (En t x p) fun _ x1 p1=>Bf (TN t (Ha t d) [93] x1 p1) fun l x2 p2=> .ok (.mk 7 0 ⟨#[]⟩ l,x2,p2))):=by
 have hg:=h.2.2.2;have hb:=h.1.lt;obtain⟨dd,hdd⟩: ∃ z:Int,((3-(d+1):Nat):Int)=z:=⟨_,rfl⟩;have g1:(dd==3)=false:=zj
 have g2:0<=dd/\dd<3:=zx
 have e1:((3-d:Nat):Int)=dd+1:=zx
 have L0:=AC<|AO.new w #[zo 0,zo 0,sE,zn] 95;have K0:=AC<|(Ad.refl b w).alloc<|.cells #[zo 0,zo 0,sE,zn] 95;have H0:=AC<|h.alloc<|.cells #[zo 0,zo 0,sE,zn] 95;have Z0:=AC<|Z.be<|(AR _ w).alloc lr<|.cells #[zo 0,zo 0,sE,zn] 95;have CT:=AC<|Vg Z0.o H0.o;have CS:=AC fun u q y (h1:AZ a u) (h2:Rd u b t q y) (h3:Jr y)=>Zue ih ⟨#[93]⟩ h1 h2 h3;have ht:=h.2.1;rw[e1,show(⟨#[93]⟩:Ay).toList=[93]from ZJ [93]]at CS;rw[hdd];clear Z h hdd e1;go_in
 go_wp2_with fail
 apply CT.o.mono;rintro e w1 ⟨AX,⟨n,r,hy,hn,L,hL,rfl,hB⟩ | ⟨v,y,x1,r1,hy,rfl,hv,hr1⟩⟩
 .exact⟨rfl,K0.o.trans AX,Or.inl ⟨n,r,Es hy,hn,L,by simp at hL;omega,rfl,hB⟩⟩
 obtain rfl:v=Jc y:=hv;have Y1:AF (∀ f:Tk->Tk->Nat->Re T,Bf (En t x p) f=f y x1 r1):=⟨fun f=>Ee hy⟩;have Z1:=AC<|Z0.o.keeps AX hg;have K1:=AC<|K0.o.trans AX;have L1:=AC<|L0.o.of<|AX.block w.heap.size zw zx;have hs1:=AX.size;have Dl:=AC hr1;have hx1:=(Wn ht hy).1;clear AX hy hr1 CT H0 Z0 K0 L0;go_wp2_with fail
 apply(CS.o _ _ _ Z1.o Dl.o hx1).mono;rintro e w2 ⟨hk2,⟨n,r,hy,hn,L,hL,rfl,hB⟩ | ⟨v,xs,x2,r2,hy,rfl,⟨F,hR,hN⟩,hr2⟩⟩
 .exact⟨rfl,K1.o.trans hk2,Or.inl ⟨n,r,(Y1.o _).trans<|Es hy,hn,L,by simp at hs1;omega,rfl,hB⟩⟩
 obtain⟨p1,cc,rfl⟩:=AQ.form hR;have hs2:=hk2.size;obtain⟨y0,y1,y2,y3,sf⟩:=(L1.o.of<|hk2.block w.heap.size (by simp at hs1;omega) zx).four;have EY:(Bf (En t x p) fun _ x1 p1=>Bf (TN t (Ha t d) [93] x1 p1) fun l x2 p2=>(.ok (.mk 7 0 ⟨#[]⟩ l,x2,p2):Re T))= .ok (.mk 7 0 ⟨#[]⟩ xs,x2,r2):=(Y1.o _).trans<|Ee hy;have R:=AC<|AJ hR<|AJ hN<|AJ hr2<|AJ EY<|K1.o.trans hk2;clear hR hN hr2 hy hk2 CS Y1 Z1 K1 L1 Dl EY;go_wp2
 refine Bg (by simp[results,results274,go_sem,y0,y1,y2,y3];try rfl) rfl ?_;obtain⟨hR,hN,hr1,hy,AX⟩:=R.o;simp at hs1;exact⟨AX.r4 lr,Or.inr ⟨_,T.mk 7 0 ⟨#[]⟩ xs,x2,r2,hy,rfl,⟨[zo 7,zo 0,sE,sP p1 xs.length cc],F,rfl,⟨_,rfl,(by show Gq 7;constructor <;> decide),(by show Gq 0;constructor <;> decide),(by show(ByteArray.mk #[]).size<1000000000;decide),AQ.sb (BQ.sb (ty:=AV)<|d+1) _ _ _ _ _ hR fun j hj=>KY (fw (hN.ge j hj))⟩,hN.la zx zw⟩,hr1.Gz<|KY zx⟩⟩
section
variable {t:Ay} {d:Nat} {x:Tk} {p:Nat}
def Z6t (h:Ru x.text=true):Ha t d x p=Bf (En t x p) fun _ x1 p1=> .ok (.mk 6 (if x.text.toList=Xl then 1 else 0) ⟨#[]⟩ [],x1,p1):=by
 cases d <;> rw[Ha,xj h]
def Yf9 (t:Ay):Nat->Tk->Nat->Re T
 | 0,x,_=> .error (3,x.at_)
 | d+1,x,p=>Bf (En t x p) fun _ x1 p1=>Bf (TN t (Ha t d) [93] x1 p1) fun l x2 p2=> .ok (.mk 7 0 ⟨#[]⟩ l,x2,p2)
def Z6u (h:Ru x.text=false)(hl:x.text.toList=[91]):Ha t d x p=Yf9 t d x p:=by
 cases d <;> rw[Ha,xd (by rw[h];simp),xj hl,Yf9]
def Ydu (h:Ru x.text=false)(hl:x.text.toList≠[91])(hk:x.k=0\/x.k=1/\d<3):Ha t d x p= .error (2,x.at_):=by
 cases d with
 | zero=>rw[Ha,xd (by rw[h];simp),xd hl,xj<|hk.imp_right And.left]
 | succ d=>rw[Ha,xd (by rw[h];simp),xd hl,xj hk]
def Z1o (h:Ru x.text=false)(hl:x.text.toList≠[91])(hk: ¬ (x.k=0\/x.k=1/\d<3)):Ha t d x p=Bf (En t x p) fun _ x1 p1=> .ok (.mk x.k x.i x.s [],x1,p1):=by
 cases d with
 | zero=>rw[Ha,xd (by rw[h];simp),xd hl,xd fun z=>hk (z.imp_right fun g=>⟨g,zx⟩)]
 | succ d=>rw[Ha,xd (by rw[h];simp),xd hl,xd hk]
end
def Zws (d:Nat):Prop:= ∀ {a:Nat->Addr} {w:Bb} {b:Nat} {t:Ay} {p:Nat} {x:Tk},AZ a w->Rd w b t p x->Calls prog 274 #[zq b 0,zo ((3-d:Nat):Int)] w (JO a b t (Ie (BQ AV<|d+1) w.heap.size) w<|Yf9 t d x p)
def Z6d:Zws 0:=by
 intro a w b t p x Z h;have H0:=AC<|h.alloc<|.cells #[zo 0,zo 0,sE,zn] 95;have z3:=fun o=>Cb Z.c3 ((AR _ w).alloc lr o);have CR:=AC<|QM a (n:=3) zu H0.o;have K0:=AC<|(Ad.refl b w).alloc<|.cells #[zo 0,zo 0,sE,zn] 95;clear Z h;go_in
 go_wp2_with fail
 apply CR.o.mono;rintro e w2 ⟨⟨L,hL,rfl,hB⟩,hb⟩;exact⟨rfl,K0.o.AU hb,Or.inl ⟨3,_,rfl,zu,L,by simp at hL;omega,rfl,hB⟩⟩
def Zud {d:Nat}(hd:d<=3)(LI:Zws d):qc d:=by
 intro a w b t p x Z h hx;have hg:=h.2.2.2;have hb:=h.1.lt;obtain⟨dd,hdd⟩: ∃ z:Int,((3-d:Nat):Int)=z:=⟨_,rfl⟩;have G:=AC (show 0<dd↔d<3 by omega);obtain⟨W,hW⟩:=fu (((w.alloc<|.cells #[zo 0,zo 0,sE,zn] 95).alloc<|.cells #[zo (x.at_:Int),um x.text,zo x.k,zo x.i,um x.s,zn] 180));have HR:AF (Rd W b t p x):=⟨hW▸(h.alloc _).alloc _⟩;have HK:AF (Ad b w W):=⟨hW▸((Ad.refl b w).alloc _).alloc _⟩;have ZW:AF (AZ a W):=⟨Z.keeps HK.o hg⟩;have L0:AF (AO W w.heap.size #[zo 0,zo 0,sE,zn] 95):=⟨hW▸(AO.new w _ _).alloc _⟩;have L1:AF (AO W (w.heap.size+1) #[zo (x.at_:Int),um x.text,zo x.k,zo x.i,um x.s,zn] 180):=⟨by have:=AO.new (w.alloc<|.cells #[zo 0,zo 0,sE,zn] 95) #[zo (x.at_:Int),um x.text,zo x.k,zo x.i,um x.s,zn] 180;rw[hW]at this;simpa using this⟩;have uJ:W.heap.size=w.heap.size+2:=by rw[<- hW];simp
 have CB:=AC fun u=>Ztq x.text u;have CT:=AC<|Vg ZW.o HR.o;have CL:=AC<|LI ZW.o HR.o;rw[hdd]at CL⊢;obtain⟨c0,c1,c2,c3,c4,c5,c6,c7,sf⟩:=h.1.eight;have HW:=AC hW;have SW:=AC uJ;clear hW uJ;go_in
 go_wp2_with fail
 rw[HW.o];clear c0 c1 c2 c3 c4 c5 c6 c7 sf Z h;have uJ:=SW.o;obtain⟨d0,d1,d2,d3,d4,d5,sd⟩:=L1.o.six;obtain⟨y0,y1,y2,y3,sy⟩:=L0.o.four;cases Af:Ru x.text
 case' true=>
  rw[Af]at CB;have Y:=AC<|Z6t (t:=t) (d:=d) (p:=p) Af;clear CL;apply(CB.o _).mono;rintro e w' ⟨rfl,rfl⟩;have CV:=AC fun u=>Zw4 (x.text.toList==Xl) u;go_wp2_with fail
  apply CT.o.mono;rintro e w1 ⟨AX,⟨n,r,hy,hn,L,hL,rfl,hB⟩ | ⟨v,y,x1,r1,hy,rfl,hv,hr1⟩⟩
  .exact⟨rfl,HK.o.trans AX,Or.inl ⟨n,r,Y.o.trans<|Es hy,hn,L,zx,rfl,hB⟩⟩
  obtain rfl:v=Jc y:=hv;have M1:=AC<|L1.o.of<|AX.block _ zx zx;have M0:=AC<|L0.o.of<|AX.block _ zx zx;have R:=AC<|AJ (HK.o.trans AX)<|AJ hr1<|Y.o.trans<|Ee hy;have hs1:=AX.size;clear AX hr1 hy CT L0 L1 Y d0 d1 d2 d3 d4 d5 sd y0 y1 y2 y3 sy CB;obtain⟨d0,d1,d2,d3,d4,d5,sd⟩:=M1.o.six;unfold Xl at CV;go_wp2_with fail
  apply(CV.o _).mono;rintro e w2 ⟨rfl,hb2⟩;obtain⟨y0,y1,y2,y3,sy⟩:=(M0.o.of<|hb2.block _ zx).four;have R2:=AC<|AJ (R.o.1.AU hb2)<|AJ (R.o.2.1.of hb2) R.o.2.2;have hs2:=hb2.size;clear hb2 d0 d1 d2 d3 d4 d5 sd M1 M0 R;have eb:(if(x.text.toList==[116,114,117,101])=true then(1:Int)else 0)=if x.text.toList=Xl then 1 else 0:=by
   unfold Xl;by_cases hh:x.text.toList=[116,114,117,101]
   .rw[xj hh,xj (by rw[DR];exact hh)]
   .rw[xd hh,xd (by rw[DR];exact hh)]
  rw[eb];obtain⟨ib,hib⟩: ∃ z:Int,(if x.text.toList=Xl then(1:Int)else 0)=z:=⟨_,rfl⟩;have Yf:Gq ib:=by
   rw[<- hib];split
   .exact⟨zu,zu⟩
   .exact jq
  rw[hib]at R2⊢;clear eb hib;go_wp2
  refine Bg (by simp[results,results249,go_sem,y0,y1,y2,y3];try rfl) rfl ?_;exact⟨R2.o.1.r4 lr,Or.inr ⟨_,_,_,_,R2.o.2.2,rfl,⟨[zo 6,zo ib,sE,zn],[],rfl,⟨_,rfl,⟨by show(-9223372036854775808:Int)<=6;decide,by show(6:Int)<=9223372036854775807;decide⟩,Yf,by show(0:Nat)<_;decide,AQ.nil⟩,Ag.nil _ _⟩,R2.o.2.1.Gz<|KY zx⟩⟩
 rw[Af]at CB;apply(CB.o _).mono;rintro e w' ⟨rfl,rfl⟩;by_cases hl:x.text.toList=[91]
 .have g1:(x.text.toList==[91])=true:=by rw[DR];exact hl
  have Y:=AC<|Z6u (t:=t) (d:=d) (p:=p) Af hl;clear hl CT;go_wp2_with fail
  apply CL.o.mono;rintro e w1 ⟨AX,⟨n,r,hy,hn,L,hL,rfl,hB⟩ | ⟨v,z,x1,r1,hy,rfl,⟨vs,F,rfl,hQ,hN⟩,hr1⟩⟩
  .exact⟨rfl,HK.o.trans AX,Or.inl ⟨n,r,Y.o.trans hy,hn,L,zx,rfl,hB⟩⟩
  obtain⟨p1,cc,rfl⟩:=BQ.vals hQ;have hs1:=AX.size;have R:=AC<|AJ (HK.o.trans AX)<|AJ hr1<|AJ (Y.o.trans hy)<|AJ hQ hN;have M0:=AC<|L0.o.of<|AX.block _ zx zx;clear AX hr1 hy hQ hN CL L0 L1 Y d0 d1 d2 d3 d4 d5 sd y0 y1 y2 y3 sy CB;obtain⟨y0,y1,y2,y3,sy⟩:=M0.o.four;go_wp2
  refine Bg (by simp[results,results249,go_sem,y0,y1,y2,y3];try rfl) rfl ?_;obtain⟨AX,hr1,hy,hQ,hN⟩:=R.o;exact⟨AX.r4 lr,Or.inr ⟨_,z,x1,r1,hy,rfl,⟨_,F,rfl,BQ.sb (d+1) _ _ _ _ _ hQ fun j hj=>KY (fw (hN.ge j hj)),hN.la zx zw⟩,hr1.Gz<|KY zx⟩⟩
 have g1:(x.text.toList==[91])=false:=by rw[BJ];exact hl
 clear CL;by_cases hk:x.k=0\/x.k=1/\d<3
 .have Y:=AC<|Ydu (t:=t) (p:=p) Af hl hk;have GG:(x.k==0)=true\/(x.k==0)=false/\(x.k==1)=true/\decide (0<dd)=true:=by
   by_cases h0:x.k=0
   .exact Or.inl (by rw[DR];exact h0)
   .have:=hk.resolve_left h0
    exact Or.inr ⟨by rw[BJ];exact h0,by rw[DR];exact this.1,Nv<|G.o.2 this.2⟩
  have z2:=ZW.o.c2;have C2:=AC<|QM a (n:=2) zu HR.o;clear hk hl CT;rcases GG with ga | ⟨ga,gb,gc⟩;all_goals
   go_wp2_with fail
   apply C2.o.mono;rintro e w2 ⟨⟨L,hL,rfl,hB⟩,hb⟩;exact⟨rfl,HK.o.AU hb,Or.inl ⟨2,_,Y.o,zu,L,zx,rfl,hB⟩⟩
 have Y:=AC<|Z1o (t:=t) (p:=p) Af hl hk;have GG:(x.k==0)=false/\(x.k==1)=false\/(x.k==0)=false/\(x.k==1)=true/\decide (0<dd)=false:=by
  have h0:x.k≠0:=fun z=>hk (Or.inl z);by_cases h1:x.k=1
  .exact Or.inr ⟨by rw[BJ];exact h0,by rw[DR];exact h1,I8 fun z=>hk (Or.inr ⟨h1,G.o.1 z⟩)⟩
  .exact Or.inl ⟨by rw[BJ];exact h0,by rw[BJ];exact h1⟩
 clear hk hl;rcases GG with⟨ga,gb⟩ | ⟨ga,gb,gc⟩;all_goals
  go_wp2_with fail
  apply CT.o.mono;rintro e w1 ⟨AX,⟨n,r,hy,hn,L,hL,rfl,hB⟩ | ⟨v,y,x1,r1,hy,rfl,hv,hr1⟩⟩
  .exact⟨rfl,HK.o.trans AX,Or.inl ⟨n,r,Y.o.trans<|Es hy,hn,L,zx,rfl,hB⟩⟩
  obtain rfl:v=Jc y:=hv;have M1:=AC<|L1.o.of<|AX.block _ zx zx;have M0:=AC<|L0.o.of<|AX.block _ zx zx;have R:=AC<|AJ (HK.o.trans AX)<|AJ hr1<|Y.o.trans<|Ee hy;have hs1:=AX.size;clear AX hr1 hy CT L0 L1 Y d0 d1 d2 d3 d4 d5 sd y0 y1 y2 y3 sy CB;obtain⟨d0,d1,d2,d3,d4,d5,sd⟩:=M1.o.six;obtain⟨y0,y1,y2,y3,sy⟩:=M0.o.four;go_wp2
  refine Bg (by simp[results,results249,go_sem,y0,y1,y2,y3];try rfl) rfl ?_;exact⟨R.o.1.r4 lr,Or.inr ⟨_,_,_,_,R.o.2.2,rfl,⟨[zo x.k,zo x.i,um x.s,zn],[],rfl,⟨_,rfl,hx.2.2.1,hx.2.2.2,hx.2.1,AQ.nil⟩,Ag.nil _ _⟩,R.o.2.1.Gz<|KY zx⟩⟩
def Zrn: ∀ d,d<=3->qc d
 | 0,h=>Zud h Z6d
 | d+1,h=>Zud h (Yak (Zrn d zx) zx)
end Go.W
