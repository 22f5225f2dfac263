import Derived.Test.YtaoiihbjdonaoaaGreatDoorW24
set_option linter.defProp false
set_option maxRecDepth 100000
set_option maxHeartbeats 8000000
set_option linter.unusedSimpArgs false
open Go.Proofs Go.RowKit Go.W Tryz
namespace Go.W
variable {t:ByteArray}{s:List UInt8}{d:Nat}{k i:Int}{r:R}
def Ub {α:Type} (read:Tk->Nat->Re α) (Q:α->Prop):Prop:= ∀ x p y x' p',XF x->read x p= .ok (y,x',p')->Q y/\XF x'
def qO {α:Type}{Q:α->Prop}{xs:List α}(h: ∀ x∈xs,Q x){y:α}(hy:Q y): ∀ x∈xs++[y],Q x:=fun x hx=>by
 rcases List.mem_append.mp hx with hx | hx
 ·exact h x hx
 ·rw[List.mem_singleton.mp hx];exact hy
def Znu {α:Type}{read:Tk->Nat->Re α}{Q:α->Prop}(hr:Ub read Q){most:Nat}: ∀ {n:Nat} {xs:List α},(∀ x∈xs,Q x)->xs.length<=most->Ub (Jd t read s most n xs) fun ys=>(∀ x∈ys,Q x)/\ys.length<=most/\ys≠[]
 | 0,xs,_,_,x,p,y,x',p',_,h=>by cases h
 | n+1,xs,hx,hl,x,p,y,x',p',hT,h=>by
  rw[Jd]at h;obtain⟨z,x1,p1,h1,h2⟩:=I7 h;obtain⟨hz,Im⟩:=hr _ _ _ _ _ hT h1;split at h2
  ·cases h2
  ·rename_i hm;have hl':(xs++[z]).length<=most:=by simp;omega
   split at h2
   ·obtain⟨u,x2,p2,h3,h4⟩:=I7 h2;exact Znu hr (qO hx hz) hl' _ _ _ _ _ (X8 h3).1 h4
   ·cases h2;exact⟨⟨qO hx hz,hl',zw⟩,Im⟩
def Zor {read:Tk->Nat->Re T}{Q:T->Prop}(hr:Ub read Q):Ub (TN t read s) fun ys=>(∀ x∈ys,Q x)/\ys.length<=6:=fun x p y x' p' hT h=>by
 unfold TN at h;obtain⟨l,x1,p1,h1,h2⟩:=I7 h;obtain⟨u,x2,p2,h3,h4⟩:=I7 h2;cases h4;refine⟨?_,wI h3⟩;split at h1
 ·cases h1;simp
 ·have:=(Znu hr zw zw _ _ _ _ _ hT h1).1
  exact⟨this.1,this.2.1⟩
def wX {n:Nat}(h:Ih k i t n=true)(h1: ¬ (k=1/\0<d))(h2:t.size<=64)(h3:n<=6)(h4: ¬ (k=7/\d=3)):Oc d k i t n=0:=by
 unfold Oc;rw[if_neg (by rw[h];simpa using h1),if_neg zx,if_neg h4]
def vD {l:List T}(h:Oc d k i t l.length=0)(hl: ∀ y∈l,BR (d+1) y=0):BR d (.mk k i t l)=0:=by
 rw[BR,if_neg (by simp[h]),Zum,qo hl]
def Ztc (d:Nat)(b:Bool):BR d (.mk 6 (if b=true then 1 else 0) ⟨#[]⟩ [])=0:=by
 refine vD (wX ?_ zx zu zu zx) zw;cases b <;> decide
def Zlb (t:ByteArray): ∀ d,d<=3->Ub (Ha t d) fun y=>BR (3-d) y=0:=by
 intro d;induction d with
 | zero=>
  intro _ x p y x' p' hT h;rw[Ha]at h;split at h
  ·obtain⟨z,x1,p1,h1,h2⟩:=I7 h;cases h2;refine⟨?_,(X8 h1).1⟩
   have:=Ztc (3-0)<|decide<|x.text.toList=Xl
   simpa using this
  split at h
  ·cases h
  split at h
  ·cases h
  ·rename_i hk;obtain⟨z,x1,p1,h1,h2⟩:=I7 h;cases h2;obtain⟨k6,k7,hf,hs⟩:=hT.2.resolve_left zx;exact⟨vD (wX hf zx hs zw zx) zw,(X8 h1).1⟩
 | succ d ih=>
  intro hd x p y x' p' hT h;rw[Ha]at h;split at h
  ·obtain⟨z,x1,p1,h1,h2⟩:=I7 h;cases h2;refine⟨?_,(X8 h1).1⟩
   have:=Ztc (3-(d+1))<|decide<|x.text.toList=Xl
   simpa using this
  split at h
  ·obtain⟨z,x1,p1,h1,h2⟩:=I7 h;obtain⟨l,x2,p2,h3,h4⟩:=I7 h2;cases h4;obtain⟨⟨hl,h6⟩,Pv⟩:=Zor (ih zx) _ _ _ _ _ (X8 h1).1 h3;exact⟨vD (wX (by simp[Ih,UX];rfl) zx zu h6 zx) fun y hy=>by rw[show 3-(d+1)+1=3-d by omega];exact hl y hy,Pv⟩
  split at h
  ·cases h
  ·rename_i hk;obtain⟨z,x1,p1,h1,h2⟩:=I7 h;cases h2;obtain⟨k6,k7,hf,hs⟩:=hT.2.resolve_left zx;exact⟨vD (wX hf zx hs zw zx) zw,(X8 h1).1⟩
def jg {α:Type}{f:α->Int}{m:Nat}{l:List α}(h:l.length<=m)(hl: ∀ x∈l,f x=0):Ei f m l=0:=by
 unfold Ei;rw[if_neg zx,qo hl]
def Zzv (t:ByteArray):Ub (VT t) fun y=>FH y=0:=fun x p y x' p' hT h=>by
 unfold VT at h;split at h
 ·rename_i hw;obtain⟨z,x1,p1,h1,h2⟩:=I7 h;obtain⟨u,x2,p2,h3,h4⟩:=I7 h2;obtain⟨l,x3,p3,h5,h6⟩:=I7 h4;cases h6;obtain⟨⟨hl,hn⟩,eD⟩:=Zor (Zlb t 3 zx) _ _ _ _ _ (wI h3) h5;refine⟨?_,eD⟩;show FH ⟨x.text,l⟩=0;unfold FH;rw[if_neg (by simp[hT.1 hw.1]),jg hn hl]
 ·cases h
def Z90 (s:ByteArray):SY s<=7:=by
 unfold SY;split
 ·rename_i i hi
  have:=(List.findIdx?_eq_some_iff_findIdx_eq.mp hi).1
  have hl:MV.length=7:=rfl;omega
 ·omega
def Yd8 (g:G):Prop:= ¬ (g.op<1\/7<g.op)/\BR 0 g.a=0/\BR 0 g.b=0
def Zxv (t:ByteArray):Ub (fJ t) Yd8:=fun x p y x' p' hT h=>by
 unfold fJ at h;obtain⟨a,x1,p1,h1,h2⟩:=I7 h;obtain⟨ha,Im⟩:=Zlb t 3 zx _ _ _ _ _ hT h1;split at h2
 ·cases h2
 ·rename_i ho;obtain⟨u,x2,p2,h3,h4⟩:=I7 h2;obtain⟨b,x3,p3,h5,h6⟩:=I7 h4;obtain⟨hb,eD⟩:=Zlb t 3 zx _ _ _ _ _ (X8 h3).1 h5;cases h6
  have:=Z90 x1.text
  exact⟨⟨by dsimp only;omega,ha,hb⟩,eD⟩
structure xB (r:R):Prop where
 head:r.head=VX.head
 nb:r.body.length<=4
 ng:r.guards.length<=4
 body: ∀ a∈r.body,FH a=0
 guards: ∀ g∈r.guards,Yd8 g
def Z04 (t:ByteArray)(hr:xB r):Ub (Y8 t r) fun y=>xB y/\ ¬ (y.body.length=0/\y.guards.length=0):=fun x p y x' p' hT h=>by
 unfold Y8 at h;split at h
 ·obtain⟨a,x1,p1,h1,h2⟩:=I7 h;obtain⟨ha,Im⟩:=Zzv t _ _ _ _ _ hT h1;split at h2
  ·cases h2
  ·cases h2
   have:=hr.nb
   exact⟨⟨⟨hr.head,by simp;omega,hr.ng,qO hr.body ha,hr.guards⟩,zw⟩,Im⟩
 ·obtain⟨a,x1,p1,h1,h2⟩:=I7 h;obtain⟨ha,Im⟩:=Zxv t _ _ _ _ _ hT h1;split at h2
  ·cases h2
  ·cases h2
   have:=hr.ng
   exact⟨⟨⟨hr.head,hr.nb,by simp;omega,hr.body,qO hr.guards ha⟩,zw⟩,Im⟩
def Zol (t:ByteArray): ∀ (n:Nat) {r:R},xB r->Ub (PE t n r) fun y=>xB y/\ ¬ (y.body.length=0/\y.guards.length=0)
 | 0,r,_,x,p,y,x',p',_,h=>by cases h
 | n+1,r,hr,x,p,y,x',p',hT,h=>by
  rw[PE]at h;obtain⟨r1,x1,p1,h1,h2⟩:=I7 h;obtain⟨h3,Im⟩:=Z04 t hr _ _ _ _ _ hT h1;split at h2
  ·obtain⟨u,x2,p2,h4,h5⟩:=I7 h2;exact Zol t n h3.1 _ _ _ _ _ (X8 h4).1 h5
  ·cases h2;exact⟨h3,Im⟩
def Yap {b:List A}{x:T}(h:BR 0 x=0)(hb:ET [x] b=true):PI b x=0:=by
 unfold PI;rw[if_neg (by simp[h]),if_neg (by simp[hb])]
def Zzy (t:ByteArray):Ub (UZ t) fun y=>JQ y=0/\y.head=VX.head:=fun x p y x' p' hT h=>by
 unfold UZ at h;obtain⟨r,x1,p1,h1,h2⟩:=I7 h;obtain⟨⟨hr,hn⟩,Im⟩:=Zol t 9 ⟨rfl,zu,zu,by simp[VX],by simp[VX]⟩ _ _ _ _ _ hT h1;split at h2
 ·rename_i hall;cases h2;have hb:=hr.nb;have hg:=hr.ng;refine⟨⟨?_,hr.head⟩,Im⟩;unfold JQ;rw[if_neg hn,if_neg zx,if_neg (by simp[qo hr.body]),qo];intro g hG;obtain⟨ho,ha,hb⟩:=hr.guards g hG;have hB:=List.all_eq_true.mp hall g hG;have aV:ET [g.a] y.body=true/\ET [g.b] y.body=true:=by
   simp only[ET,List.all_cons,List.all_nil,Bool.and_true,Bool.and_eq_true]at hB⊢;exact hB
  unfold QE;rw[if_neg ho,if_neg (by simp[Yap ha aV.1]),Yap hb aV.2]
 ·cases h2
def Yfk (h:JQ r=0/\r.head=VX.head):SE r=0:=by
 unfold SE;rw[h.2,if_neg zu];exact h.1
def Zuy (t:ByteArray):Ub (ZR t) fun l=>J4 l=0:=fun x p y x' p' hT h=>by
 unfold ZR at h;obtain⟨u,x1,p1,h1,h2⟩:=I7 h;obtain⟨⟨hall,hl,hne⟩,Im⟩:=Znu (Zzy t) zw zw _ _ _ _ _ (wI h1) h2;refine⟨?_,Im⟩;show J4 y=0;unfold J4
 rw[if_neg (by simpa using hne),jg hl fun r hr=>Yfk (hall r hr)]
structure BkR (b:Bk):Prop where
 nf:b.facts.length<=24
 nr:b.rules.length<=24
 nc:b.checks.length<=24
 facts: ∀ a∈b.facts,Ul a=0
 rules: ∀ r∈b.rules,TZ r=0
 checks: ∀ c∈b.checks,J4 c=0
def BkR.right {b:Bk}(h:BkR b):IU b=0:=by
 unfold IU;rw[if_neg (by simp[jg h.nf h.facts]),if_neg (by simp[jg h.nr h.rules]),jg h.nc h.checks]
def Ya7 {α:Type}{read:Tk->Nat->Re α}{Q:α->Prop}(hr:Ub read Q){y:α}(h:Gu t read= .ok y):Q y:=by
 unfold Gu at h;split at h
 ·cases h
 ·split at h
  ·cases h
  ·rename_i h1;cases h;obtain⟨u,x1,p1,h2,h3⟩:=I7 h1;exact(hr _ _ _ _ _ (Zrm h2) h3).1
end Go.W
namespace Go.W
variable {n:Int}{c:Prop}{t:ByteArray}
def PO (n:Int):Prop:=1<=n/\n<=7
def Gl {α:Type} (m:Except (Int×Nat) α):Prop:= ∀ e,m= .error e->PO e.1
def Gv {α:Type}{x:α}:Gl (.ok x):=fun _ h=>by cases h
def GJ {α:Type}{p:Nat}(h:PO n):Gl (α:=α) (.error (n,p)):=fun _ h'=>by cases h';exact h
def r1:PO 1:=⟨zu,zu⟩
def r2:PO 2:=⟨zu,zu⟩
def r3:PO 3:=⟨zu,zu⟩
def r4:PO 4:=⟨zu,zu⟩
def r5:PO 5:=⟨zu,zu⟩
def r6:PO 6:=⟨zu,zu⟩
def r7:PO 7:=⟨zu,zu⟩
def Gi {α β:Type}{m:Re α}{f:α->Tk->Nat->Re β}(h:Gl m)(hf: ∀ y x p,Gl<|f y x p):Gl (Bf m f):=by
 unfold Bf;split
 ·rename_i e;exact fun e' h'=>by cases h';exact h _ rfl
 ·exact hf _ _ _
def Dm {α:Type}[Decidable c]{x y:Except (Int×Nat) α}(hx:Gl x)(hy:Gl y):Gl (if c then x else y):=by split <;> assumption
def Zxb (bs:List Nat)(q:Nat): ∀ f v p,Gl (Sz bs q f v p)
 | 0,_,_=>Gv
 | f+1,_,_=>Dm (Zxb bs q f _ _) (GJ r1)
def Z8f (t:ByteArray)(x:Tk)(p:Nat):Gl (UY t x p):=by
 unfold UY;split
 ·rename_i e h;exact fun e' h'=>by cases h';exact Zxb _ _ _ _ _ _ h
 ·exact Dm Gv<|GJ r1
def Yb5 (t:ByteArray)(x:Tk)(p:Nat):Gl (Tm t x p):=by
 unfold Tm;split
 ·exact Gv
 ·exact Dm (Z8f _ _ _)<|GJ r1
def Zrj (t:ByteArray)(x:Tk): ∀ f p acc,Gl (JG t x f p acc)
 | 0,_,_=>GJ r1
 | f+1,p,acc=>by
  rw[JG];refine Dm Gv<|Dm (GJ r1)<|Dm ?_<|Dm (GJ r1)<|Zrj t x f _ _;split
  ·rename_i e h;exact fun e' h'=>by cases h';exact Yb5 _ _ _ _ h
  ·exact Zrj t x f _ _
def Z4r (t:ByteArray)(x:Tk)(p:Nat):Gl (Ue t x p):=Dm (GJ r1)<|Dm (GJ r4) Gv
def Z3c (t:ByteArray)(q k:Int)(x:Tk)(p:Nat):Gl (Ti t q k x p):=by
 unfold Ti;split
 ·rename_i e h;refine fun e' h'=>?_;cases h';unfold Tj at h;dsimp only at h;generalize (if(Ac t).getD p 0=45 then p+1 else p)=p1 at h;split at h
  ·cases h;exact r1
  ·split at h
   ·cases h
   ·cases h;exact r1
 ·exact Gv
def Zys (t:ByteArray)(p:Nat):Gl (Np t p):=by
 unfold Np;refine Dm Gv ?_;unfold Ud;refine Dm (Dm (GJ r4)<|Dm (Z4r _ _ _) Gv)<|Dm (Dm (GJ r4)<|Dm (GJ r1) Gv)<|Dm ?_<|Dm (Z3c _ _ _ _ _)<|Dm (Z3c _ _ _ _ _) ?_
 ·unfold O4;split
  ·rename_i e h;exact fun e' h'=>by cases h';exact Zrj _ _ _ _ _ _ h
  ·exact Dm (GJ r4) Gv
 ·unfold Xg;split
  ·exact GJ r1
  ·exact Gv
def Um (t:ByteArray)(x:Tk)(p:Nat):Gl (En t x p):=by
 unfold En;split
 ·rename_i e h;exact fun e' h'=>by cases h';exact Zys _ _ _ h
 ·exact Gv
def qg (t:ByteArray)(s:List UInt8)(x:Tk)(p:Nat):Gl (Nk t s x p):=Dm (Gi (Um _ _ _) fun _ _ _=>Gv)<|GJ r2
def Zv9 {α:Type}{read:Tk->Nat->Re α}(hr: ∀ x p,Gl<|read x p){s:List UInt8}{most:Nat}: ∀ n xs x p,Gl (Jd t read s most n xs x p)
 | 0,_,_,_=>GJ r4
 | n+1,_,_,_=>Gi (hr _ _) fun _ _ _=>Dm (GJ r4) (Dm (Gi (Um _ _ _) fun _ _ _=>Zv9 hr n _ _ _) Gv)
def Zui {read:Tk->Nat->Re T}(hr: ∀ x p,Gl<|read x p)(s:List UInt8)(x:Tk)(p:Nat):Gl (TN t read s x p):=Gi (Dm Gv<|Zv9 hr _ _ _ _) fun _ _ _=>Gi (qg _ _ _ _) fun _ _ _=>Gv
def vG (t:ByteArray): ∀ d x p,Gl (Ha t d x p)
 | 0,_,_=>Dm (Gi (Um _ _ _) fun _ _ _=>Gv) (Dm (GJ r3)<|Dm (GJ r2) (Gi (Um _ _ _) fun _ _ _=>Gv))
 | d+1,_,_=>Dm (Gi (Um _ _ _) fun _ _ _=>Gv) (Dm (Gi (Um _ _ _) fun _ _ _=>Gi (Zui (vG t d) _ _ _) fun _ _ _=>Gv)<|Dm (GJ r2) (Gi (Um _ _ _) fun _ _ _=>Gv))
def Zwy (t:ByteArray)(x:Tk)(p:Nat):Gl (VT t x p):=Dm (Gi (Um _ _ _) fun _ _ _=>Gi (qg _ _ _ _) fun _ _ _=>Gi (Zui (vG t 3) _ _ _) fun _ _ _=>Gv)<|GJ r2
def Z5k (t:ByteArray)(x:Tk)(p:Nat):Gl (fJ t x p):=Gi (vG t 3 _ _) fun _ _ _=>Dm (GJ r2) (Gi (Um _ _ _) fun _ _ _=>Gi (vG t 3 _ _) fun _ _ _=>Gv)
def Z98 (t:ByteArray)(r:R)(x:Tk)(p:Nat):Gl (Y8 t r x p):=Dm (Gi (Zwy _ _ _) fun _ _ _=>Dm (GJ r4) Gv) (Gi (Z5k _ _ _) fun _ _ _=>Dm (GJ r4) Gv)
def Zt8 (t:ByteArray): ∀ n r x p,Gl (PE t n r x p)
 | 0,_,_,_=>GJ r4
 | n+1,_,_,_=>Gi (Z98 _ _ _ _) fun _ _ _=>Dm (Gi (Um _ _ _) fun _ _ _=>Zt8 t n _ _ _) Gv
def Zw3 (t:ByteArray)(x:Tk)(p:Nat):Gl (UZ t x p):=Gi (Zt8 _ _ _ _ _) fun _ _ _=>Dm Gv (GJ r5)
def Zp2 (t:ByteArray)(x:Tk)(p:Nat):Gl (ZR t x p):=Gi (qg _ _ _ _) fun _ _ _=>Zv9 (Zw3 t) _ _ _ _
def Zp0 (t:ByteArray): ∀ n b x p,Gl (Ve t n b x p)
 | 0,_,_,_=>GJ r4
 | n+1,_,_,_=>Dm Gv (Gi (Dm (Gi (Um _ _ _) fun _ _ _=>Gi (Zp2 _ _ _) fun _ _ _=>Dm (GJ r4) Gv) (Gi (Zwy _ _ _) fun _ _ _=>Dm (Gi (Um _ _ _) fun _ _ _=>Gi (Zw3 _ _ _) fun _ _ _=>Dm (GJ r5) (Dm (GJ r4) Gv)) (Dm (GJ r5)<|Dm (GJ r4) Gv))) fun _ _ _=>Gi (qg _ _ _ _) fun _ _ _=>Zp0 t n _ _ _)
def Zkx (t:ByteArray): ∀ n l x p,Gl (Un t n l x p)
 | 0,_,_,_=>GJ r4
 | n+1,_,_,_=>Dm Gv (Dm (Gi (Um _ _ _) fun _ _ _=>Gi (Zp2 _ _ _) fun _ _ _=>Dm (GJ r4) (Gi (qg _ _ _ _) fun _ _ _=>Zkx t n _ _ _))<|GJ r2)
def Zuj {α:Type}(t:ByteArray){read:Tk->Nat->Re α}(hr: ∀ x p,Gl<|read x p):Gl (Gu t read):=by
 unfold Gu;refine Dm (GJ r4) ?_;split
 ·rename_i e h;exact fun e' h'=>by cases h';exact Gi (Zys _ _) (fun _ _ _=>hr _ _) _ h
 ·exact Gv
def Z97 (t:ByteArray):Gl (Gu t<|QG t):=Zuj t fun _ _=>Zp0 t 73 _ _ _
def Yc8 (t:ByteArray):Gl (Gu t<|Vh t):=Zuj t fun _ _=>Zkx t 25 _ _ _
def KQ {α:Type} (f:De α):Prop:= ∀ l e,f l= .error e->PO e
def QJ {α β:Type}{f:De α}{g:α->De β}(h:KQ f)(hg: ∀ x,KQ<|g x):KQ (f.then g):=fun l e he=>by
 unfold De.then at he;split at he
 ·rename_i h';cases he;exact h _ _ h'
 ·exact hg _ _ _ he
def Ry {α β:Type}{f:De α}{g:α->β}(h:KQ f):KQ (f.map g):=fun l e he=>by
 unfold De.map at he;split at he
 ·rename_i h';cases he;exact h _ _ h'
 ·cases he
def Ua {α:Type}[Decidable c]{f g:De α}(hf:KQ f)(hg:KQ g):KQ (if c then f else g):=by split <;> assumption
def bG {α:Type}(h:PO n):KQ (α:=α) fun _=> .error n:=fun _ _ h'=>by cases h';exact h
def jk:KQ LY:=fun l e h=>by cases l <;> cases h;exact r6
def vJ (n:Nat):KQ (Jt n):=fun l e h=>by
 unfold Jt at h;split at h <;> cases h
 exact r6
def Z25: ∀ (l:By) (k n:Nat) (e:Int),P6 k n l= .error e->PO e
 | [],k,n,e,h=>by cases h;exact r6
 | c::l,k,n,e,h=>by
  rw[P6]at h;split at h
  ·cases h;exact r7
  ·split at h
   ·cases h
   ·exact Z25 l _ _ e h
def qw:KQ Qm:=fun l e h=>Z25 l 0 0 e h
def Zrx:KQ Xm:=Ry<|QJ qw vJ
def Z3p {α:Type}{f:De α}(h:KQ f): ∀ n,KQ (FR f n)
 | 0=>fun l e he=>by cases he
 | n+1=>QJ h fun _=>Ry (Z3p h n)
def Zb {α:Type}(m:Nat){f:De α}(h:KQ f):KQ (DF m f):=QJ qw fun _=>Ua (bG r4) (Z3p h _)
def vH: ∀ d,KQ (MO d)
 | 0=>QJ jk fun _=>Ua (Ry qw) (Ua (Ry jk)<|Ua (bG r3)<|Ua (Ry Zrx)<|bG r7)
 | d+1=>QJ jk fun _=>Ua (Ry qw) (Ua (Ry jk)<|Ua (Ry<|Zb 6<|vH d)<|Ua (Ry Zrx)<|bG r7)
def Zpw:KQ ZF:=QJ Zrx fun _=>Ry (Zb 6<|vH 3)
def Zw1:KQ Y9:=QJ (Zb 4 Zpw) fun _=>Ry (Zb 4 (QJ jk fun _=>QJ (vH 3) fun _=>Ry (vH 3)))
def Z4n:KQ Xp:=QJ (Zb 24 Zpw) fun _=>QJ (Zb 24 (QJ Zpw fun _=>Ry Zw1)) fun _=>Ry (Zb 24<|Zb 4 Zw1)
def Wr (n:Int):Prop:=n=0\/PO n
def Ht [Decidable c]{x y:Int}(hx:Wr x)(hy:Wr y):Wr (if c then x else y):=by split <;> assumption
def Vw:Wr 0:= .inl rfl
def ul {α:Type}{f:α->Int}(h: ∀ x,Wr<|f x): ∀ l,Wr (EU f l)
 | []=>Vw
 | _::l=>Ht (h _) (ul h l)
def qH {α:Type}{f:α->Int}(h: ∀ x,Wr<|f x)(m:Nat)(l:List α):Wr (Ei f m l):=Ht (.inr r4)<|ul h l
def Yiw (d:Nat)(k i:Int)(t:ByteArray)(n:Nat):Wr (Oc d k i t n):=Ht (.inr r2) (Ht (.inr r4)<|Ht (.inr r3) Vw)
mutual
def Zr9: ∀ (x:T) (d:Nat),Wr (BR d x)
 | .mk k i t l,d=>by rw[BR];exact Ht (Yiw _ _ _ _ _)<|Zun l<|d+1
def Zun: ∀ (l:List T) (d:Nat),Wr (bJ d l)
 | [],d=>by rw[bJ];exact Vw
 | x::r,d=>by rw[bJ];exact Ht (Zr9 x d)<|Zun r d
end
def Zr6 (a:A):Wr (FH a):=Ht (.inr r2)<|qH (fun x=>Zr9 x 0) _ _
def Zou (b:List A)(t:T):Wr (PI b t):=Ht (Zr9 _ _)<|Ht (.inr r5) Vw
def Zot (r:R):Wr (JQ r):=Ht (.inr r2)<|Ht (.inr r4)<|Ht (ul Zr6 _)<|ul (fun _=>Ht (.inr r2) (Ht (Zou _ _)<|Zou _ _)) _
def Znz (b:Bk):Wr (IU b):=Ht (qH (fun _=>Ht (Zr6 _) (Ht (.inr r5) Vw)) _ _)<|Ht (qH (fun _=>Ht (Zr6 _) (Ht (Zot _)<|Ht (.inr r5) Vw)) _ _)<|qH (fun _=>Ht (.inr r2) (qH (fun _=>Ht (.inr r2) (Zot _)) _ _)) _ _
def Z44 {l:By}{e:Int}(h:Qn l= .error e):PO e:=by
 unfold Qn at h;split at h
 ·cases h;exact r4
 ·split at h
  ·rename_i h';cases h;unfold GZ at h';split at h'
   ·rename_i h2;cases h';exact Z4n _ _ h2
   ·split at h' <;> cases h'
    exact r7
  ·rename_i x _;split at h
   ·rename_i hw;cases h;exact(Znz x).resolve_left hw
   ·cases h
end Go.W
namespace Go.W
variable {B d b o:Nat}{w:World}{vs:List Value}{x:A}
def Ap.mem {α:Type}{s:Nat}{Q:Nat->Nat->α->Prop}{p:Option Addr}{xs:List α}(h:Ap s Q p xs){y:α}(hy:y∈xs): ∃ b o,Q b o y:=by
 obtain⟨i,hi⟩:=List.mem_iff_getElem?.mp hy;obtain⟨b,o,_,q⟩:=h.at_ i y hi;exact⟨_,_,q⟩
def He.inT: ∀ {k d b o:Nat} {x:T},k<d->He B w d b o x->InT k x
 | 0,d+1,b,o,x,_,h=>by
  obtain⟨_,p,c,_,_,_,_,_,_,_,_,_,hi,_⟩:=h.vals;exact hi
 | k+1,d+1,b,o,x,hk,h=>by
  obtain⟨_,p,c,_,_,_,_,_,_,_,_,_,hi,_,hr⟩:=h.vals;exact⟨hi,fun y hy=>by obtain⟨_,_,q⟩:=hr.mem hy;exact He.inT zx q⟩
def Ed.inT {x:T}(hd:2<d)(h:Ed B w d vs x):InT 3 x:=by
 obtain⟨_,_,_,_,_,hi,_,hr⟩:=h;exact⟨hi,fun y hy=>by obtain⟨_,_,q⟩:=hr.mem hy;exact He.inT hd q⟩
def Jz.mH (hd:2<d)(h:Jz B w d vs x):ky x:=by
 obtain⟨_,_,_,_,_,hr⟩:=h;exact fun y hy=>by obtain⟨_,_,q⟩:=hr.mem hy;exact He.inT zx q
def Ep.mH (hd:3<d)(h:Ep B w d b o x):ky x:=by
 obtain⟨d,rfl⟩: ∃ e,d=e+1:=⟨d-1,zx⟩;obtain⟨_,_,_,_,_,s⟩:=h.vals;exact s.mH zx
def QK.iV {x:G}(hd:3<d)(h:QK B w d b o x):InG x:=by
 obtain⟨d,rfl⟩: ∃ e,d=e+1:=⟨d-1,zx⟩;obtain⟨_,_,_,_,_,_,_,_,_,_,_,_,_,_,s⟩:=h.vals;obtain⟨_,_,_,_,h1,h2⟩:=s;exact⟨h1.inT zx,h2.inT zx⟩
def FJ.inR {x:R}(hd:3<d)(h:FJ B w d b o x):kw x:=by
 obtain⟨d,rfl⟩: ∃ e,d=e+1:=⟨d-1,zx⟩;obtain⟨_,_,_,_,_,_,_,_,_,_,_,s⟩:=h.vals;obtain⟨_,_,_,_,_,_,h1,_,h2,_,h3⟩:=s;exact⟨h1.mH zx,fun y hy=>by obtain⟨_,_,q⟩:=h2.mem hy;exact q.mH zx,fun y hy=>by obtain⟨_,_,q⟩:=h3.mem hy;exact q.iV zx⟩
def EZ.cZ {x:Bk}(hd:2<d)(h:EZ B w d vs x):QA x:=by
 obtain⟨_,_,_,_,_,_,_,_,h1,_,h2,_,h3⟩:=h;refine⟨fun y hy=>by obtain⟨_,_,q⟩:=h1.mem hy;exact q.mH zx,fun y hy=>by obtain⟨_,_,q⟩:=h2.mem hy;exact q.inR zx,fun y hy=>?_⟩;obtain⟨_,_,q⟩:=h3.mem hy;obtain⟨_,_,_,_,s⟩:=q.vals;obtain⟨_,_,_,_,h4⟩:=s;exact fun r hr=>by obtain⟨_,_,q⟩:=h4.mem hr;exact q.inR zx
end Go.W
namespace Go.W
def DY.vals {ty:U2}{d:Nat}{w:World}{vs:List Value}{F:List Nat}{x:Dk}(h:DY ty d w vs x F): ∃ p c,vs=[.bool x.allow,.slice p x.either.length c]:=by
 obtain⟨v,rfl,h⟩:=h;obtain⟨p,c,rfl⟩:=AQ.form h;exact⟨p,c,rfl⟩
structure YI {α:Type} (e:TypeId) (s:Nat) (Q:Du α) (B:Nat) (w w1:World) (F G:List Nat) (v:Value) (ys:List α) (F':List Nat):Prop where
 row:AQ e s Q w1 v ys F'
 new:Ag B w1 F'
 sub: ∀ k,k∈F'->k∈F\/k∈G\/w.heap.size<=k
 os:w1.os=w.os
 tape:w1.tape=w.tape
 output:w1.output=w.output
 size:w.heap.size<=w1.heap.size
 same: ∀ k,k<w.heap.size->k∉F->w1.heap[k]?=w.heap[k]?
end Go.W
namespace Go.P
variable {d B m k c:Nat}{a:Nat->Addr}{w:World}{p:Option Addr}{vs:List Value}{F F2:List Nat}
def Z0r {xs:List T}{x:T}(Z:AZ a w)(hR:AQ 46 4 (BQ AV<|d+1) w (.slice p xs.length c) xs F)(hQ:BQ AV (d+1) w vs x F2)(hB:B<=w.heap.size)(hN:Ag B w F)(BZ:Ag B w F2)(hD: ∀ j,j∈F->j∉F2)(hm:m<1000)(hl:xs.length<=m):
  Calls prog 227 #[.slice p xs.length c,.agg vs.toArray,zo (m:Int),zo (k:Int)] w fun e w'=>(xs.length=m/\Wm a 4 k w.heap.size e w'/\Bl w w')\/(xs.length≠m/\ ∃ p' c' F',e= .returned (.slice p' (xs.length+1) c')/\YI 46 4 (BQ AV<|d+1) B w w' F F2 (.slice p' (xs.length+1) c') (xs++[x]) F'):=by
 obtain⟨p1,c1,rfl⟩:=BQ.vals hQ;have H:=AC<|AJ hR<|AJ hQ<|AJ hN BZ;have HD:=AC hD;have z4:=fun o=>Cb Z.c4 ((AR _ w).alloc lr o);have CS:=AC fun u=>Xw a (n:=4) zu k u;obtain⟨n,hn⟩: ∃ n,xs.length=n:=⟨_,rfl⟩;have HX:=AC hn;rw[hn];clear hR hQ hN BZ hD Z;go_in
 by_cases Dp:n=m
 ·have g1:((n:Int)==(m:Int))=true:=by rw[DR];omega
  have E:=AC Dp;clear Dp hn;go_wp2_with fail
  refine(CS.out _).mono ?_;rintro e w2 ⟨⟨L,hL,rfl,Io⟩,hb⟩;exact⟨rfl,Or.inl ⟨E.out,⟨L,by simp at hL;omega,rfl,Io⟩,((AR _ w).alloc lr _).trans<|hb.mono zw⟩⟩
 ·have g1:((n:Int)==(m:Int))=false:=by rw[BJ];omega
  have E:=AC Dp;have GU:xs.length<100000000:=zx
  clear Dp hn CS z4;go_wp2_with (at_builtin;go_must (refine Nu Zqi rfl (.tmp 16) (.tmp 18) rfl (BQ.stable (ty:=AV)<|d+1) (fun _ _ _ _ h=>BQ.one h) B (.slice p n c) xs F rfl (AQ.stable (BQ.stable (ty:=AV)<|d+1) _ _ _ _ _ (HX.out▸H.out.1) fun j hj=>(Ah _ _ _ (by have:=H.out.2.2.1.lt j hj;simp;omega)).trans (Ah _ _ _<|H.out.2.2.1.lt j hj)) (w.heap.size+1) #[zo x.k,zo x.i,.string x.t,.slice p1 x.l.length c1] 46 (0,0) x F2 rfl (by have:=Hw (w.alloc<|.cells #[zo x.k,zo x.i,.string x.t,.slice p1 x.l.length c1] 46)<|.cells #[zo x.k,zo x.i,.string x.t,.slice p1 x.l.length c1] 46;simpa using this) rfl (BQ.stable (ty:=AV) (d+1) _ _ _ _ _ H.out.2.1 fun j hj=>(Ah _ _ _ (by have:=H.out.2.2.2.lt j hj;simp;omega)).trans (Ah _ _ _<|H.out.2.2.2.lt j hj)) GU (by simp;omega) (H.out.2.2.1.later lr (by simp;omega)) (H.out.2.2.2.later lr (by simp;omega)) HD.out ?_);intro g3 cap3 w4 F3 AM)
  have R4:=AM.row;rw[HX.out]at R4;try rw[HX.out]
  go_ret
  exact Or.inr ⟨E.out,_,_,F3,rfl,⟨R4,AM.new,fun j hj=>(AM.sub j hj).imp_right fun h=>h.imp_right fun h=>by simp at h;omega,AM.os,AM.tape,AM.output,by have:=AM.size;simp at this;omega,fun j hj hF=>(AM.same j (by simp;omega) hF).trans ((Ah _ _ _ (by simp;omega)).trans<|Ah _ _ _ hj)⟩⟩
def Zq3 {xs:List A}{x:A}(Z:AZ a w)(hR:AQ 41 2 (Bz AV<|d) w (.slice p xs.length c) xs F)(hQ:Bz AV (d) w vs x F2)(hB:B<=w.heap.size)(hN:Ag B w F)(BZ:Ag B w F2)(hD: ∀ j,j∈F->j∉F2)(hm:m<1000)(hl:xs.length<=m):
  Calls prog 115 #[.slice p xs.length c,.agg vs.toArray,zo (m:Int),zo (k:Int)] w fun e w'=>(xs.length=m/\Wm a 4 k w.heap.size e w'/\Bl w w')\/(xs.length≠m/\ ∃ p' c' F',e= .returned (.slice p' (xs.length+1) c')/\YI 41 2 (Bz AV<|d) B w w' F F2 (.slice p' (xs.length+1) c') (xs++[x]) F'):=by
 obtain⟨p1,c1,rfl⟩:=Bz.vals hQ;have H:=AC<|AJ hR<|AJ hQ<|AJ hN BZ;have HD:=AC hD;have z4:=fun o=>Cb Z.c4 ((AR _ w).alloc lr o);have CS:=AC fun u=>Xw a (n:=4) zu k u;obtain⟨n,hn⟩: ∃ n,xs.length=n:=⟨_,rfl⟩;have HX:=AC hn;rw[hn];clear hR hQ hN BZ hD Z;go_in
 by_cases Dp:n=m
 ·have g1:((n:Int)==(m:Int))=true:=by rw[DR];omega
  have E:=AC Dp;clear Dp hn;go_wp2_with fail
  refine(CS.out _).mono ?_;rintro e w2 ⟨⟨L,hL,rfl,Io⟩,hb⟩;exact⟨rfl,Or.inl ⟨E.out,⟨L,by simp at hL;omega,rfl,Io⟩,((AR _ w).alloc lr _).trans<|hb.mono zw⟩⟩
 ·have g1:((n:Int)==(m:Int))=false:=by rw[BJ];omega
  have E:=AC Dp;have GU:xs.length<100000000:=zx
  clear Dp hn CS z4;go_wp2_with (at_builtin;go_must (refine Nu Zxi rfl (.tmp 16) (.tmp 18) rfl (Bz.stable (ty:=AV)<|d) (fun _ _ _ _ h=>Bz.one h) B (.slice p n c) xs F rfl (AQ.stable (Bz.stable (ty:=AV)<|d) _ _ _ _ _ (HX.out▸H.out.1) fun j hj=>(Ah _ _ _ (by have:=H.out.2.2.1.lt j hj;simp;omega)).trans (Ah _ _ _<|H.out.2.2.1.lt j hj)) (w.heap.size+1) #[.string x.name,.slice p1 x.terms.length c1] 41 (0,0) x F2 rfl (by have:=Hw (w.alloc<|.cells #[.string x.name,.slice p1 x.terms.length c1] 41)<|.cells #[.string x.name,.slice p1 x.terms.length c1] 41;simpa using this) rfl (Bz.stable (ty:=AV) (d) _ _ _ _ _ H.out.2.1 fun j hj=>(Ah _ _ _ (by have:=H.out.2.2.2.lt j hj;simp;omega)).trans (Ah _ _ _<|H.out.2.2.2.lt j hj)) GU (by simp;omega) (H.out.2.2.1.later lr (by simp;omega)) (H.out.2.2.2.later lr (by simp;omega)) HD.out ?_);intro g3 cap3 w4 F3 AM)
  have R4:=AM.row;rw[HX.out]at R4;try rw[HX.out]
  go_ret
  exact Or.inr ⟨E.out,_,_,F3,rfl,⟨R4,AM.new,fun j hj=>(AM.sub j hj).imp_right fun h=>h.imp_right fun h=>by simp at h;omega,AM.os,AM.tape,AM.output,by have:=AM.size;simp at this;omega,fun j hj hF=>(AM.same j (by simp;omega) hF).trans ((Ah _ _ _ (by simp;omega)).trans<|Ah _ _ _ hj)⟩⟩
def Zx4 {xs:List G}{x:G}(Z:AZ a w)(hR:AQ 48 9 (Eo AV<|d+1) w (.slice p xs.length c) xs F)(hQ:Eo AV (d+1) w vs x F2)(hB:B<=w.heap.size)(hN:Ag B w F)(BZ:Ag B w F2)(hD: ∀ j,j∈F->j∉F2)(hm:m<1000)(hl:xs.length<=m):
  Calls prog 166 #[.slice p xs.length c,.agg vs.toArray,zo (m:Int),zo (k:Int)] w fun e w'=>(xs.length=m/\Wm a 4 k w.heap.size e w'/\Bl w w')\/(xs.length≠m/\ ∃ p' c' F',e= .returned (.slice p' (xs.length+1) c')/\YI 48 9 (Eo AV<|d+1) B w w' F F2 (.slice p' (xs.length+1) c') (xs++[x]) F'):=by
 obtain⟨p1,c1,p2,c2,rfl⟩:=Eo.vals hQ;have H:=AC<|AJ hR<|AJ hQ<|AJ hN BZ;have HD:=AC hD;have z4:=fun o=>Cb Z.c4 ((AR _ w).alloc lr o);have CS:=AC fun u=>Xw a (n:=4) zu k u;obtain⟨n,hn⟩: ∃ n,xs.length=n:=⟨_,rfl⟩;have HX:=AC hn;rw[hn];clear hR hQ hN BZ hD Z;go_in
 by_cases Dp:n=m
 ·have g1:((n:Int)==(m:Int))=true:=by rw[DR];omega
  have E:=AC Dp;clear Dp hn;go_wp2_with fail
  refine(CS.out _).mono ?_;rintro e w2 ⟨⟨L,hL,rfl,Io⟩,hb⟩;exact⟨rfl,Or.inl ⟨E.out,⟨L,by simp at hL;omega,rfl,Io⟩,((AR _ w).alloc lr _).trans<|hb.mono zw⟩⟩
 ·have g1:((n:Int)==(m:Int))=false:=by rw[BJ];omega
  have E:=AC Dp;have GU:xs.length<100000000:=zx
  clear Dp hn CS z4;go_wp2_with (at_builtin;go_must (refine Nu Ztk rfl (.tmp 16) (.tmp 18) rfl (Eo.stable (ty:=AV)<|d+1) (fun _ _ _ _ h=>Eo.one h) B (.slice p n c) xs F rfl (AQ.stable (Eo.stable (ty:=AV)<|d+1) _ _ _ _ _ (HX.out▸H.out.1) fun j hj=>(Ah _ _ _ (by have:=H.out.2.2.1.lt j hj;simp;omega)).trans (Ah _ _ _<|H.out.2.2.1.lt j hj)) (w.heap.size+1) #[zo x.op,zo x.a.k,zo x.a.i,.string x.a.t,.slice p1 x.a.l.length c1,zo x.b.k,zo x.b.i,.string x.b.t,.slice p2 x.b.l.length c2] 48 (0,0) x F2 rfl (by have:=Hw (w.alloc<|.cells #[zo x.op,zo x.a.k,zo x.a.i,.string x.a.t,.slice p1 x.a.l.length c1,zo x.b.k,zo x.b.i,.string x.b.t,.slice p2 x.b.l.length c2] 48)<|.cells #[zo x.op,zo x.a.k,zo x.a.i,.string x.a.t,.slice p1 x.a.l.length c1,zo x.b.k,zo x.b.i,.string x.b.t,.slice p2 x.b.l.length c2] 48;simpa using this) rfl (Eo.stable (ty:=AV) (d+1) _ _ _ _ _ H.out.2.1 fun j hj=>(Ah _ _ _ (by have:=H.out.2.2.2.lt j hj;simp;omega)).trans (Ah _ _ _<|H.out.2.2.2.lt j hj)) GU (by simp;omega) (H.out.2.2.1.later lr (by simp;omega)) (H.out.2.2.2.later lr (by simp;omega)) HD.out ?_);intro g3 cap3 w4 F3 AM)
  have R4:=AM.row;rw[HX.out]at R4;try rw[HX.out]
  go_ret
  exact Or.inr ⟨E.out,_,_,F3,rfl,⟨R4,AM.new,fun j hj=>(AM.sub j hj).imp_right fun h=>h.imp_right fun h=>by simp at h;omega,AM.os,AM.tape,AM.output,by have:=AM.size;simp at this;omega,fun j hj hF=>(AM.same j (by simp;omega) hF).trans ((Ah _ _ _ (by simp;omega)).trans<|Ah _ _ _ hj)⟩⟩
def Zq4 {xs:List R}{x:R}(Z:AZ a w)(hR:AQ 44 4 (DI AV<|d) w (.slice p xs.length c) xs F)(hQ:DI AV (d) w vs x F2)(hB:B<=w.heap.size)(hN:Ag B w F)(BZ:Ag B w F2)(hD: ∀ j,j∈F->j∉F2)(hm:m<1000)(hl:xs.length<=m):
  Calls prog 117 #[.slice p xs.length c,.agg vs.toArray,zo (m:Int),zo (k:Int)] w fun e w'=>(xs.length=m/\Wm a 4 k w.heap.size e w'/\Bl w w')\/(xs.length≠m/\ ∃ p' c' F',e= .returned (.slice p' (xs.length+1) c')/\YI 44 4 (DI AV<|d) B w w' F F2 (.slice p' (xs.length+1) c') (xs++[x]) F'):=by
 obtain⟨p1,c1,p2,c2,p3,c3,rfl⟩:=DI.vals hQ;have H:=AC<|AJ hR<|AJ hQ<|AJ hN BZ;have HD:=AC hD;have z4:=fun o=>Cb Z.c4 ((AR _ w).alloc lr o);have CS:=AC fun u=>Xw a (n:=4) zu k u;obtain⟨n,hn⟩: ∃ n,xs.length=n:=⟨_,rfl⟩;have HX:=AC hn;rw[hn];clear hR hQ hN BZ hD Z;go_in
 by_cases Dp:n=m
 ·have g1:((n:Int)==(m:Int))=true:=by rw[DR];omega
  have E:=AC Dp;clear Dp hn;go_wp2_with fail
  refine(CS.out _).mono ?_;rintro e w2 ⟨⟨L,hL,rfl,Io⟩,hb⟩;exact⟨rfl,Or.inl ⟨E.out,⟨L,by simp at hL;omega,rfl,Io⟩,((AR _ w).alloc lr _).trans<|hb.mono zw⟩⟩
 ·have g1:((n:Int)==(m:Int))=false:=by rw[BJ];omega
  have E:=AC Dp;have GU:xs.length<100000000:=zx
  clear Dp hn CS z4;go_wp2_with (at_builtin;go_must (refine Nu Zxk rfl (.tmp 16) (.tmp 18) rfl (DI.stable (ty:=AV)<|d) (fun _ _ _ _ h=>DI.one h) B (.slice p n c) xs F rfl (AQ.stable (DI.stable (ty:=AV)<|d) _ _ _ _ _ (HX.out▸H.out.1) fun j hj=>(Ah _ _ _ (by have:=H.out.2.2.1.lt j hj;simp;omega)).trans (Ah _ _ _<|H.out.2.2.1.lt j hj)) (w.heap.size+1) #[.string x.head.name,.slice p1 x.head.terms.length c1,.slice p2 x.body.length c2,.slice p3 x.guards.length c3] 44 (0,0) x F2 rfl (by have:=Hw (w.alloc<|.cells #[.string x.head.name,.slice p1 x.head.terms.length c1,.slice p2 x.body.length c2,.slice p3 x.guards.length c3] 44)<|.cells #[.string x.head.name,.slice p1 x.head.terms.length c1,.slice p2 x.body.length c2,.slice p3 x.guards.length c3] 44;simpa using this) rfl (DI.stable (ty:=AV) (d) _ _ _ _ _ H.out.2.1 fun j hj=>(Ah _ _ _ (by have:=H.out.2.2.2.lt j hj;simp;omega)).trans (Ah _ _ _<|H.out.2.2.2.lt j hj)) GU (by simp;omega) (H.out.2.2.1.later lr (by simp;omega)) (H.out.2.2.2.later lr (by simp;omega)) HD.out ?_);intro g3 cap3 w4 F3 AM)
  have R4:=AM.row;rw[HX.out]at R4;try rw[HX.out]
  go_ret
  exact Or.inr ⟨E.out,_,_,F3,rfl,⟨R4,AM.new,fun j hj=>(AM.sub j hj).imp_right fun h=>h.imp_right fun h=>by simp at h;omega,AM.os,AM.tape,AM.output,by have:=AM.size;simp at this;omega,fun j hj hF=>(AM.same j (by simp;omega) hF).trans ((Ah _ _ _ (by simp;omega)).trans<|Ah _ _ _ hj)⟩⟩
def Zx3 {xs:List (List R)}{x:(List R)}(Z:AZ a w)(hR:AQ 52 1 (Ew AV<|d) w (.slice p xs.length c) xs F)(hQ:Ew AV (d) w vs x F2)(hB:B<=w.heap.size)(hN:Ag B w F)(BZ:Ag B w F2)(hD: ∀ j,j∈F->j∉F2)(hm:m<1000)(hl:xs.length<=m):
  Calls prog 112 #[.slice p xs.length c,.agg vs.toArray,zo (m:Int),zo (k:Int)] w fun e w'=>(xs.length=m/\Wm a 4 k w.heap.size e w'/\Bl w w')\/(xs.length≠m/\ ∃ p' c' F',e= .returned (.slice p' (xs.length+1) c')/\YI 52 1 (Ew AV<|d) B w w' F F2 (.slice p' (xs.length+1) c') (xs++[x]) F'):=by
 obtain⟨p1,c1,rfl⟩:=Ew.vals hQ;have H:=AC<|AJ hR<|AJ hQ<|AJ hN BZ;have HD:=AC hD;have z4:=fun o=>Cb Z.c4 ((AR _ w).alloc lr o);have CS:=AC fun u=>Xw a (n:=4) zu k u;obtain⟨n,hn⟩: ∃ n,xs.length=n:=⟨_,rfl⟩;have HX:=AC hn;rw[hn];clear hR hQ hN BZ hD Z;go_in
 by_cases Dp:n=m
 ·have g1:((n:Int)==(m:Int))=true:=by rw[DR];omega
  have E:=AC Dp;clear Dp hn;go_wp2_with fail
  refine(CS.out _).mono ?_;rintro e w2 ⟨⟨L,hL,rfl,Io⟩,hb⟩;exact⟨rfl,Or.inl ⟨E.out,⟨L,by simp at hL;omega,rfl,Io⟩,((AR _ w).alloc lr _).trans<|hb.mono zw⟩⟩
 ·have g1:((n:Int)==(m:Int))=false:=by rw[BJ];omega
  have E:=AC Dp;have GU:xs.length<100000000:=zx
  clear Dp hn CS z4;go_wp2_with (at_builtin;go_must (refine Nu Ztj rfl (.tmp 16) (.tmp 18) rfl (Ew.stable (ty:=AV)<|d) (fun _ _ _ _ h=>Ew.one h) B (.slice p n c) xs F rfl (AQ.stable (Ew.stable (ty:=AV)<|d) _ _ _ _ _ (HX.out▸H.out.1) fun j hj=>(Ah _ _ _ (by have:=H.out.2.2.1.lt j hj;simp;omega)).trans (Ah _ _ _<|H.out.2.2.1.lt j hj)) (w.heap.size+1) #[.slice p1 x.length c1] 52 (0,0) x F2 rfl (by have:=Hw (w.alloc<|.cells #[.slice p1 x.length c1] 52)<|.cells #[.slice p1 x.length c1] 52;simpa using this) rfl (Ew.stable (ty:=AV) (d) _ _ _ _ _ H.out.2.1 fun j hj=>(Ah _ _ _ (by have:=H.out.2.2.2.lt j hj;simp;omega)).trans (Ah _ _ _<|H.out.2.2.2.lt j hj)) GU (by simp;omega) (H.out.2.2.1.later lr (by simp;omega)) (H.out.2.2.2.later lr (by simp;omega)) HD.out ?_);intro g3 cap3 w4 F3 AM)
  have R4:=AM.row;rw[HX.out]at R4;try rw[HX.out]
  go_ret
  exact Or.inr ⟨E.out,_,_,F3,rfl,⟨R4,AM.new,fun j hj=>(AM.sub j hj).imp_right fun h=>h.imp_right fun h=>by simp at h;omega,AM.os,AM.tape,AM.output,by have:=AM.size;simp at this;omega,fun j hj hF=>(AM.same j (by simp;omega) hF).trans ((Ah _ _ _ (by simp;omega)).trans<|Ah _ _ _ hj)⟩⟩
def wS {xs:List Dk}{x:Dk}(Z:AZ a w)(hR:AQ 148 2 (DY AV<|d) w (.slice p xs.length c) xs F)(hQ:DY AV (d) w vs x F2)(hB:B<=w.heap.size)(hN:Ag B w F)(BZ:Ag B w F2)(hD: ∀ j,j∈F->j∉F2)(hm:m<1000)(hl:xs.length<=m):
  Calls prog 78 #[.slice p xs.length c,.agg vs.toArray,zo (m:Int),zo (k:Int)] w fun e w'=>(xs.length=m/\Wm a 4 k w.heap.size e w'/\Bl w w')\/(xs.length≠m/\ ∃ p' c' F',e= .returned (.slice p' (xs.length+1) c')/\YI 148 2 (DY AV<|d) B w w' F F2 (.slice p' (xs.length+1) c') (xs++[x]) F'):=by
 obtain⟨p1,c1,rfl⟩:=DY.vals hQ;have H:=AC<|AJ hR<|AJ hQ<|AJ hN BZ;have HD:=AC hD;have z4:=fun o=>Cb Z.c4 ((AR _ w).alloc lr o);have CS:=AC fun u=>Xw a (n:=4) zu k u;obtain⟨n,hn⟩: ∃ n,xs.length=n:=⟨_,rfl⟩;have HX:=AC hn;rw[hn];clear hR hQ hN BZ hD Z;go_in
 by_cases Dp:n=m
 ·have g1:((n:Int)==(m:Int))=true:=by rw[DR];omega
  have E:=AC Dp;clear Dp hn;go_wp2_with fail
  refine(CS.out _).mono ?_;rintro e w2 ⟨⟨L,hL,rfl,Io⟩,hb⟩;exact⟨rfl,Or.inl ⟨E.out,⟨L,by simp at hL;omega,rfl,Io⟩,((AR _ w).alloc lr _).trans<|hb.mono zw⟩⟩
 ·have g1:((n:Int)==(m:Int))=false:=by rw[BJ];omega
  have E:=AC Dp;have GU:xs.length<100000000:=zx
  clear Dp hn CS z4;go_wp2_with (at_builtin;go_must (refine Nu Ybx rfl (.tmp 16) (.tmp 18) rfl (DY.stable (ty:=AV)<|d) (fun _ _ _ _ h=>DY.one h) B (.slice p n c) xs F rfl (AQ.stable (DY.stable (ty:=AV)<|d) _ _ _ _ _ (HX.out▸H.out.1) fun j hj=>(Ah _ _ _ (by have:=H.out.2.2.1.lt j hj;simp;omega)).trans (Ah _ _ _<|H.out.2.2.1.lt j hj)) (w.heap.size+1) #[.bool x.allow,.slice p1 x.either.length c1] 148 (0,0) x F2 rfl (by have:=Hw (w.alloc<|.cells #[.bool x.allow,.slice p1 x.either.length c1] 148)<|.cells #[.bool x.allow,.slice p1 x.either.length c1] 148;simpa using this) rfl (DY.stable (ty:=AV) (d) _ _ _ _ _ H.out.2.1 fun j hj=>(Ah _ _ _ (by have:=H.out.2.2.2.lt j hj;simp;omega)).trans (Ah _ _ _<|H.out.2.2.2.lt j hj)) GU (by simp;omega) (H.out.2.2.1.later lr (by simp;omega)) (H.out.2.2.2.later lr (by simp;omega)) HD.out ?_);intro g3 cap3 w4 F3 AM)
  have R4:=AM.row;rw[HX.out]at R4;try rw[HX.out]
  go_ret
  exact Or.inr ⟨E.out,_,_,F3,rfl,⟨R4,AM.new,fun j hj=>(AM.sub j hj).imp_right fun h=>h.imp_right fun h=>by simp at h;omega,AM.os,AM.tape,AM.output,by have:=AM.size;simp at this;omega,fun j hj hF=>(AM.same j (by simp;omega) hF).trans ((Ah _ _ _ (by simp;omega)).trans<|Ah _ _ _ hj)⟩⟩
end Go.P
namespace Go.W
variable {t:ByteArray}{x y:Tk}{p q:Nat}{u:Unit}
def Jr (x:Tk):Prop:=x.text.size<1000000000/\x.s.size<1000000000/\Gq x.k/\Gq x.i
def jq:Gq 0:=⟨zu,zu⟩
def Z22 (q:Nat):Jr (KR q):=⟨by show(0:Nat)<_;decide,by show(0:Nat)<_;decide,jq,jq⟩
def Z53 {l:List UInt8}{v:Int}(h:Lib.parseIntB 64 l= .ok v):Gq v:=by
 unfold Lib.parseIntB at h;split at h
 ·cases h
 ·rename_i c r;simp only at h;split at h
  ·cases h
  ·cases h
  ·rename_i u _;split at h
   ·cases h
   ·rename_i h1;split at h
    ·cases h
    ·rename_i h2;cases h;unfold Gq;by_cases hn:c.toNat=45
     ·rw[if_pos hn]
      have: ¬ 2 ^ (64-1)<u:=fun z=>h2 ⟨hn,z⟩
      have e:(2:Nat) ^ (64-1)=9223372036854775808:=zu
      omega
     ·rw[if_neg hn]
      have: ¬ 2 ^ (64-1)<=u:=fun z=>h1 ⟨hn,z⟩
      have e:(2:Nat) ^ (64-1)=9223372036854775808:=zu
      omega
def Z2m (ht:t.size<=8000)(p q:Nat):(t.extract p q).size<1000000000:=by
 rw[YB];omega
def Z73 (hx:Jr x)(h:Ue t x p= .ok (u,y,q)):Jr y:=by
 unfold Ue at h;dsimp only at h;split at h
 ·cases h
 ·split at h
  ·cases h
  ·rename_i DK;cases h;refine⟨hx.1,?_,⟨by show(-9223372036854775808:Int)<=4;decide,by show(4:Int)<=9223372036854775807;decide⟩,jq⟩;show(WX _ _ _).toArray.size<_;rw[GN,q9];omega
def Yf5 {n:Int}(h:Tj t x p= .ok (n,y,q)):Gq n:=by
 unfold Tj at h;dsimp only at h;generalize (if(Ac t).getD p 0=45 then p+1 else p)=p1 at h;split at h
 ·cases h
 ·split at h
  ·rename_i hp;cases h;exact Z53 hp
  ·cases h
def Z9x {qq k:Int}(hx:Jr x)(hk:Gq k)(h:Ti t qq k x p= .ok (u,y,q)):Jr y:=by
 unfold Ti at h;split at h
 ·cases h
 ·rename_i hi;cases h;exact⟨hx.1,hx.2.1,hk,Yf5 hi⟩
def Ya3 (ht:t.size<=8000){c:Nat}(h:Ud t c p= .ok (u,y,q)):Jr y:=by
 have hx:=Z22 p;unfold Ud at h;split at h
 ·unfold Xk at h;dsimp only at h;split at h
  ·cases h
  ·split at h
   ·exact Z73 hx h
   ·cases h;exact⟨Z2m ht _ _,hx.2⟩
 split at h
 ·unfold Zd at h;dsimp only at h;split at h
  ·cases h
  ·split at h
   ·cases h
   ·cases h;exact⟨hx.1,Z2m ht _ _,⟨by show(-9223372036854775808:Int)<=1;decide,by show(1:Int)<=9223372036854775807;decide⟩,jq⟩
 split at h
 ·unfold O4 at h;split at h
  ·cases h
  ·split at h
   ·cases h
   ·rename_i DK;cases h;refine⟨hx.1,?_,⟨by show(-9223372036854775808:Int)<=3;decide,by show(3:Int)<=9223372036854775807;decide⟩,jq⟩;show(List.toArray _).size<_;rw[GN];omega
 split at h
 ·exact Z9x hx ⟨zu,zu⟩ h
 split at h
 ·exact Z9x hx ⟨zu,zu⟩ h
 ·unfold Xg at h;split at h
  ·cases h
  ·rename_i m hm;cases h;refine⟨?_,hx.2⟩;have dW:=List.mem_of_find?_eq_some hm;have hall: ∀ m∈Rx,m.size<1000000000:=zu
   exact hall m dW
def Zv4 (ht:t.size<=8000)(h:Np t p= .ok (u,y,q)):Jr y:=by
 unfold Np at h;split at h
 ·cases h;exact Z22 _
 ·exact Ya3 ht h
def Wn (ht:t.size<=8000){z:Tk}(h:En t x p= .ok (z,y,q)):Jr y/\z=x:=by
 unfold En at h;split at h
 ·cases h
 ·rename_i hr;cases h;exact⟨Zv4 ht hr,rfl⟩
def qI (ht:t.size<=8000){s:List UInt8}{z:Unit}(h:Nk t s x p= .ok (z,y,q)):Jr y:=by
 unfold Nk at h;split at h
 ·unfold Bf at h;split at h
  ·cases h
  ·rename_i hr;cases h;exact(Wn ht hr).1
 ·cases h
end Go.W
namespace Go.P
def MJ (a:Nat->Addr) (b:Nat) (w:World) (t:ByteArray) (u:World) (p:Nat) (x:Tk):Prop:=Rd u b t p x/\Ad b w u/\AZ a u/\Jr x
def Zx1 (x:Tk)(w:World):Calls prog 70 #[Jc x] w fun e w'=>e= .returned (.bool<|Go.W.Oo x)/\Bl w w':=by
 have B:=AC<|(AR _ w).alloc lr<|.cells #[zo (x.at_:Int),.string x.text,zo x.k,zo x.i,.string x.s,zn] 164;have e0:Go.W.Oo x=((x.text.toList==[]) && (x.k==0)):=by
  unfold Go.W.Oo;rw[X4,Z9c]
 rw[e0];unfold Jc;go_in
 cases h1:(x.text.toList==[]);all_goals
  go_wp2_with fail
  all_goals go_ret
  all_goals exact⟨zw,B.out⟩
def Ztr (x:Tk)(hx:x.text.size<1000000000)(w:World):Calls prog 162 #[Jc x] w fun e w'=>e= .returned (.bool<|Nj x.text)/\Bl w w':=by
 have B:=AC<|(AR _ w).alloc lr<|.cells #[zo (x.at_:Int),.string x.text,zo x.k,zo x.i,.string x.s,zn] 164;have C:=AC<|Zk5<|(Ac x.text).getD 0 0;unfold Jc;by_cases h0:x.text.size=0
 ·have e0:Nj x.text=false:=by unfold Nj;rw[I8 zx];rfl
  have e1:(x.text.toList==[])=true:=by rw[X4];exact Nv h0
  rw[e0];clear C;go_in
  go_wp2_with fail
  all_goals go_ret
  all_goals exact⟨rfl,B.out⟩
 ·have e0:Nj x.text=SF ((Ac x.text).getD 0 0):=by unfold Nj;rw[Nv h0];rfl
  have e1:(x.text.toList==[])=false:=by rw[X4];exact I8 h0
  have hp:0<x.text.size:=zx
  have hb:=ZQ x.text 0 hp;rw[e0];generalize (Ac x.text).getD 0 0=c at*;generalize SF c=z at*;clear e0;go_in
  go_wp2_with (go_at_call 105;refine(C.out _).mono ?_;rintro e w' ⟨rfl,rfl⟩)
  all_goals go_ret
  all_goals exact⟨zw,B.out⟩
def jc {a:Nat->Addr}{w:World}{b:Nat}{t:ByteArray}{p:Nat}{x:Tk}(s:ByteArray)(Z:AZ a w)(h:Rd w b t p x):
  Calls prog 73 #[zq b 0,.string s] w (JO a b t VU w<|Nk t s.toList x p):=by
 obtain⟨c0,c1,c2,c3,c4,c5,c6,c7,sf⟩:=h.1.eight;have CR:=AC<|QM a (n:=2) zu h;have CT:=AC<|Vg Z h;have z2:=Z.c2;have H:=AC h;clear Z h;go_in
 by_cases hs:x.text.toList=s.toList
 ·have g:(x.text.toList==s.toList)=true:=by rw[DR];exact hs
  have Y:=AC (show Nk t s.toList x p=Bf (En t x p) fun _ x' p'=> .ok ((),x',p')from if_pos hs);clear CR z2 hs;go_wp2_with fail
  refine CT.out.mono ?_;rintro e w1 ⟨hk4,⟨n,r,hy,hn,L,hL,rfl,hB⟩ | ⟨v,y,x2,r,hy,rfl,hv,hr4⟩⟩
  ·exact⟨rfl,hk4,Or.inl ⟨n,r,Y.out.trans<|Es hy,hn,L,hL,rfl,hB⟩⟩
  ·obtain rfl:v=Jc y:=hv;have R:=AC<|AJ hk4<|AJ (Y.out.trans<|Ee hy) hr4;clear hk4 hy hr4;go_wp2_with fail
   exact⟨rfl,_,(by simp[results,results73,go_sem];try rfl),R.out.1,Or.inr ⟨_,_,_,_,R.out.2.1,rfl,rfl,R.out.2.2⟩⟩
 ·have g:(x.text.toList==s.toList)=false:=by rw[BJ];exact hs
  have Y:=AC (show Nk t s.toList x p= .error (2,x.at_)from if_neg hs);clear CT hs;go_wp2_with fail
  refine CR.out.mono ?_;rintro e w2 ⟨⟨L,hL,rfl,hB⟩,hb⟩;exact⟨rfl,(Ad.refl b w).AU hb,Or.inl ⟨2,_,Y.out,zu,L,hL,rfl,hB⟩⟩
end Go.P
namespace Go.W
variable {x2:Tk}{r:Nat}
section
variable {α:Type} {t:ByteArray} {f:Tk->Nat->Re α} {l:List UInt8} {m k:Nat} {xs:List α} {x:Tk} {p:Nat}
def Zyv {e:Int×Nat}(h:f x p= .error e):Jd t f l m (k+1) xs x p= .error e:=by rw[Jd];exact Es h
def Z3v {z:α}(h:f x p= .ok (z,x2,r))(hm:xs.length=m):Jd t f l m (k+1) xs x p= .error (4,x.at_):=by rw[Jd,Ee h,if_pos hm]
def Yao {z:α}(h:f x p= .ok (z,x2,r))(hm:xs.length≠m)(hl:x2.text.toList≠l):Jd t f l m (k+1) xs x p= .ok (xs++[z],x2,r):=by rw[Jd,Ee h,if_neg hm,if_neg hl]
def Z3w {z:α}(h:f x p= .ok (z,x2,r))(hm:xs.length≠m)(hl:x2.text.toList=l):(∀ e,En t x2 r= .error e->Jd t f l m (k+1) xs x p= .error e)/\ ∀ y x3 r3,En t x2 r= .ok (y,x3,r3)->Jd t f l m (k+1) xs x p=Jd t f l m k (xs++[z]) x3 r3:=by
 rw[Jd,Ee h,if_neg hm,if_pos hl];exact⟨fun e he=>Es he,fun y x3 r3 he=>Ee he⟩
def Ad.Py {e:TypeId}{s:Nat}{Q:Du α}{B:Nat}{w w1:World}{F G:List Nat}{v:Value}{ys:List α}{F':List Nat}(h:YI e s Q B w w1 F G v ys F'){b:Nat}{w0:World}(k:Ad b w0 w)(hF: ∀ i,i∈F->w0.heap.size<=i):Ad b w0 w1:=
 ⟨h.os.trans k.os,h.tape.trans k.tape,h.output.trans k.output,Ab k.size h.size,fun j hj hb=>(h.same j (BK hj k.size) (fun zL=>by have:=hF j zL;omega)).trans (k.block j hj hb)⟩
end
end Go.W
namespace Go.P
variable {K d b m p:Nat}{first cap:Array Value}{a:Nat->Addr}{w:World}{t:ByteArray}{x:Tk}
def Yec {α:Type} (e:TypeId) (s:Nat) (Q:Du α) (a:Nat->Addr) (b:Nat) (t:ByteArray) (f:Tk->Nat->Re α) (l:List UInt8) (m:Nat) (Y:Re (List α)) (w:World) (tv:Value) (wr:World):Prop:=
 ∃ (xs:List α) (F:List Nat) (pp:Option Addr) (c:Nat) (x:Tk) (p:Nat),tv= .slice pp xs.length c/\xs.length<=m/\AQ e s Q wr tv xs F/\Ag w.heap.size wr F/\MJ a b w t wr p x/\Jd t f l m (m+1-xs.length) xs x p=Y
def az:Value->Nat | .slice _ n _=>n | _=>0
def Zsz (hen:Da K){f:Tk->Nat->Re T}(s:ByteArray)(Z:AZ a w)(h:Rd w b t p x)(hx:Jr x)(hm:m<1000)
  (HC: ∀ u p x,MJ a b w t u p x->Calls prog K (first++cap) u (JO a b t (Ie (BQ AV<|d+1) u.heap.size) u<|f x p)):
  Calls prog 196 #[zq b 0,.string s,zo (m:Int),.func (.func K) first cap] w (JO a b t (S9 46 4 (BQ AV<|d+1) w.heap.size) w<|Jd t f s.toList m (m+1) [] x p):=by
 have HH:=AC HC;have Dz: ∀ args w,(callFunc K args).run prog w= .ok (.enter K args) w:=hen;have hg:=h.2.2.2;have ht:=h.2.1;have E9:=h.1.lt;have D0:AF (MJ a b w t w p x):=⟨h,Ad.refl _ _,Z,hx⟩;have ZW:=AC Z;clear HC hen Z h hx;go_in
 go_wp2
 go_loopw [9] (fun tv wr=>Yec 46 4 (BQ AV<|d+1) a b t f s.toList m (Jd t f s.toList m (m+1) [] x p) w tv wr) (fun tv _=>m+1-az tv)
 case atStart=>exact⟨[],[],none,0,x,p,rfl,zw,AQ.nil,Ag.nil _ _,D0.out,rfl⟩
 case round=>
  clear D0;obtain⟨xs,F,pp,c,y,q,rfl,VB,hR,hN,hD,hY⟩:=hrel;obtain⟨c0,c1,c2,c3,c4,c5,c6,c7,sf⟩:=hD.1.1.eight;obtain⟨k,hk⟩: ∃ k,m+1-xs.length=k+1:=⟨m-xs.length,zx⟩;rw[hk]at hY;have HR:=AC hR;have HN:=AC hN;have HD:=AC hD;have HY:=AC hY;have CC:=AC<|HH.out _ _ _ hD;have dH:=hD.2.1.size;generalize Jd t f s.toList m (m+1) [] x p=Y at*;clear hR hN hD hY HH;go_wp2_with fail
  refine CC.out.mono ?_;rintro e w2 ⟨hk2,⟨n,r,hy,hn,L,hL,rfl,hB⟩ | ⟨v,z,x2,r,hy,rfl,⟨vs,F2,rfl,hQ,BZ⟩,hr2⟩⟩
  ·exact⟨rfl,HD.out.2.1.trans hk2,Or.inl ⟨n,r,HY.out.symm.trans<|Zyv hy,hn,L,Ab dH hL,rfl,hB⟩⟩
  have hs2:=hk2.size;have bF: ∀ j,j∈F->j≠b:=fun j hj=>by have:=HN.out.ge j hj;omega
  have R2:AQ 46 4 (BQ AV<|d+1) w2 (.slice pp xs.length c) xs F:=AQ.stable (BQ.stable (ty:=AV)<|d+1) _ _ _ _ _ HR.out fun j hj=>hk2.block j (HN.out.lt j hj) (bF j hj);have Z2:=HD.out.2.2.1.keeps hk2 hg;have CJ:=AC<|Z0r (d:=d) (B:=w.heap.size) (m:=m) (k:=y.at_) Z2 R2 hQ zx (HN.out.later lr hs2) (BZ.later zx lr) (fun j hj Am=>by have:=HN.out.lt j hj;have:=BZ.ge j Am;omega) hm VB;have K2:=AC<|HD.out.2.1.trans hk2;have Ao:=AC hr2;have GE:=AC HN.out.ge;have HE:=AC hy;clear hk2 hQ BZ hr2 hy CC HR HN HD R2 Z2 c0 c1 c2 c3 c4 c5 c6 c7 sf bF;go_wp2_with fail
  refine CJ.out.mono ?_;rintro e w3 (⟨hE,⟨L,hL,rfl,hB⟩,hb⟩ | ⟨hne,p',c',F',rfl,hG⟩)
  ·exact⟨rfl,K2.out.AU hb,Or.inl ⟨4,_,HY.out.symm.trans<|Z3v HE.out hE,zu,L,zx,rfl,hB⟩⟩
  have K3:=AC<|Ad.Py hG K2.out GE.out;have hr3:Rd w3 b t r x2:=⟨Ao.out.1.of<|hG.same b Ao.out.1.lt (fun hj=>by have:=GE.out b hj;omega),Ao.out.2⟩;have Dn:=AC hr3;obtain⟨c0,c1,c2,c3,c4,c5,c6,c7,sf⟩:=hr3.1.eight;have HG:=AC hG;have hs3:=hG.size;have Z3:AF (AZ a w3):=⟨ZW.out.keeps K3.out hg⟩;clear hG hr3 CJ Ao;by_cases hl:x2.text.toList=s.toList
  ·have g1:(x2.text.toList==s.toList)=true:=by rw[DR];exact hl
   have M:=AC<|Z3w (l:=s.toList) (k:=k) (t:=t) HE.out hne hl;have CT:=AC<|Vg Z3.out Dn.out;clear hl HE;go_wp2_with fail
   refine CT.out.mono ?_;rintro e w4 ⟨hk4,⟨n,r4,hy,hn,L,hL,rfl,hB⟩ | ⟨v,y4,x4,r4,hy,rfl,hv,hr4⟩⟩
   ·exact⟨rfl,K3.out.trans hk4,Or.inl ⟨n,r4,HY.out.symm.trans<|M.out.1 _ hy,hn,L,zx,rfl,hB⟩⟩
   ·obtain rfl:v=Jc y4:=hv;have UL:=hk4.size;have RR:AQ 46 4 (BQ AV<|d+1) w4 (.slice p' (xs.length+1) c') (xs++[z]) F':=AQ.stable (BQ.stable (ty:=AV)<|d+1) _ _ _ _ _ HG.out.row fun j hj=>hk4.block j (HG.out.new.lt j hj) (by have:=HG.out.new.ge j hj;omega);have aS:=HY.out.symm.trans<|M.out.2 _ _ _ hy;have R:=AC<|AJ RR<|AJ (HG.out.new.later lr UL)<|AJ (show MJ a b w t w4 r4 x4 from⟨hr4,K3.out.trans hk4,Z3.out.keeps hk4 hg,(Wn ht hy).1⟩) aS;clear RR hk4 hy hr4 aS;go_wp2
    exact⟨⟨xs++[z],F',p',c',x4,r4,zw,by simp;omega,by simpa using R.out.1,R.out.2.1,R.out.2.2.1,by rw[<- R.out.2.2.2.symm];congr 1;simp;omega⟩,by simp[az];omega⟩
  ·have g1:(x2.text.toList==s.toList)=false:=by rw[BJ];exact hl
   have E:=AC<|HY.out.symm.trans<|Yao (l:=s.toList) (k:=k) (t:=t) HE.out hne hl;clear hl HE;go_wp2
   go_ret
   exact⟨K3.out,Or.inr ⟨_,xs++[z],x2,r,E.out,rfl,⟨F',by simpa using HG.out.row,HG.out.new⟩,Dn.out⟩⟩
def Zsy (hen:Da K){f:Tk->Nat->Re R}(s:ByteArray)(Z:AZ a w)(h:Rd w b t p x)(hx:Jr x)(hm:m<1000)
  (HC: ∀ u p x,MJ a b w t u p x->Calls prog K (first++cap) u (JO a b t (Ie (DI AV<|d) u.heap.size) u<|f x p)):
  Calls prog 118 #[zq b 0,.string s,zo (m:Int),.func (.func K) first cap] w (JO a b t (S9 44 4 (DI AV<|d) w.heap.size) w<|Jd t f s.toList m (m+1) [] x p):=by
 have HH:=AC HC;have Dz: ∀ args w,(callFunc K args).run prog w= .ok (.enter K args) w:=hen;have hg:=h.2.2.2;have ht:=h.2.1;have E9:=h.1.lt;have D0:AF (MJ a b w t w p x):=⟨h,Ad.refl _ _,Z,hx⟩;have ZW:=AC Z;clear HC hen Z h hx;go_in
 go_wp2
 go_loopw [9] (fun tv wr=>Yec 44 4 (DI AV<|d) a b t f s.toList m (Jd t f s.toList m (m+1) [] x p) w tv wr) (fun tv _=>m+1-az tv)
 case atStart=>exact⟨[],[],none,0,x,p,rfl,zw,AQ.nil,Ag.nil _ _,D0.out,rfl⟩
 case round=>
  clear D0;obtain⟨xs,F,pp,c,y,q,rfl,VB,hR,hN,hD,hY⟩:=hrel;obtain⟨c0,c1,c2,c3,c4,c5,c6,c7,sf⟩:=hD.1.1.eight;obtain⟨k,hk⟩: ∃ k,m+1-xs.length=k+1:=⟨m-xs.length,zx⟩;rw[hk]at hY;have HR:=AC hR;have HN:=AC hN;have HD:=AC hD;have HY:=AC hY;have CC:=AC<|HH.out _ _ _ hD;have dH:=hD.2.1.size;generalize Jd t f s.toList m (m+1) [] x p=Y at*;clear hR hN hD hY HH;go_wp2_with fail
  refine CC.out.mono ?_;rintro e w2 ⟨hk2,⟨n,r,hy,hn,L,hL,rfl,hB⟩ | ⟨v,z,x2,r,hy,rfl,⟨vs,F2,rfl,hQ,BZ⟩,hr2⟩⟩
  ·exact⟨rfl,HD.out.2.1.trans hk2,Or.inl ⟨n,r,HY.out.symm.trans<|Zyv hy,hn,L,Ab dH hL,rfl,hB⟩⟩
  have hs2:=hk2.size;have bF: ∀ j,j∈F->j≠b:=fun j hj=>by have:=HN.out.ge j hj;omega
  have R2:AQ 44 4 (DI AV<|d) w2 (.slice pp xs.length c) xs F:=AQ.stable (DI.stable (ty:=AV)<|d) _ _ _ _ _ HR.out fun j hj=>hk2.block j (HN.out.lt j hj) (bF j hj);have Z2:=HD.out.2.2.1.keeps hk2 hg;have CJ:=AC<|Zq4 (d:=d) (B:=w.heap.size) (m:=m) (k:=y.at_) Z2 R2 hQ zx (HN.out.later lr hs2) (BZ.later zx lr) (fun j hj Am=>by have:=HN.out.lt j hj;have:=BZ.ge j Am;omega) hm VB;have K2:=AC<|HD.out.2.1.trans hk2;have Ao:=AC hr2;have GE:=AC HN.out.ge;have HE:=AC hy;clear hk2 hQ BZ hr2 hy CC HR HN HD R2 Z2 c0 c1 c2 c3 c4 c5 c6 c7 sf bF;go_wp2_with fail
  refine CJ.out.mono ?_;rintro e w3 (⟨hE,⟨L,hL,rfl,hB⟩,hb⟩ | ⟨hne,p',c',F',rfl,hG⟩)
  ·exact⟨rfl,K2.out.AU hb,Or.inl ⟨4,_,HY.out.symm.trans<|Z3v HE.out hE,zu,L,zx,rfl,hB⟩⟩
  have K3:=AC<|Ad.Py hG K2.out GE.out;have hr3:Rd w3 b t r x2:=⟨Ao.out.1.of<|hG.same b Ao.out.1.lt (fun hj=>by have:=GE.out b hj;omega),Ao.out.2⟩;have Dn:=AC hr3;obtain⟨c0,c1,c2,c3,c4,c5,c6,c7,sf⟩:=hr3.1.eight;have HG:=AC hG;have hs3:=hG.size;have Z3:AF (AZ a w3):=⟨ZW.out.keeps K3.out hg⟩;clear hG hr3 CJ Ao;by_cases hl:x2.text.toList=s.toList
  ·have g1:(x2.text.toList==s.toList)=true:=by rw[DR];exact hl
   have M:=AC<|Z3w (l:=s.toList) (k:=k) (t:=t) HE.out hne hl;have CT:=AC<|Vg Z3.out Dn.out;clear hl HE;go_wp2_with fail
   refine CT.out.mono ?_;rintro e w4 ⟨hk4,⟨n,r4,hy,hn,L,hL,rfl,hB⟩ | ⟨v,y4,x4,r4,hy,rfl,hv,hr4⟩⟩
   ·exact⟨rfl,K3.out.trans hk4,Or.inl ⟨n,r4,HY.out.symm.trans<|M.out.1 _ hy,hn,L,zx,rfl,hB⟩⟩
   ·obtain rfl:v=Jc y4:=hv;have UL:=hk4.size;have RR:AQ 44 4 (DI AV<|d) w4 (.slice p' (xs.length+1) c') (xs++[z]) F':=AQ.stable (DI.stable (ty:=AV)<|d) _ _ _ _ _ HG.out.row fun j hj=>hk4.block j (HG.out.new.lt j hj) (by have:=HG.out.new.ge j hj;omega);have aS:=HY.out.symm.trans<|M.out.2 _ _ _ hy;have R:=AC<|AJ RR<|AJ (HG.out.new.later lr UL)<|AJ (show MJ a b w t w4 r4 x4 from⟨hr4,K3.out.trans hk4,Z3.out.keeps hk4 hg,(Wn ht hy).1⟩) aS;clear RR hk4 hy hr4 aS;go_wp2
    exact⟨⟨xs++[z],F',p',c',x4,r4,zw,by simp;omega,by simpa using R.out.1,R.out.2.1,R.out.2.2.1,by rw[<- R.out.2.2.2.symm];congr 1;simp;omega⟩,by simp[az];omega⟩
  ·have g1:(x2.text.toList==s.toList)=false:=by rw[BJ];exact hl
   have E:=AC<|HY.out.symm.trans<|Yao (l:=s.toList) (k:=k) (t:=t) HE.out hne hl;clear hl HE;go_wp2
   go_ret
   exact⟨K3.out,Or.inr ⟨_,xs++[z],x2,r,E.out,rfl,⟨F',by simpa using HG.out.row,HG.out.new⟩,Dn.out⟩⟩
end Go.P
namespace Go.P
variable {w:World}{b p d:Nat}{t:ByteArray}{x:Tk}{a:Nat->Addr}
def Zsl:Da 197:=EH func197 zt rfl
def qc (d:Nat):Prop:= ∀ {a:Nat->Addr} {w:World} {b:Nat} {t:ByteArray} {p:Nat} {x:Tk},AZ a w->Rd w b t p x->Jr x->Calls prog 198 #[zq b 0,zo ((3-d:Nat):Int)] w (JO a b t (Ie (BQ AV<|d+1) w.heap.size) w<|Ha t d x p)
def ZJ (l:List UInt8):(⟨l.toArray⟩:ByteArray).toList=l:=by rw[Nw]
def Rd.Gz {w':World}(h:Rd w b t p x)(k:w'.heap[b]?=w.heap[b]?):Rd w' b t p x:=⟨h.1.of k,h.2⟩
def Z1e (ih:qc d){L1 L2:Nat}(Z:AZ a w)(h:Rd w b t p x)(hx:Jr x)(k1:w.cell? (zm L1 0)=some (zq b 0))(k2:w.cell? (zm L2 0)=some (zo ((3-d:Nat):Int))):
  Calls prog 197 #[zq L1 0,zq L2 0] w (JO a b t (Ie (BQ AV<|d+1) w.heap.size) w<|Ha t d x p):=by
 have l1:=fun o=>Cb k1 ((AR _ w).alloc lr o);have l2:=fun o=>Cb k2 ((AR _ w).alloc lr o);have C:=AC<|ih (Z.below<|(AR _ w).alloc lr<|.cells #[zo 0,zo 0,.string ⟨#[]⟩,zn] 46) (h.alloc<|.cells #[zo 0,zo 0,.string ⟨#[]⟩,zn] 46) hx;have hb:=h.1.lt;have L0:=AC<|AO.new w #[zo 0,zo 0,.string ⟨#[]⟩,zn] 46;have K0:=AC<|(Ad.refl b w).alloc<|.cells #[zo 0,zo 0,.string ⟨#[]⟩,zn] 46;obtain⟨dd,hdd⟩: ∃ z:Int,((3-d:Nat):Int)=z:=⟨_,rfl⟩;rw[hdd]at l2 C;clear k1 k2 Z h hdd;go_in
 go_wp2_with fail
 refine C.out.mono ?_;rintro e w1 ⟨AX,⟨n,r,hy,hn,L,hL,rfl,hB⟩ | ⟨v,y,x2,r,hy,rfl,⟨vs,F,rfl,hQ,hN⟩,hr1⟩⟩
 ·exact⟨rfl,K0.out.trans AX,Or.inl ⟨n,r,hy,hn,L,by simp at hL;omega,rfl,hB⟩⟩
 ·obtain⟨p1,c1,rfl⟩:=BQ.vals hQ;obtain⟨y0,y1,y2,y3,sf⟩:=(L0.out.of<|AX.block w.heap.size zw zx).four;have R:=AC<|AJ hQ<|AJ hN<|AJ hr1<|AJ hy<|K0.out.trans AX;clear hQ hN hr1 hy AX C;go_wp2
  refine Bg (by simp[results,results197,go_sem,y0,y1,y2,y3];try rfl) rfl ?_;obtain⟨hQ,hN,hr1,hy,AX⟩:=R.out;exact⟨AX.r4 lr,Or.inr ⟨_,y,x2,r,hy,rfl,⟨_,F,rfl,BQ.stable (d+1) _ _ _ _ _ hQ fun j hj=>KY (by have:=hN.ge j hj;simp at this;omega),hN.later zw zw⟩,hr1.Gz<|KY zx⟩⟩
def Zue (ih:qc d)(s:ByteArray)(Z:AZ a w)(h:Rd w b t p x)(hx:Jr x):
  Calls prog 164 #[zq b 0,.string s,zo ((3-d:Nat):Int)] w (JO a b t (S9 46 4 (BQ AV<|d+1) w.heap.size) w<|TN t (Ha t d) s.toList x p):=by
 have Ho:=MR;obtain⟨dd,hdd⟩: ∃ z:Int,((3-d:Nat):Int)=z:=⟨_,rfl⟩;have B0:=AC<|((AR w.heap.size w).alloc lr<|.cells #[zq b 0] 103).alloc zw<|.cells #[zo dd] 3;have K0:=AC<|((Ad.refl b w).alloc<|.cells #[zq b 0] 103).alloc<|.cells #[zo dd] 3;have L1:=AC<|(AO.new w #[zq b 0] 103).alloc<|.cells #[zo dd] 3;have L2:=AC<|AO.new (w.alloc<|.cells #[zq b 0] 103) #[zo dd] 3;have hb:=h.1.lt;have hg:=h.2.2.2;have H0:=AC<|(h.alloc<|.cells #[zq b 0] 103).alloc<|.cells #[zo dd] 3;have Z0:=AC<|Z.below B0.out;have C:=AC (Zsz (d:=d) (f:=Ha t d) Zsl (first:=#[]) (cap:=#[zq w.heap.size 0,zq (w.heap.size+1) 0]) (m:=6) ⟨#[44]⟩ Z0.out H0.out hx zx fun u q y hu=>Z1e ih hu.2.2.1 hu.1 hu.2.2.2 ((L1.out.of<|hu.2.1.block w.heap.size (by simp;omega) zx).one.1) (by rw[hdd];have:=(L2.out.of<|hu.2.1.block _ zw (by simp;omega)).one.1;simpa using this));rw[show(⟨#[44]⟩:ByteArray).toList=[44]from ZJ [44]]at C;obtain⟨c0,c1,c2,c3,c4,c5,c6,c7,sf⟩:=H0.out.1.eight;have CW:=AC fun u q y (h1:AZ a u) (h2:Rd u b t q y)=>jc s h1 h2;have l1:=L1.out.one.1;rw[hdd];clear ih hdd Z h;go_in
 by_cases hs:x.text.toList=s.toList
 ·have g1:(x.text.toList==s.toList)=true:=by rw[DR];exact hs
  have Y:AF (TN t (Ha t d) s.toList x p=Bf (Nk t s.toList x p) fun _ x2 p2=> .ok ([],x2,p2)):=⟨by unfold TN;rw[if_pos hs];rfl⟩;clear hs;go_wp2_with fail
  refine(CW.out _ _ _ Z0.out H0.out).mono ?_;rintro e w1 ⟨AX,⟨n,r,hy,hn,L,hL,rfl,hB⟩ | ⟨v,y,x2,r,hy,rfl,hv,hr1⟩⟩
  ·exact⟨rfl,K0.out.trans AX,Or.inl ⟨n,r,Y.out.trans<|Es hy,hn,L,by simp at hL;omega,rfl,hB⟩⟩
  ·obtain rfl:v= .tuple #[]:=hv;have R:=AC<|AJ hr1<|AJ (Y.out.trans<|Ee hy)<|K0.out.trans AX;clear hr1 hy AX C;go_wp2
   go_ret
   exact⟨R.out.2.2,Or.inr ⟨_,[],x2,r,R.out.2.1,rfl,⟨[],AQ.nil,Ag.nil _ _⟩,R.out.1⟩⟩
 ·have g1:(x.text.toList==s.toList)=false:=by rw[BJ];exact hs
  have Y:AF (TN t (Ha t d) s.toList x p=Bf (Jd t (Ha t d) [44] 6 7 [] x p) fun l x1 p1=>Bf (Nk t s.toList x1 p1) fun _ x2 p2=> .ok (l,x2,p2)):=⟨by unfold TN;rw[if_neg hs]⟩;clear hs;go_wp2_with fail
  refine C.out.mono ?_;rintro e w1 ⟨AX,⟨n,r,hy,hn,L,hL,rfl,hB⟩ | ⟨v,xs,x1,r1,hy,rfl,⟨F,hR,hN⟩,hr1⟩⟩
  ·exact⟨rfl,K0.out.trans AX,Or.inl ⟨n,r,Y.out.trans<|Es hy,hn,L,by simp at hL;omega,rfl,hB⟩⟩
  obtain⟨p1,cc,rfl⟩:=AQ.form hR;have Y2:=AC<|Y.out.trans<|Ee hy;have l2:=(L1.out.of<|AX.block w.heap.size (by simp;omega) zx).one.1;have hs1:=AX.size;have R1:=AC<|AJ hR<|AJ hN<|K0.out.trans AX;have Dl:=AC hr1;have Z1:=AC<|Z0.out.keeps AX hg;clear hR hN hr1 hy AX C Y l1 L1 L2 K0 H0 Z0 B0 c0 c1 c2 c3 c4 c5 c6 c7 sf;go_wp2_with fail
  refine(CW.out _ _ _ Z1.out Dl.out).mono ?_;rintro e w2 ⟨hk2,⟨n,r,hy,hn,L,hL,rfl,hB⟩ | ⟨v,y,x2,r,hy,rfl,hv,hr2⟩⟩
  ·exact⟨rfl,R1.out.2.2.trans hk2,Or.inl ⟨n,r,Y2.out.trans<|Es hy,hn,L,by simp at hs1;omega,rfl,hB⟩⟩
  ·obtain rfl:v= .tuple #[]:=hv;have aQ:=R1.out.2.1;have R2:=AC<|AJ hr2<|AJ (Y2.out.trans<|Ee hy)<|AJ (R1.out.2.2.trans hk2) (AQ.stable (BQ.stable (ty:=AV)<|d+1) _ _ _ _ _ R1.out.1 fun j hj=>hk2.block j (aQ.lt j hj) (by have:=aQ.ge j hj;simp at this;omega));have hs2:=hk2.size;clear hr2 hy hk2 aQ;go_wp2
   go_ret
   exact⟨R2.out.2.2.1,Or.inr ⟨_,xs,x2,r,R2.out.2.1,rfl,⟨F,R2.out.2.2.2,R1.out.2.1.later (by simp;omega) hs2⟩,R2.out.1⟩⟩
def Yak (ih:qc d)(hd:d<3)(Z:AZ a w)(h:Rd w b t p x):
  Calls prog 229 #[zq b 0,zo ((3-(d+1):Nat):Int)] w (JO a b t (Ie (BQ AV<|d+2) w.heap.size) w (Bf (En t x p) fun _ x1 p1=>Bf (TN t (Ha t d) [93] x1 p1) fun l x2 p2=> .ok (.mk 7 0 ⟨#[]⟩ l,x2,p2))):=by
 have hg:=h.2.2.2;have hb:=h.1.lt;obtain⟨dd,hdd⟩: ∃ z:Int,((3-(d+1):Nat):Int)=z:=⟨_,rfl⟩;have g1:(dd==3)=false:=by rw[BJ];omega
 have g2:0<=dd/\dd<3:=zx
 have e1:((3-d:Nat):Int)=dd+1:=zx
 have L0:=AC<|AO.new w #[zo 0,zo 0,.string ⟨#[]⟩,zn] 46;have K0:=AC<|(Ad.refl b w).alloc<|.cells #[zo 0,zo 0,.string ⟨#[]⟩,zn] 46;have H0:=AC<|h.alloc<|.cells #[zo 0,zo 0,.string ⟨#[]⟩,zn] 46;have Z0:=AC<|Z.below<|(AR _ w).alloc lr<|.cells #[zo 0,zo 0,.string ⟨#[]⟩,zn] 46;have CT:=AC<|Vg Z0.out H0.out;have CS:=AC fun u q y (h1:AZ a u) (h2:Rd u b t q y) (h3:Jr y)=>Zue ih ⟨#[93]⟩ h1 h2 h3;have ht:=h.2.1;rw[e1,show(⟨#[93]⟩:ByteArray).toList=[93]from ZJ [93]]at CS;rw[hdd];clear Z h hdd e1;go_in
 go_wp2_with fail
 refine CT.out.mono ?_;rintro e w1 ⟨AX,⟨n,r,hy,hn,L,hL,rfl,hB⟩ | ⟨v,y,x1,r1,hy,rfl,hv,hr1⟩⟩
 ·exact⟨rfl,K0.out.trans AX,Or.inl ⟨n,r,Es hy,hn,L,by simp at hL;omega,rfl,hB⟩⟩
 obtain rfl:v=Jc y:=hv;have Y1:AF (∀ f:Tk->Tk->Nat->Re T,Bf (En t x p) f=f y x1 r1):=⟨fun f=>Ee hy⟩;have Z1:=AC<|Z0.out.keeps AX hg;have K1:=AC<|K0.out.trans AX;have L1:=AC<|L0.out.of<|AX.block w.heap.size zw zx;have hs1:=AX.size;have Dl:=AC hr1;have hx1:=(Wn ht hy).1;clear AX hy hr1 CT H0 Z0 K0 L0;go_wp2_with fail
 refine(CS.out _ _ _ Z1.out Dl.out hx1).mono ?_;rintro e w2 ⟨hk2,⟨n,r,hy,hn,L,hL,rfl,hB⟩ | ⟨v,xs,x2,r2,hy,rfl,⟨F,hR,hN⟩,hr2⟩⟩
 ·exact⟨rfl,K1.out.trans hk2,Or.inl ⟨n,r,(Y1.out _).trans<|Es hy,hn,L,by simp at hs1;omega,rfl,hB⟩⟩
 obtain⟨p1,cc,rfl⟩:=AQ.form hR;have hs2:=hk2.size;obtain⟨y0,y1,y2,y3,sf⟩:=(L1.out.of<|hk2.block w.heap.size (by simp at hs1;omega) zx).four;have EY:(Bf (En t x p) fun _ x1 p1=>Bf (TN t (Ha t d) [93] x1 p1) fun l x2 p2=>(.ok (.mk 7 0 ⟨#[]⟩ l,x2,p2):Re T))= .ok (.mk 7 0 ⟨#[]⟩ xs,x2,r2):=(Y1.out _).trans<|Ee hy;have R:=AC<|AJ hR<|AJ hN<|AJ hr2<|AJ EY<|K1.out.trans hk2;clear hR hN hr2 hy hk2 CS Y1 Z1 K1 L1 Dl EY;go_wp2
 refine Bg (by simp[results,results229,go_sem,y0,y1,y2,y3];try rfl) rfl ?_;obtain⟨hR,hN,hr1,hy,AX⟩:=R.out;simp at hs1;exact⟨AX.r4 lr,Or.inr ⟨_,T.mk 7 0 ⟨#[]⟩ xs,x2,r2,hy,rfl,⟨[zo 7,zo 0,.string ⟨#[]⟩,.slice p1 xs.length cc],F,rfl,⟨_,rfl,(by show Gq 7;constructor <;> decide),(by show Gq 0;constructor <;> decide),(by show(ByteArray.mk #[]).size<1000000000;decide),AQ.stable (BQ.stable (ty:=AV)<|d+1) _ _ _ _ _ hR fun j hj=>KY (by have:=hN.ge j hj;omega)⟩,hN.later zx zw⟩,hr1.Gz<|KY zx⟩⟩
end Go.P
namespace Go.W
section
variable {t:ByteArray} {d:Nat} {x:Tk} {p:Nat}
def Z6t (h:Ru x.text=true):Ha t d x p=Bf (En t x p) fun _ x1 p1=> .ok (.mk 6 (if x.text.toList=Xl then 1 else 0) ⟨#[]⟩ [],x1,p1):=by
 cases d <;> rw[Ha,if_pos h]
def Yf9 (t:ByteArray):Nat->Tk->Nat->Re T
 | 0,x,_=> .error (3,x.at_)
 | d+1,x,p=>Bf (En t x p) fun _ x1 p1=>Bf (TN t (Ha t d) [93] x1 p1) fun l x2 p2=> .ok (.mk 7 0 ⟨#[]⟩ l,x2,p2)
def Z6u (h:Ru x.text=false)(hl:x.text.toList=[91]):Ha t d x p=Yf9 t d x p:=by
 cases d <;> rw[Ha,if_neg (by rw[h];simp),if_pos hl,Yf9]
def Ydu (h:Ru x.text=false)(hl:x.text.toList≠[91])(hk:x.k=0\/x.k=1/\d<3):Ha t d x p= .error (2,x.at_):=by
 cases d with
 | zero=>rw[Ha,if_neg (by rw[h];simp),if_neg hl,if_pos<|hk.imp_right And.left]
 | succ d=>rw[Ha,if_neg (by rw[h];simp),if_neg hl,if_pos hk]
def Z1o (h:Ru x.text=false)(hl:x.text.toList≠[91])(hk: ¬ (x.k=0\/x.k=1/\d<3)):Ha t d x p=Bf (En t x p) fun _ x1 p1=> .ok (.mk x.k x.i x.s [],x1,p1):=by
 cases d with
 | zero=>rw[Ha,if_neg (by rw[h];simp),if_neg hl,if_neg fun z=>hk (z.imp_right fun g=>⟨g,zx⟩)]
 | succ d=>rw[Ha,if_neg (by rw[h];simp),if_neg hl,if_neg hk]
end
end Go.W
namespace Go.P
def Zws (d:Nat):Prop:= ∀ {a:Nat->Addr} {w:World} {b:Nat} {t:ByteArray} {p:Nat} {x:Tk},AZ a w->Rd w b t p x->Calls prog 229 #[zq b 0,zo ((3-d:Nat):Int)] w (JO a b t (Ie (BQ AV<|d+1) w.heap.size) w<|Yf9 t d x p)
def Z6d:Zws 0:=by
 intro a w b t p x Z h;have H0:=AC<|h.alloc<|.cells #[zo 0,zo 0,.string ⟨#[]⟩,zn] 46;have z3:=fun o=>Cb Z.c3 ((AR _ w).alloc lr o);have CR:=AC<|QM a (n:=3) zu H0.out;have K0:=AC<|(Ad.refl b w).alloc<|.cells #[zo 0,zo 0,.string ⟨#[]⟩,zn] 46;clear Z h;go_in
 go_wp2_with fail
 refine CR.out.mono ?_;rintro e w2 ⟨⟨L,hL,rfl,hB⟩,hb⟩;exact⟨rfl,K0.out.AU hb,Or.inl ⟨3,_,rfl,zu,L,by simp at hL;omega,rfl,hB⟩⟩
def Zud {d:Nat}(hd:d<=3)(LI:Zws d):qc d:=by
 intro a w b t p x Z h hx;have hg:=h.2.2.2;have hb:=h.1.lt;obtain⟨dd,hdd⟩: ∃ z:Int,((3-d:Nat):Int)=z:=⟨_,rfl⟩;have G:=AC (show 0<dd↔d<3 by omega);obtain⟨W,hW⟩: ∃ W,((w.alloc<|.cells #[zo 0,zo 0,.string ⟨#[]⟩,zn] 46).alloc<|.cells #[zo (x.at_:Int),.string x.text,zo x.k,zo x.i,.string x.s,zn] 164)=W:=⟨_,rfl⟩;have HR:AF (Rd W b t p x):=⟨hW▸(h.alloc _).alloc _⟩;have HK:AF (Ad b w W):=⟨hW▸((Ad.refl b w).alloc _).alloc _⟩;have ZW:AF (AZ a W):=⟨Z.keeps HK.out hg⟩;have L0:AF (AO W w.heap.size #[zo 0,zo 0,.string ⟨#[]⟩,zn] 46):=⟨hW▸(AO.new w _ _).alloc _⟩;have L1:AF (AO W (w.heap.size+1) #[zo (x.at_:Int),.string x.text,zo x.k,zo x.i,.string x.s,zn] 164):=⟨by have:=AO.new (w.alloc<|.cells #[zo 0,zo 0,.string ⟨#[]⟩,zn] 46) #[zo (x.at_:Int),.string x.text,zo x.k,zo x.i,.string x.s,zn] 164;rw[hW]at this;simpa using this⟩;have uJ:W.heap.size=w.heap.size+2:=by rw[<- hW];simp
 have CB:=AC fun u=>Ztq x.text u;have CT:=AC<|Vg ZW.out HR.out;have CL:=AC<|LI ZW.out HR.out;rw[hdd]at CL⊢;obtain⟨c0,c1,c2,c3,c4,c5,c6,c7,sf⟩:=h.1.eight;have HW:=AC hW;have SW:=AC uJ;clear hW uJ;go_in
 go_wp2_with fail
 rw[HW.out];clear c0 c1 c2 c3 c4 c5 c6 c7 sf Z h;have uJ:=SW.out;obtain⟨d0,d1,d2,d3,d4,d5,sd⟩:=L1.out.six;obtain⟨y0,y1,y2,y3,sy⟩:=L0.out.four;cases Af:Ru x.text
 case' true=>
  rw[Af]at CB;have Y:=AC<|Z6t (t:=t) (d:=d) (p:=p) Af;clear CL;refine(CB.out _).mono ?_;rintro e w' ⟨rfl,rfl⟩;have CV:=AC fun u=>Zw4 (x.text.toList==Xl) u;go_wp2_with fail
  refine CT.out.mono ?_;rintro e w1 ⟨AX,⟨n,r,hy,hn,L,hL,rfl,hB⟩ | ⟨v,y,x1,r1,hy,rfl,hv,hr1⟩⟩
  ·exact⟨rfl,HK.out.trans AX,Or.inl ⟨n,r,Y.out.trans<|Es hy,hn,L,zx,rfl,hB⟩⟩
  obtain rfl:v=Jc y:=hv;have M1:=AC<|L1.out.of<|AX.block _ zx zx;have M0:=AC<|L0.out.of<|AX.block _ zx zx;have R:=AC<|AJ (HK.out.trans AX)<|AJ hr1<|Y.out.trans<|Ee hy;have hs1:=AX.size;clear AX hr1 hy CT L0 L1 Y d0 d1 d2 d3 d4 d5 sd y0 y1 y2 y3 sy CB;obtain⟨d0,d1,d2,d3,d4,d5,sd⟩:=M1.out.six;unfold Xl at CV;go_wp2_with fail
  refine(CV.out _).mono ?_;rintro e w2 ⟨rfl,hb2⟩;obtain⟨y0,y1,y2,y3,sy⟩:=(M0.out.of<|hb2.block _ zx).four;have R2:=AC<|AJ (R.out.1.AU hb2)<|AJ (R.out.2.1.of hb2) R.out.2.2;have hs2:=hb2.size;clear hb2 d0 d1 d2 d3 d4 d5 sd M1 M0 R;have eb:(if(x.text.toList==[116,114,117,101])=true then(1:Int)else 0)=if x.text.toList=Xl then 1 else 0:=by
   unfold Xl;by_cases hh:x.text.toList=[116,114,117,101]
   ·rw[if_pos hh,if_pos (by rw[DR];exact hh)]
   ·rw[if_neg hh,if_neg (by rw[DR];exact hh)]
  rw[eb];obtain⟨ib,hib⟩: ∃ z:Int,(if x.text.toList=Xl then(1:Int)else 0)=z:=⟨_,rfl⟩;have Yf:Gq ib:=by
   rw[<- hib];split
   ·exact⟨zu,zu⟩
   ·exact jq
  rw[hib]at R2⊢;clear eb hib;go_wp2
  refine Bg (by simp[results,results198,go_sem,y0,y1,y2,y3];try rfl) rfl ?_;exact⟨R2.out.1.r4 lr,Or.inr ⟨_,_,_,_,R2.out.2.2,rfl,⟨[zo 6,zo ib,.string ⟨#[]⟩,zn],[],rfl,⟨_,rfl,⟨by show(-9223372036854775808:Int)<=6;decide,by show(6:Int)<=9223372036854775807;decide⟩,Yf,by show(0:Nat)<_;decide,AQ.nil⟩,Ag.nil _ _⟩,R2.out.2.1.Gz<|KY zx⟩⟩
 rw[Af]at CB;refine(CB.out _).mono ?_;rintro e w' ⟨rfl,rfl⟩;by_cases hl:x.text.toList=[91]
 ·have g1:(x.text.toList==[91])=true:=by rw[DR];exact hl
  have Y:=AC<|Z6u (t:=t) (d:=d) (p:=p) Af hl;clear hl CT;go_wp2_with fail
  refine CL.out.mono ?_;rintro e w1 ⟨AX,⟨n,r,hy,hn,L,hL,rfl,hB⟩ | ⟨v,z,x1,r1,hy,rfl,⟨vs,F,rfl,hQ,hN⟩,hr1⟩⟩
  ·exact⟨rfl,HK.out.trans AX,Or.inl ⟨n,r,Y.out.trans hy,hn,L,zx,rfl,hB⟩⟩
  obtain⟨p1,cc,rfl⟩:=BQ.vals hQ;have hs1:=AX.size;have R:=AC<|AJ (HK.out.trans AX)<|AJ hr1<|AJ (Y.out.trans hy)<|AJ hQ hN;have M0:=AC<|L0.out.of<|AX.block _ zx zx;clear AX hr1 hy hQ hN CL L0 L1 Y d0 d1 d2 d3 d4 d5 sd y0 y1 y2 y3 sy CB;obtain⟨y0,y1,y2,y3,sy⟩:=M0.out.four;go_wp2
  refine Bg (by simp[results,results198,go_sem,y0,y1,y2,y3];try rfl) rfl ?_;obtain⟨AX,hr1,hy,hQ,hN⟩:=R.out;exact⟨AX.r4 lr,Or.inr ⟨_,z,x1,r1,hy,rfl,⟨_,F,rfl,BQ.stable (d+1) _ _ _ _ _ hQ fun j hj=>KY (by have:=hN.ge j hj;omega),hN.later zx zw⟩,hr1.Gz<|KY zx⟩⟩
 have g1:(x.text.toList==[91])=false:=by rw[BJ];exact hl
 clear CL;by_cases hk:x.k=0\/x.k=1/\d<3
 ·have Y:=AC<|Ydu (t:=t) (p:=p) Af hl hk;have GG:(x.k==0)=true\/(x.k==0)=false/\(x.k==1)=true/\decide (0<dd)=true:=by
   by_cases h0:x.k=0
   ·exact Or.inl (by rw[DR];exact h0)
   ·have:=hk.resolve_left h0
    exact Or.inr ⟨by rw[BJ];exact h0,by rw[DR];exact this.1,Nv<|G.out.2 this.2⟩
  have z2:=ZW.out.c2;have C2:=AC<|QM a (n:=2) zu HR.out;clear hk hl CT;rcases GG with ga | ⟨ga,gb,gc⟩;all_goals
   go_wp2_with fail
   refine C2.out.mono ?_;rintro e w2 ⟨⟨L,hL,rfl,hB⟩,hb⟩;exact⟨rfl,HK.out.AU hb,Or.inl ⟨2,_,Y.out,zu,L,zx,rfl,hB⟩⟩
 have Y:=AC<|Z1o (t:=t) (p:=p) Af hl hk;have GG:(x.k==0)=false/\(x.k==1)=false\/(x.k==0)=false/\(x.k==1)=true/\decide (0<dd)=false:=by
  have h0:x.k≠0:=fun z=>hk (Or.inl z);by_cases h1:x.k=1
  ·exact Or.inr ⟨by rw[BJ];exact h0,by rw[DR];exact h1,I8 fun z=>hk (Or.inr ⟨h1,G.out.1 z⟩)⟩
  ·exact Or.inl ⟨by rw[BJ];exact h0,by rw[BJ];exact h1⟩
 clear hk hl;rcases GG with⟨ga,gb⟩ | ⟨ga,gb,gc⟩;all_goals
  go_wp2_with fail
  refine CT.out.mono ?_;rintro e w1 ⟨AX,⟨n,r,hy,hn,L,hL,rfl,hB⟩ | ⟨v,y,x1,r1,hy,rfl,hv,hr1⟩⟩
  ·exact⟨rfl,HK.out.trans AX,Or.inl ⟨n,r,Y.out.trans<|Es hy,hn,L,zx,rfl,hB⟩⟩
  obtain rfl:v=Jc y:=hv;have M1:=AC<|L1.out.of<|AX.block _ zx zx;have M0:=AC<|L0.out.of<|AX.block _ zx zx;have R:=AC<|AJ (HK.out.trans AX)<|AJ hr1<|Y.out.trans<|Ee hy;have hs1:=AX.size;clear AX hr1 hy CT L0 L1 Y d0 d1 d2 d3 d4 d5 sd y0 y1 y2 y3 sy CB;obtain⟨d0,d1,d2,d3,d4,d5,sd⟩:=M1.out.six;obtain⟨y0,y1,y2,y3,sy⟩:=M0.out.four;go_wp2
  refine Bg (by simp[results,results198,go_sem,y0,y1,y2,y3];try rfl) rfl ?_;exact⟨R.out.1.r4 lr,Or.inr ⟨_,_,_,_,R.out.2.2,rfl,⟨[zo x.k,zo x.i,.string x.s,zn],[],rfl,⟨_,rfl,hx.2.2.1,hx.2.2.2,hx.2.1,AQ.nil⟩,Ag.nil _ _⟩,R.out.2.1.Gz<|KY zx⟩⟩
def Zrn: ∀ d,d<=3->qc d
 | 0,h=>Zud h Z6d
 | d+1,h=>Zud h (Yak (Zrn d zx) zx)
end Go.P
