import Derived.Test.YtghnjdpgbldlkaaGreatDoorW18
import Derived.Test.YtghnjdpgbldlkaaGreatDoorW25
import Derived.Lib.TrimUEq
import Derived.Lib.ItoaNum
import Derived.Lib.MapLaws
import Derived.Shelf.Strconv.Itoa4
import Derived.Shelf.Small.Wraps
import Derived.Test.YtghnjdpgbldlkaaGreatDoorRows
import Derived.Lib.LaidU8T
import Derived.ProofKit
import Derived.LaidMore
import Derived.OpenShut
import Derived.Stop.Joined
import Derived.Stop.LaidErr
import Derived.JoinedOf
import Derived.ChangeKeysEq
set_option linter.defProp false
set_option maxRecDepth 100000
set_option maxHeartbeats 8000000
set_option linter.unusedSimpArgs false
open Go.Proofs Go.RowKit Go.W Tryz Go.Proofs.YtghnjdpgbldlkaaGreatDoor
namespace Go.W
variable {l:List UInt8}{t:ByteArray}{x y:Tk}{p q:Nat}{u:Unit}
def Z44 {y:Nat}(hy:Lib.validRune (y:Int)=true)(r:List UInt8):Lib.decodeL (Lib.encodeRune (y:Int)++r)=(y,(Lib.encodeRune (y:Int)).length):=by
 have hv:((0:Int)<=y/\(y:Int)<0xD800)\/((0xDFFF:Int)<y/\(y:Int)<=0x10FFFF):=by simpa[Lib.validRune]using hy
 have b (x:Int) (h0:0<=x) (h1:x<256):(x.toNat.toUInt8).toNat=x.toNat:=by simp;omega
 rw[Lib.decodeL_N];unfold Lib.encodeRune;by_cases h1:y<=127
 ·rw[Lib.encodeRuneZ_one zx zx];simp only[List.map_cons,List.map_nil,Gm,FK,List.getD_cons_zero,BO,D7];rw[b _ zx zx,Lib.decodeN,if_pos zx];simp
 by_cases h2:y<=2047
 ·rw[Lib.encodeRuneZ_two zx zx];simp only[List.map_cons,List.map_nil,Gm,FK,List.getD_cons_zero,List.getD_cons_succ,BO,D7];rw[b _ zx zx,b _ zx zx,Lib.decodeN,if_neg zx,if_pos zx,if_pos zx];exact Prod.ext (by dsimp only;omega) rfl
 by_cases h3:y<=65535
 ·rw[Lib.encodeRuneZ_three zx];simp only[List.map_cons,List.map_nil,Gm,FK,List.getD_cons_zero,List.getD_cons_succ,BO,D7];rw[b _ zx zx,b _ zx zx,b _ zx zx,Lib.decodeN,if_neg zx,if_neg zx,if_pos zx,if_pos zx];exact Prod.ext (by dsimp only;omega) rfl
 ·rw[Lib.encodeRuneZ_four zx zx];simp only[List.map_cons,List.map_nil,Gm,FK,List.getD_cons_zero,List.getD_cons_succ,BO,D7];rw[b _ zx zx,b _ zx zx,b _ zx zx,b _ zx zx,Lib.decodeN,if_neg zx,if_neg zx,if_neg zx,if_pos zx,if_pos zx];exact Prod.ext (by dsimp only;omega) rfl
def Z0h (y:Nat): ¬ (y=65533/\(Lib.encodeRune (y:Int)).length=1):=by
 rintro⟨rfl,h⟩;revert h
 decide
def XW (l:List UInt8):Prop:= ∃ rs:List Nat,(∀ y∈rs,Lib.validRune (y:Int)=true)/\l=rs.flatMap fun y:Nat=>Lib.encodeRune (y:Int)
def XW.snoc (h:XW l){y:Nat}(hy:Lib.validRune (y:Int)=true):XW (l++Lib.encodeRune (y:Int)):=by
 obtain⟨rs,h1,rfl⟩:=h;refine⟨rs++[y],fun z hz=>?_,zw⟩;rcases List.mem_append.mp hz with hz | hz
 ·exact h1 z hz
 ·rw[List.mem_singleton.mp hz];exact hy
def Zqp: ∀ (rs:List Nat) (n:Nat),(∀ y∈rs,Lib.validRune (y:Int)=true)->Lib.validGoD n (rs.flatMap fun y:Nat=>Lib.encodeRune (y:Int))=true
 | rs,0,_=>rfl
 | [],n+1,_=>by rw[List.flatMap_nil,Lib.validGoD,if_pos rfl]
 | y::rs,n+1,h=>by
  rw[List.flatMap_cons,Lib.validGoD];split
  ·rfl
  ·rw[Z44<|h y zw];dsimp only;rw[if_neg<|Z0h y,List.drop_left];exact Zqp rs n fun z hz=>h z (by simp[hz])
def XW.valid (h:XW l):Lib.validD l=true:=by
 obtain⟨rs,h1,rfl⟩:=h;exact Zqp rs _ h1
def Ztc (n b0 b1 b2 b3:Nat)(h0:b0<256):Lib.validRune (((Lib.decodeN n b0 b1 b2 b3).1:Nat):Int)=true:=by
 unfold Lib.decodeN Lib.validRune
 repeat' split
 all_goals (simp only[decide_eq_true_eq];omega)
def Zj8 (s:ByteArray):Lib.validRune (((Lib.decodeGo s).1:Nat):Int)=true:=by
 unfold Lib.decodeGo;split
 ·decide
 ·rw[Lib.decode_at];exact Ztc _ _ _ _ _<|UInt8.toNat_lt _
def Z2c {y:Nat}{x':Tk}(h:NU t x p= .ok (y,x',q)):Lib.validRune (y:Int)=true:=by
 unfold NU at h;split at h
 ·rename_i z hz;cases h;have hm:=List.mem_of_find?_eq_some hz
  have: ∀ z∈I9,Lib.validRune (z.2:Int)=true:=zu
  exact this z hm
 ·split at h
  ·unfold PI at h;split at h
   ·cases h
   ·split at h
    ·rename_i hv;cases h;exact hv
    ·cases h
  ·cases h
def vU: ∀ {f p:Nat} {acc s:List UInt8} {q:Nat},XW acc->Es t x f p acc= .ok (s,q)->XW s
 | 0,p,acc,s,q,_,h=>by cases h
 | f+1,p,acc,s,q,ha,h=>by
  rw[Es]at h;split at h
  ·cases h;exact ha
  split at h
  ·cases h
  split at h
  ·split at h
   ·cases h
   ·rename_i he;exact vU (ha.snoc<|Z2c he) h
  ·split at h
   ·cases h
   ·exact vU (ha.snoc<|Zj8 _) h
def Zw4 {bs:List Nat}{ok:Nat->Bool}: ∀ {f p i:Nat},p<=i->i<OY bs ok f p->ok (bs.getD i 0)=true
 | 0,p,i,h,h'=>by rw[OY]at h';omega
 | f+1,p,i,h,h'=>by
  rw[OY]at h';split at h'
  ·rename_i hc;rcases Nat.eq_or_lt_of_le h with rfl | hlt
   ·exact hc.2
   ·exact Zw4 hlt h'
  ·omega
def UJ (x:Tk):Prop:=(GM x.text=true->En x.text=true)/\(x.k=0\/x.k≠6/\x.k≠7/\GN x.k x.i x.s 0=true/\x.s.size<=64)
def Zp1 (q:Nat):UJ (ED q):=⟨fun h=>absurd (show GM ⟨#[]⟩=true from h) zu,Or.inl rfl⟩
def Zvb (hx:UJ x)(h:P4 t x p= .ok (u,y,q)):UJ y:=by
 unfold P4 at h;dsimp only at h;split at h
 ·cases h
 ·split at h
  ·cases h
  ·rename_i Ej;cases h;refine⟨hx.1,Or.inr ⟨by show(4:Int)≠6;decide,by show(4:Int)≠7;decide,?_,?_⟩⟩
   ·simp[GN,Pq]
   ·show(Qg _ _ _).toArray.size<=_;rw[E9,jR];omega
def Zse {qq k:Int}(hx:UJ x)(hs:x.s.size=0)(hk:k=2\/k=5)(h:NS t qq k x p= .ok (u,y,q)):UJ y:=by
 unfold NS at h;split at h
 ·cases h
 ·cases h;refine⟨hx.1,Or.inr ⟨?_,?_,?_,by dsimp only;omega⟩⟩
  ·dsimp only;omega
  ·dsimp only;omega
  ·dsimp only;rcases hk with rfl | rfl <;> simp[GN,Pq,hs]
def Z2v (hp:p<t.size)(hl:Jm ((Ab t).getD p 0)=true)(Ug: ¬ 16<Cm (Ab t) EX p-p):En (t.extract p<|Cm (Ab t) EX p)=true:=by
 have hle:=Zb (bs:=Ab t) (ok:=EX) (p:=p) (by rw[Xg];omega);rw[Xg]at hle;have hgo:p<Cm (Ab t) EX p:=by
  rw[uK (by rw[Xg];exact hp) (by unfold EX;rw[hl];rfl)]
  have:=Zb (bs:=Ab t) (ok:=EX) (p:=p+1) (by rw[Xg];omega)
  omega
 have hsz:(t.extract p<|Cm (Ab t) EX p).size=Cm (Ab t) EX p-p:=by rw[U9];omega
 unfold En;rw[hsz];simp only[Bool.and_eq_true,decide_eq_true_eq];refine⟨⟨fun i hi=>?_,zx⟩,zx⟩;unfold Rq;rw[vR hle.2 hi];rcases Nat.eq_zero_or_pos i with rfl | h0
 ·rw[Oj,hl];rfl
 ·have:=Zw4 (bs:=Ab t) (ok:=EX) (i:=p+i) (Nat.le_add_right _ _) (show p+i<Cm (Ab t) EX p by omega)
  simp only[EX,Bool.or_eq_true,decide_eq_true_eq]at this;have JW:i≠0:=zx
  simp only[JW,Bool.or_eq_true,Bool.and_eq_true,decide_eq_true_eq,ne_eq,not_false_eq_true,true_and];rcases this with(h | h) | h
  ·exact Or.inl h
  ·exact Or.inr<|Or.inl h
  ·exact Or.inr<|Or.inr h
def Zxa (h:Nl t ((Ab t).getD p 0) p= .ok (u,y,q)):UJ y:=by
 have hx:=Zp1 p;unfold Nl at h;split at h
 ·rename_i hl;have hp:p<t.size:=iU fun h0=>by rw[h0]at hl;revert hl;decide
  unfold Qj at h;dsimp only at h;split at h
  ·cases h
  ·rename_i Ug;split at h
   ·exact Zvb hx h
   ·cases h;exact⟨fun _=>Z2v hp hl Ug,Or.inl rfl⟩
 split at h
 ·unfold Tz at h;dsimp only at h;split at h
  ·cases h
  ·split at h
   ·cases h
   ·rename_i Ug hn;cases h;have YW:En (t.extract (p+1)<|Cm (Ab t) EX<|p+1)=true:=by simpa using hn
    refine⟨hx.1,Or.inr ⟨by show(1:Int)≠6;decide,by show(1:Int)≠7;decide,by simp[GN,Pq,YW],?_⟩⟩
    have:(t.extract (p+1)<|Cm (Ab t) EX<|p+1).size<=16:=by
     unfold En at YW;simp only[Bool.and_eq_true,decide_eq_true_eq]at YW;exact YW.2
    dsimp only;omega
 split at h
 ·unfold KF at h;split at h
  ·cases h
  ·rename_i s q' hq;split at h
   ·cases h
   ·rename_i Ej;cases h;have hv:=(vU ⟨[],zw,rfl⟩ hq).valid;refine⟨hx.1,Or.inr ⟨by show(3:Int)≠6;decide,by show(3:Int)≠7;decide,?_,?_⟩⟩
    ·simp[GN,Pq,av,hv]
    ·show(List.toArray _).size<=_;rw[E9];omega
 split at h
 ·exact Zse hx rfl (Or.inr rfl) h
 split at h
 ·exact Zse hx rfl (Or.inl rfl) h
 ·unfold TX at h;split at h
  ·cases h
  ·rename_i m hm;cases h;have YX:=List.mem_of_find?_eq_some hm;have hall: ∀ m∈PM,GM m=false:=zu
   exact⟨fun h'=>(by have:=hall m YX;dsimp only at h';rw[this]at h';cases h'),Or.inl rfl⟩
def Zqd (h:BD t p= .ok (u,y,q)):UJ y:=by
 unfold BD at h;split at h
 ·cases h;exact Zp1 _
 ·exact Zxa h
def UA {z:Tk}(h:EP t x p= .ok (z,y,q)):UJ y/\z=x:=by
 unfold EP at h;split at h
 ·cases h
 ·rename_i hr;cases h;exact⟨Zqd hr,rfl⟩
def DY {α β:Type}{m:Re α}{f:α->Tk->Nat->Re β}{z:β}(h:BU m f= .ok (z,x,p)): ∃ y x' p',m= .ok (y,x',p')/\f y x' p'= .ok (z,x,p):=by
 unfold BU at h;split at h
 ·cases h
 ·exact⟨_,_,_,rfl,h⟩
def nK {s:List UInt8}{z:Unit}(h:JH t s x p= .ok (z,y,q)):UJ y:=by
 unfold JH at h;split at h
 ·obtain⟨a,b,c,h1,h2⟩:=DY h;cases h2;exact(UA h1).1
 ·cases h
end Go.W
namespace Go.W
variable {t:ByteArray}{s:List UInt8}{d:Nat}{k i:Int}{r:R}{b:Bk}
def PL {α:Type} (read:Tk->Nat->Re α) (Q:α->Prop):Prop:= ∀ x p y x' p',UJ x->read x p= .ok (y,x',p')->Q y/\UJ x'
def Qs {α:Type}{Q:α->Prop}{xs:List α}(h: ∀ x∈xs,Q x){y:α}(hy:Q y): ∀ x∈xs++[y],Q x:=fun x hx=>by
 rcases List.mem_append.mp hx with hx | hx
 ·exact h x hx
 ·rw[List.mem_singleton.mp hx];exact hy
def vS {α:Type}{read:Tk->Nat->Re α}{Q:α->Prop}(hr:PL read Q){most:Nat}: ∀ {n:Nat} {xs:List α},(∀ x∈xs,Q x)->xs.length<=most->PL (Gg t read s most n xs) fun ys=>(∀ x∈ys,Q x)/\ys.length<=most/\ys≠[]
 | 0,xs,_,_,x,p,y,x',p',_,h=>by cases h
 | n+1,xs,hx,hl,x,p,y,x',p',hT,h=>by
  rw[Gg]at h;obtain⟨z,x1,p1,h1,h2⟩:=DY h;obtain⟨hz,Dl⟩:=hr _ _ _ _ _ hT h1;split at h2
  ·cases h2
  ·rename_i hm;have hl':(xs++[z]).length<=most:=by simp;omega
   split at h2
   ·obtain⟨u,x2,p2,h3,h4⟩:=DY h2;exact vS hr (Qs hx hz) hl' _ _ _ _ _ (UA h3).1 h4
   ·cases h2;exact⟨⟨Qs hx hz,hl',zw⟩,Dl⟩
def Zny {read:Tk->Nat->Re T}{Q:T->Prop}(hr:PL read Q):PL (Oe t read s) fun ys=>(∀ x∈ys,Q x)/\ys.length<=6:=fun x p y x' p' hT h=>by
 unfold Oe at h;obtain⟨l,x1,p1,h1,h2⟩:=DY h;obtain⟨u,x2,p2,h3,h4⟩:=DY h2;cases h4;refine⟨?_,nK h3⟩;split at h1
 ·cases h1;simp
 ·have:=(vS hr zw zw _ _ _ _ _ hT h1).1
  exact⟨this.1,this.2.1⟩
def oL {n:Nat}(h:GN k i t n=true)(h1: ¬ (k=1/\0<d))(h2:t.size<=64)(h3:n<=6)(h4: ¬ (k=7/\d=3)):MI d k i t n=0:=by
 unfold MI;rw[if_neg (by rw[h];simpa using h1),if_neg zx,if_neg h4]
def mH {l:List T}(h:MI d k i t l.length=0)(hl: ∀ y∈l,A9 (d+1) y=0):A9 d (.mk k i t l)=0:=by
 rw[A9,if_neg (by simp[h]),Zsy,jN hl]
def Zrs (d:Nat)(b:Bool):A9 d (.mk 6 (if b=true then 1 else 0) ⟨#[]⟩ [])=0:=by
 refine mH (oL ?_ zx zu zu zx) zw;cases b <;> decide
def wS (t:ByteArray): ∀ d,d<=3->PL (EO t d) fun y=>A9 (3-d) y=0:=by
 intro d;induction d with
 | zero=>
  intro _ x p y x' p' hT h;rw[EO]at h;split at h
  ·obtain⟨z,x1,p1,h1,h2⟩:=DY h;cases h2;refine⟨?_,(UA h1).1⟩
   have:=Zrs (3-0)<|decide<|x.text.toList=H7
   simpa using this
  split at h
  ·cases h
  split at h
  ·cases h
  ·rename_i hk;obtain⟨z,x1,p1,h1,h2⟩:=DY h;cases h2;obtain⟨k6,k7,hf,hs⟩:=hT.2.resolve_left zx;exact⟨mH (oL hf zx hs zw zx) zw,(UA h1).1⟩
 | succ d ih=>
  intro hd x p y x' p' hT h;rw[EO]at h;split at h
  ·obtain⟨z,x1,p1,h1,h2⟩:=DY h;cases h2;refine⟨?_,(UA h1).1⟩
   have:=Zrs (3-(d+1))<|decide<|x.text.toList=H7
   simpa using this
  split at h
  ·obtain⟨z,x1,p1,h1,h2⟩:=DY h;obtain⟨l,x2,p2,h3,h4⟩:=DY h2;cases h4;obtain⟨⟨hl,h6⟩,aV⟩:=Zny (ih zx) _ _ _ _ _ (UA h1).1 h3;exact⟨mH (oL (by simp[GN,Pq];rfl) zx zu h6 zx) fun y hy=>by rw[show 3-(d+1)+1=3-d by omega];exact hl y hy,aV⟩
  split at h
  ·cases h
  ·rename_i hk;obtain⟨z,x1,p1,h1,h2⟩:=DY h;cases h2;obtain⟨k6,k7,hf,hs⟩:=hT.2.resolve_left zx;exact⟨mH (oL hf zx hs zw zx) zw,(UA h1).1⟩
def il {α:Type}{f:α->Int}{m:Nat}{l:List α}(h:l.length<=m)(hl: ∀ x∈l,f x=0):ES f m l=0:=by
 unfold ES;rw[if_neg zx,jN hl]
def Zoq (t:ByteArray):PL (OZ t) fun y=>ER y=0:=fun x p y x' p' hT h=>by
 unfold OZ at h;split at h
 ·rename_i hw;obtain⟨z,x1,p1,h1,h2⟩:=DY h;obtain⟨u,x2,p2,h3,h4⟩:=DY h2;obtain⟨l,x3,p3,h5,h6⟩:=DY h4;cases h6;obtain⟨⟨hl,hn⟩,gI⟩:=Zny (wS t 3 zx) _ _ _ _ _ (nK h3) h5;refine⟨?_,gI⟩;show ER ⟨x.text,l⟩=0;unfold ER;rw[if_neg (by simp[hT.1 hw.1]),il hn hl]
 ·cases h
def Z6d (s:ByteArray):OB s<=7:=by
 unfold OB;split
 ·rename_i i hi
  have:=(List.findIdx?_eq_some_iff_findIdx_eq.mp hi).1
  have hl:JO.length=7:=rfl;omega
 ·omega
def ZR (g:G):Prop:= ¬ (g.op<1\/7<g.op)/\A9 0 g.a=0/\A9 0 g.b=0
def Zv7 (t:ByteArray):PL (Vx t) ZR:=fun x p y x' p' hT h=>by
 unfold Vx at h;obtain⟨a,x1,p1,h1,h2⟩:=DY h;obtain⟨ha,Dl⟩:=wS t 3 zx _ _ _ _ _ hT h1;split at h2
 ·cases h2
 ·rename_i ho;obtain⟨u,x2,p2,h3,h4⟩:=DY h2;obtain⟨b,x3,p3,h5,h6⟩:=DY h4;obtain⟨hb,gI⟩:=wS t 3 zx _ _ _ _ _ (UA h3).1 h5;cases h6
  have:=Z6d x1.text
  exact⟨⟨by dsimp only;omega,ha,hb⟩,gI⟩
structure lV (r:R):Prop where
 head:r.head=Jh.head
 nb:r.body.length<=4
 ng:r.guards.length<=4
 body: ∀ a∈r.body,ER a=0
 guards: ∀ g∈r.guards,ZR g
def Zy2 (t:ByteArray)(hr:lV r):PL (Qi t r) fun y=>lV y/\ ¬ (y.body.length=0/\y.guards.length=0):=fun x p y x' p' hT h=>by
 unfold Qi at h;split at h
 ·obtain⟨a,x1,p1,h1,h2⟩:=DY h;obtain⟨ha,Dl⟩:=Zoq t _ _ _ _ _ hT h1;split at h2
  ·cases h2
  ·cases h2
   have:=hr.nb
   exact⟨⟨⟨hr.head,by simp;omega,hr.ng,Qs hr.body ha,hr.guards⟩,zw⟩,Dl⟩
 ·obtain⟨a,x1,p1,h1,h2⟩:=DY h;obtain⟨ha,Dl⟩:=Zv7 t _ _ _ _ _ hT h1;split at h2
  ·cases h2
  ·cases h2
   have:=hr.ng
   exact⟨⟨⟨hr.head,hr.nb,by simp;omega,hr.body,Qs hr.guards ha⟩,zw⟩,Dl⟩
def Znt (t:ByteArray): ∀ (n:Nat) {r:R},lV r->PL (Iw t n r) fun y=>lV y/\ ¬ (y.body.length=0/\y.guards.length=0)
 | 0,r,_,x,p,y,x',p',_,h=>by cases h
 | n+1,r,hr,x,p,y,x',p',hT,h=>by
  rw[Iw]at h;obtain⟨r1,x1,p1,h1,h2⟩:=DY h;obtain⟨h3,Dl⟩:=Zy2 t hr _ _ _ _ _ hT h1;split at h2
  ·obtain⟨u,x2,p2,h4,h5⟩:=DY h2;exact Znt t n h3.1 _ _ _ _ _ (UA h4).1 h5
  ·cases h2;exact⟨h3,Dl⟩
def Z7b {b:List A}{x:T}(h:A9 0 x=0)(hb:Ez [x] b=true):MU b x=0:=by
 unfold MU;rw[if_neg (by simp[h]),if_neg (by simp[hb])]
def Zoy (t:ByteArray):PL (MN t) fun y=>GX y=0/\y.head=Jh.head:=fun x p y x' p' hT h=>by
 unfold MN at h;obtain⟨r,x1,p1,h1,h2⟩:=DY h;obtain⟨⟨hr,hn⟩,Dl⟩:=Znt t 9 ⟨rfl,zu,zu,by simp[Jh],by simp[Jh]⟩ _ _ _ _ _ hT h1;split at h2
 ·rename_i hall;cases h2;have hb:=hr.nb;have hg:=hr.ng;refine⟨⟨?_,hr.head⟩,Dl⟩;unfold GX;rw[if_neg hn,if_neg zx,if_neg (by simp[jN hr.body]),jN];intro g hG;obtain⟨ho,ha,hb⟩:=hr.guards g hG;have hB:=List.all_eq_true.mp hall g hG;have Qc:Ez [g.a] y.body=true/\Ez [g.b] y.body=true:=by
   simp only[Ez,List.all_cons,List.all_nil,Bool.and_true,Bool.and_eq_true]at hB⊢;exact hB
  unfold MP;rw[if_neg ho,if_neg (by simp[Z7b ha Qc.1]),Z7b hb Qc.2]
 ·cases h2
def Ybl (h:GX r=0/\r.head=Jh.head):Og r=0:=by
 unfold Og;rw[h.2,if_neg zu];exact h.1
def Zs4 (t:ByteArray):PL (Ti t) fun l=>Hq l=0:=fun x p y x' p' hT h=>by
 unfold Ti at h;obtain⟨u,x1,p1,h1,h2⟩:=DY h;obtain⟨⟨hall,hl,hne⟩,Dl⟩:=vS (Zoy t) zw zw _ _ _ _ _ (nK h1) h2;refine⟨?_,Dl⟩;show Hq y=0;unfold Hq
 rw[if_neg (by simpa using hne),il hl fun r hr=>Ybl (hall r hr)]
structure WS (b:Bk):Prop where
 nf:b.facts.length<=24
 nr:b.rules.length<=24
 nc:b.checks.length<=24
 facts: ∀ a∈b.facts,PP a=0
 rules: ∀ r∈b.rules,MV r=0
 checks: ∀ c∈b.checks,Hq c=0
def WS.right (h:WS b):GV b=0:=by
 unfold GV;rw[if_neg (by simp[il h.nf h.facts]),if_neg (by simp[il h.nr h.rules]),il h.nc h.checks]
def Zvh (t:ByteArray)(hb:WS b):PL (Rf t b) WS:=fun x p y x' p' _ h=>by
 unfold Rf at h;obtain⟨u,x1,p1,h1,h2⟩:=DY h;obtain⟨l,x2,p2,h3,h4⟩:=DY h2;obtain⟨hl,aV⟩:=Zs4 t _ _ _ _ _ (UA h1).1 h3;split at h4
 ·cases h4
 ·cases h4
  have:=hb.nc
  exact⟨⟨hb.nf,hb.nr,by simp;omega,hb.facts,hb.rules,Qs hb.checks hl⟩,aV⟩
def Zmj (t:ByteArray)(hb:WS b):PL (Ns t b) WS:=fun x p y x' p' hT h=>by
 unfold Ns at h;obtain⟨hd,x1,p1,h1,h2⟩:=DY h;obtain⟨ha,Dl⟩:=Zoq t _ _ _ _ _ hT h1;split at h2
 ·obtain⟨u,x2,p2,h3,h4⟩:=DY h2;obtain⟨r,x3,p3,h5,h6⟩:=DY h4;obtain⟨hr,gI⟩:=Zoy t _ _ _ _ _ (UA h3).1 h5;split at h6
  ·cases h6
  ·rename_i Kt;split at h6
   ·cases h6
   ·cases h6
    have:=hb.nr
    refine⟨⟨hb.nf,by simp;omega,hb.nc,hb.facts,Qs hb.rules ?_,hb.checks⟩,gI⟩;have hB:GX {r with head:=hd}=GX r:=rfl;unfold MV;rw[if_neg (by simp[ha]),hB,if_neg (by simp[hr.1]),if_neg Kt]
 ·split at h2
  ·cases h2
  ·rename_i Kt;split at h2
   ·cases h2
   ·cases h2
    have:=hb.nf
    refine⟨⟨by simp;omega,hb.nr,hb.nc,Qs hb.facts ?_,hb.rules,hb.checks⟩,Dl⟩;unfold PP;rw[if_neg (by simp[ha]),if_neg Kt]
def Zlf (t:ByteArray): ∀ (n:Nat) {b:Bk},WS b->PL (Le t n b) WS
 | 0,b,_,x,p,y,x',p',_,h=>by cases h
 | n+1,b,hb,x,p,y,x',p',hT,h=>by
  rw[Le]at h;split at h
  ·cases h;exact⟨hb,hT⟩
  ·obtain⟨b1,x1,p1,h1,h2⟩:=DY h;obtain⟨u,x2,p2,h3,h4⟩:=DY h2;have hb1:WS b1:=by
    split at h1
    ·exact(Zvh t hb _ _ _ _ _ hT h1).1
    ·exact(Zmj t hb _ _ _ _ _ hT h1).1
   exact Zlf t n hb1 _ _ _ _ _ (nK h3) h4
def Z7x {α:Type}{read:Tk->Nat->Re α}{Q:α->Prop}(hr:PL read Q){y:α}(h:Et t read= .ok y):Q y:=by
 unfold Et at h;split at h
 ·cases h
 ·split at h
  ·cases h
  ·rename_i h1;cases h;obtain⟨u,x1,p1,h2,h3⟩:=DY h1;exact(hr _ _ _ _ _ (Zqd h2) h3).1
def Zy0 (h:Et t (Jj t)= .ok b):GV b=0:=(Z7x (Zlf t 73 ⟨zw,zw,zw,zw,zw,zw⟩) h).right
end Go.W
namespace Go.W
variable {a:By}{c:UInt8}
def At (t:ByteArray) (p:Nat) (l:By):Prop:=(bl t).drop p=l/\p<=t.size
def WH (ok:Nat->Bool) (l:By):Prop:= ∀ c r,l=c::r->ok c.toNat=false
section
variable {t:ByteArray} {p:Nat} {l:By}
def At.len (h:At t p l):p+l.length=t.size:=by
 have:=congrArg List.length h.1
 rw[List.length_drop,IR]at this
 have:=h.2
 omega
def At.app (h:At t p (a++l)):At t (p+a.length) l:=by
 refine⟨?_,by have:=h.len;simp at this;omega⟩;rw[<- List.drop_drop,h.1,List.drop_left]
def At.getD (h:At t p (c::l)):(Ab t).getD p 0=c.toNat:=by
 have e:(bl t)[p]?=some c:=by
  have:=congrArg (·[0]?) h.1
  simpa using this
 show((bl t).map UInt8.toNat).getD p 0=_;rw[List.getD_eq_getElem?_getD,Jq,e];rfl
def At.lt (h:At t p (c::l)):p<t.size:=by
 have:=h.len
 simp at this;omega
def At.next (h:At t p (c::l)):At t (p+1) l:=At.app (a:=[c]) h
def At.nil (h:At t p []):p=t.size:=by simpa using h.len
def At.here (h:At t p (a++l)):t.extract p (p+a.length)=ba a:=by
 rw[<- IQ (t.extract p<|p+a.length)];congr 1
 show(t.extract p<|p+a.length).data.toList=a;rw[ByteArray.data_extract,Array.toList_extract,List.extract_eq_take_drop,show t.data.toList.drop p=a++l from h.1];simp
def At.rest (h:At t p l):t.extract p t.size=ba l:=by
 have:=At.here (a:=l) (l:=[]) (by rw[List.append_nil];exact h)
 rw[h.len]at this;exact this
def At.span {ok:Nat->Bool}: ∀ {a:By} {p:Nat},At t p (a++l)->(∀ c,c∈a->ok c.toNat=true)->WH ok l->Cm (Ab t) ok p=p+a.length
 | [],p,h,_,hl=>by
  rw[D7,Oj];refine Z3n fun hc=>?_;cases l with
  | nil=>
   have:=h.nil
   rw[Xg]at hc;omega
  | cons c r=>
   have:=hl c r rfl
   rw[<- At.getD h,hc.2]at this;cases this
 | c::a,p,h,ha,hl=>by
  have h0:At t p (c::(a++l)):=h;rw[uK (by rw[Xg];exact h0.lt) (by rw[h0.getD];exact ha c<|List.mem_cons_self ..),At.span h0.next (fun d hd=>ha d (List.mem_cons_of_mem _ hd)) hl,BO];omega
def At.blank (h:At t p (c::l))(hc:QD c.toNat=true):IP (Ab t) p=IP (Ab t) (p+1):=Zqg (by rw[Xg];exact h.lt) (by rw[h.getD];exact hc)
def At.still (h:At t p (c::l))(hc:QD c.toNat=false)(gy:c.toNat≠47):IP (Ab t) p=p:=by
 unfold IP;cases hn:(Ab t).length-p with
 | zero=>rfl
 | succ n=>rw[Qh,if_neg (by rw[h.getD,hc];simp),if_neg (by rw[h.getD];exact fun x=>gy x.2.1)]
def At.read (h:At t p (c::l))(hc:QD c.toNat=false)(gy:c.toNat≠47):BD t p=Nl t c.toNat p:=by
 unfold BD
 have:=h.lt
 rw[h.still hc gy,if_neg zx,h.getD]
def At.A7 (h:At t p (c::l))(hc:QD c.toNat=true):BD t p=BD t (p+1):=by
 unfold BD;rw[h.blank hc]
def At.SN (h:At t p []):BD t p= .ok ((),ED t.size,t.size):=by
 have e:=h.nil;unfold BD;rw[if_pos];rw[e];unfold IP;rw[Xg,Nat.sub_self];rfl
end
end Go.W
namespace Go.W
variable {s:By}{c:UInt8}
def Lm (s:By):(ba s).toList=s:=by rw[Lr];rfl
def Z1s (s:By):Ab (ba s)=s.map UInt8.toNat:=rfl
def Zwi {c:Nat}(h:Jm c=true):QD c=false/\c≠47/\EX c=true:=by
 have h':97<=c/\c<=122:=by simpa[Jm]using h
 refine⟨by simp[QD];omega,zx,by simp[EX,h]⟩
def vK (h:En (ba s)=true):(∃ c r,s=c::r/\Jm c.toNat=true)/\(∀ c,c∈s->EX c.toNat=true)/\s.length<=16:=by
 unfold En at h;simp only[Bool.and_eq_true,decide_eq_true_eq,Bh]at h;obtain⟨⟨h1,h2⟩,h3⟩:=h;have at_: ∀ i (hi:i<s.length),(Ab<|ba s).getD i 0=s[i].toNat:=fun i hi=>by
  rw[Z1s,List.getD_eq_getElem?_getD,Jq,DK hi];rfl
 refine⟨?_,fun c hc=>?_,h3⟩
 ·cases s with
  | nil=>simp at h2
  | cons c r=>
   have:=h1 0 zw
   unfold Rq at this;rw[at_ 0 zw]at this;exact⟨c,r,rfl,by simpa using this⟩
 ·obtain⟨i,hi,rfl⟩:=List.getElem_of_mem hc
  have:=h1 i hi
  unfold Rq at this;rw[at_ i hi]at this;simp only[Bool.or_eq_true,Bool.and_eq_true,decide_eq_true_eq]at this;unfold EX;rcases this with h | ⟨_,h | h⟩
  ·simp[h]
  ·simp[h]
  ·simp[h]
section
variable {t:ByteArray} {p:Nat} {l:By}
def At.word (h:At t p (s++l))(hs:En (ba s)=true)(hl:WH EX l)(hx:s=[104,101,120]->WH (fun c=>decide (c=58)) l):BD t p= .ok ((),{ED p with text:=ba s},p+s.length):=by
 obtain⟨⟨c,r,rfl,hc⟩,hall,Ug⟩:=vK hs;have h0:At t p (c::(r++l)):=h;have hp:=Zwi hc;rw[h0.read hp.1 hp.2.1];unfold Nl;rw[if_pos hc];unfold Qj;dsimp only;rw[h.span hall hl,if_neg zx,h.here,Lm,if_neg];rintro⟨e,sG⟩;cases l with
 | nil=>
  have:=Z5h sG
  have:=h.len
  rw[List.append_nil]at this;omega
 | cons d l'=>
  rw[(At.app h).getD]at sG
  have:=hx e d l' rfl
  simp[sG]at this
def At.variable (h:At t p (36::(s++l)))(hs:En (ba s)=true)(hl:WH EX l):BD t p= .ok ((),{ED p with k:=1,i:=0,s:=ba s},p+1+s.length):=by
 obtain⟨_,hall,Ug⟩:=vK hs;rw[h.read rfl zu];show Tz t (ED p) p=_;unfold Tz;dsimp only;rw[h.next.span hall hl,if_neg zx,h.next.here,if_neg (by rw[hs];simp)]
def xE (c:Nat):Bool:=decide (c=60) || decide (c=62) || decide (c=61) || decide (c=33) || decide (c=94) || decide (c=40) || decide (c=41) || decide (c=91) || decide (c=93) || decide (c=44) || decide (c=59)
def At.mark {m:ByteArray}(h:At t p (c::l))(hc:xE c.toNat=true)(hf:PM.find? (fun m=>Lib.hasPrefix (c::l) m.data.toList)=some m):BD t p= .ok ((),{ED p with text:=m},p+m.size):=by
 have hk: ∀ c,xE c=true->QD c=false/\c≠47/\Jm c=false/\c≠36/\c≠34/\c≠64/\c≠45/\Dr c=false:=fun c hc=>by
  simp only[xE,Bool.or_eq_true,decide_eq_true_eq]at hc;rcases hc with(((((((((rfl | rfl) | rfl) | rfl) | rfl) | rfl) | rfl) | rfl) | rfl) | rfl) | rfl <;> decide
 obtain⟨h1,h2,h3,h4,h5,h6,h7,h8⟩:=hk _ hc;rw[h.read h1 h2];unfold Nl;rw[if_neg (by rw[h3];simp),if_neg h4,if_neg h5,if_neg h6,if_neg (by rw[h8];simpa using h7)];unfold TX;rw[show Ql t p=(fun m=>Lib.hasPrefix (c::l) m.data.toList)from funext fun m=>by unfold Ql;rw[h.rest];rfl,hf]
def At.one (h:At t p (c::l))(hc:c=40\/c=41\/c=91\/c=93\/c=44\/c=59):BD t p= .ok ((),{ED p with text:=ba [c]},p+1):=by
 rcases hc with rfl | rfl | rfl | rfl | rfl | rfl <;> exact h.mark (m:=ba [_]) zu rfl
def At.iM (h:At t p (60::45::l)):BD t p= .ok ((),{ED p with text:=ba [60,45]},p+2):=h.mark (m:=ba [60,45]) zu rfl
end
end Go.W
namespace Go.W
variable {i:Int}{s:By}
def Zxb (M:Nat): ∀ (a b:By) (v w:Nat),Lib.parseUintM M v a= .ok w->Lib.parseUintM M v (a++b)=Lib.parseUintM M w b
 | [],b,v,w,h=>by cases h;rfl
 | c::a,b,v,w,h=>by
  rw[Gm,Lib.parseUintM];rw[Lib.parseUintM]at h;split at h
  ·rename_i h1;rw[if_pos h1];split at h
   ·cases h
   ·rename_i h2;rw[if_neg h2];split at h
    ·cases h
    ·rename_i h3;rw[if_neg h3];exact Zxb M a b _ w h
  ·cases h
def bV {u:Nat}(h:u<10):(UInt8.ofNat<|48+u).toNat=48+u:=by simp;omega
def wO (u:Nat):(∃ c r,Lib.decDigits u=c::r/\(u≠0->c.toNat≠48))/\(∀ c,c∈Lib.decDigits u->Dr c.toNat=true)/\(u<=18446744073709551615->Lib.parseUintM 18446744073709551615 0 (Lib.decDigits u)= .ok u):=by
 induction u using Nat.strongRecOn with
 | ind u ih=>
  rw[Lib.decDigits];by_cases h:u<10
  ·rw[dif_pos h];refine⟨⟨_,_,rfl,fun h0=>by rw[bV h];omega⟩,fun c hc=>?_,fun _=>?_⟩
   ·rw[MX.1 hc,bV h];simp[Dr];omega
   ·rw[Lib.parseUintM,bV h,if_pos zx,if_neg zx,if_neg zx,Lib.parseUintM];congr 1
    omega
  ·rw[dif_neg h];obtain⟨⟨c,r,e,h0⟩,h1,h2⟩:=ih (u / 10) zx;have hd:u % 10<10:=zx
   refine⟨⟨c,r++[UInt8.ofNat<|48+u % 10],by rw[e];rfl,fun _=>h0 zx⟩,fun d Yh=>?_,fun hu=>?_⟩
   ·rcases CY.1 Yh with Yh | Yh
    ·exact h1 d Yh
    ·rw[MX.1 Yh,bV hd];simp[Dr];omega
   ·rw[Zxb _ _ _ _ _<|h2 zx,Lib.parseUintM,bV hd,if_pos zx,if_neg zx,if_neg zx,Lib.parseUintM];congr 1
    omega
def Zpb {c:Nat}(h:Dr c=true):48<=c/\c<=57:=by simpa[Dr]using h
section
variable {t:ByteArray} {p:Nat} {l:By}
def At.int {x:Tk}(h:At t p (Lib.itoa i++l))(hi:Ey i)(hl:WH Dr l):OO t x p= .ok (i,x,p+(Lib.itoa i).length):=by
 obtain⟨JW,hi1⟩: -9223372036854775808<=i/\i<=9223372036854775807:=hi;unfold OO;dsimp only;unfold Lib.itoa at h⊢;by_cases hn:i<0
 ·rw[if_pos hn]at h⊢;obtain⟨⟨c,r,e,h0⟩,hall,hu⟩:=wO i.natAbs;have hu:=hu zx;have hg:(Ab t).getD p 0=45:=At.getD (c:=45) h;have h1:At t (p+1) (Lib.decDigits i.natAbs++l):=At.next (c:=45) h;have Vk:At t (p+1) (c::(r++l)):=by rw[e]at h1;exact h1
  have hex:t.extract p (p+1+(Lib.decDigits i.natAbs).length)=ba (45::Lib.decDigits i.natAbs):=by
   have:=At.here (a:=45::Lib.decDigits i.natAbs) h
   rw[BO]at this;rw[show p+1+(Lib.decDigits i.natAbs).length=p+((Lib.decDigits i.natAbs).length+1)by omega];exact this
  rw[if_pos hg,h1.span hall hl,if_neg,hex]
  ·show(match Lib.parseIntB 64 (45::Lib.decDigits i.natAbs)with | .ok n=>_ | _=>_)=_;have hp:Lib.parseIntB 64 (45::Lib.decDigits i.natAbs)= .ok i:=by
    unfold Lib.parseIntB;dsimp only;rw[if_pos zu];unfold Lib.parseUintB;rw[if_neg (by rw[e];simp),show 2 ^ 64-1=18446744073709551615 from rfl,hu];dsimp only;rw[if_neg zw,if_neg (by rintro⟨_,h⟩;omega),if_pos zu];congr 1
    omega
   rw[hp];dsimp only;rw[BO];congr 3
   omega
  ·rintro(hq | ⟨hq,_⟩)
   ·rw[e,BO]at hq;omega
   ·rw[Vk.getD]at hq;exact h0 zx hq
 ·rw[if_neg hn]at h⊢;obtain⟨⟨c,r,e,h0⟩,hall,hu⟩:=wO i.toNat
  have hu:=hu zx;have h':At t p (c::(r++l)):=by rw[e]at h;exact h
  have hcd:=Zpb<|hall c (by rw[e];exact List.mem_cons_self ..);have Oq:(if(Ab t).getD p 0=45 then p+1 else p)=p:=if_neg (by rw[h'.getD];omega);rw[Oq,h.span hall hl,h.here,if_neg]
  ·show(match Lib.parseIntB 64 (Lib.decDigits i.toNat)with | .ok n=>_ | _=>_)=_;have hp:Lib.parseIntB 64 (Lib.decDigits i.toNat)= .ok i:=by
    rw[e]at hu⊢;unfold Lib.parseIntB;dsimp only;rw[if_neg zx];unfold Lib.parseUintB;rw[if_neg zw,show 2 ^ 64-1=18446744073709551615 from rfl,hu];dsimp only;rw[if_neg (by rintro⟨_,h⟩;omega),if_neg (by rintro⟨h,_⟩;omega),if_neg zx];congr 1
    omega
   rw[hp]
  ·rintro(hq | ⟨hq,hne⟩)
   ·rw[e,BO]at hq;omega
   ·rw[h'.getD]at hq;have hz:i.toNat=0:=by
     by_cases hz:i.toNat=0
     ·exact hz
     ·exact absurd hq<|h0 hz
    rw[hz,Lm]at hne;exact hne (by rw[Lib.decDigits];rfl)
def Z5x (i:Int): ∃ c r,Lib.itoa i=c::r/\(c.toNat=45\/Dr c.toNat=true):=by
 unfold Lib.itoa;split
 ·exact⟨_,_,rfl,Or.inl rfl⟩
 ·obtain⟨⟨c,r,e,_⟩,hall,_⟩:=wO i.toNat
  exact⟨c,r,e,Or.inr<|hall c (by rw[e];exact List.mem_cons_self ..)⟩
def At.number (h:At t p (Lib.itoa i++l))(hi:Ey i)(hl:WH Dr l):BD t p= .ok ((),{ED p with k:=2,i:=i},p+(Lib.itoa i).length):=by
 obtain⟨c,r,e,hc⟩:=Z5x i;have h':At t p (c::(r++l)):=by rw[e]at h;exact h
 have hk:c.toNat=45\/48<=c.toNat/\c.toNat<=57:=hc.imp id Zpb;rw[h'.read (by simp[QD];omega) zx];unfold Nl;rw[if_neg (by simp[Jm];omega),if_neg zx,if_neg zx,if_neg zx,if_pos hc];unfold NS;rw[h.int hi hl]
def At.sW (h:At t p (64::(Lib.itoa i++l)))(hi:Ey i)(hl:WH Dr l):BD t p= .ok ((),{ED p with k:=5,i:=i},p+1+(Lib.itoa i).length):=by
 rw[h.read rfl zu];show NS t p 5 (ED p) (p+1)=_;unfold NS;rw[h.next.int hi hl]
end
def QG (n:Nat):UInt8:=UInt8.ofNat (if n<10 then 48+n else 87+n)
def Hz (c:UInt8):By:=[QG<|c.toNat / 16,QG<|c.toNat % 16]
def bT {n:Nat}(h:n<16):G7 (QG n).toNat=true/\Iy (QG n).toNat=n:=by
 unfold QG;split
 ·rw[bV (by assumption)];refine⟨by simp[G7,Dr];omega,?_⟩;unfold Iy;rw[if_pos (by simp[Dr];omega)];omega
 ·have e:(UInt8.ofNat<|87+n).toNat=87+n:=by simp;omega
  rw[e];refine⟨by simp[G7,Dr];omega,?_⟩;unfold Iy;rw[if_neg (by simp[Dr];omega)];omega
def Z81: ∀ c,c∈s.flatMap Hz->G7 c.toNat=true:=by
 intro c hc;obtain⟨d,_,hd⟩:=List.mem_flatMap.1 hc
 have:=UInt8.toNat_lt d
 unfold Hz at hd;rcases Be.1 hd with rfl | hd
 ·exact(bT zx).1
 ·rw[MX.1 hd];exact(bT zx).1
def Zv9 (s:By):(s.flatMap Hz).length=2*s.length:=by
 induction s with
 | nil=>rfl
 | cons c s ih=>rw[List.flatMap_cons,Bq,ih,BO];show 2+_=_;omega
section
variable {t:ByteArray} {l:By}
def At.Wn: ∀ {s:By} {p:Nat},At t p (s.flatMap Hz++l)->Go.W.Qg (Ab t) s.length p=s
 | [],_,_=>rfl
 | c::s,p,h=>by
  have h0:At t p (QG (c.toNat / 16)::QG (c.toNat % 16)::(s.flatMap Hz++l)):=by
   rw[List.flatMap_cons,GY]at h;exact h
  have:=UInt8.toNat_lt c
  rw[BO,Go.W.Qg,h0.getD,h0.next.getD,(bT zx).2,(bT zx).2,At.Wn (s:=s) (p:=p+2) h0.next.next];congr 1
  rw[show 16*(c.toNat / 16)+c.toNat % 16=c.toNat by omega];simp
def At.bytes {p:Nat}(h:At t p (104::101::120::58::(s.flatMap Hz++l)))(hs:s.length<=64)(hl:WH G7 l):BD t p= .ok ((),{ED p with k:=4,i:=0,s:=ba s},p+4+(s.flatMap Hz).length):=by
 rw[h.read rfl zu];show Qj t (ED p) p=_;unfold Qj;dsimp only;have hw:At t p ([104,101,120]++(58::(s.flatMap Hz++l))):=h;have h4:At t (p+3+1) (s.flatMap Hz++l):=h.next.next.next.next;rw[hw.span zu (fun c r e=>by cases e;rfl),hw.here,Lm,if_neg zw,if_pos ⟨rfl,h.next.next.next.getD⟩,show p+[(104:UInt8),101,120].length+1=p+3+1 from rfl];unfold P4;dsimp only;rw[h4.span Z81 hl,show p+3+1+(s.flatMap Hz).length-(p+3+1)=2*s.length by rw[Zv9];omega,if_neg zx,if_neg zx,show 2*s.length / 2=s.length by omega,h4.Wn];rfl
end
end Go.W
namespace Go.W
variable {y:Nat}{s r:By}
def Em (c:UInt8):By:=match I9.find? (fun y=>decide (y.2=c.toNat))with
 | some y=>[92,UInt8.ofNat y.1]
 | none=>if c.toNat<32 then 92::117::48::48::Hz c else [c]
def Zo7 {l:By}(h:l≠[]):Lib.decodeGo (ba l)=Lib.decodeL l:=by
 unfold Lib.decodeGo;rw[if_neg (by rw[Bh];simpa using h)];rfl
def Zke: ∀ (n:Nat) (l:By),l.length<=n->Lib.validGoD n l=true->XW l
 | 0,l,h,_=>by
  obtain rfl:=Ht (by omega:l.length=0);exact⟨[],zw,rfl⟩
 | n+1,l,h,hv=>by
  rw[Lib.validGoD]at hv;split at hv
  ·rename_i h0;subst h0;exact⟨[],zw,rfl⟩
  ·rename_i h0;split at hv
   ·cases hv
   ·rename_i O3;have e:=Lib.encode_decode l h0 O3;have hr:Lib.validRune (((Lib.decodeL l).1:Nat):Int)=true:=by rw[<- Zo7 h0];exact Zj8 _
    have h1:1<=(Lib.decodeL l).2:=by
     have:=congrArg List.length e
     have h2:=(Lib.encodeRuneZ_length ((Lib.decodeL l).1:Int)).1;have h3:(Lib.encodeRune ((Lib.decodeL l).1:Int)).length=(Lib.encodeRuneZ ((Lib.decodeL l).1:Int)).length:=by unfold Lib.encodeRune;simp
     rw[List.length_take]at this;omega
    obtain⟨rs,h2,h3⟩:=Zke n (l.drop (Lib.decodeL l).2) (by rw[List.length_drop];omega) hv;refine⟨(Lib.decodeL l).1::rs,fun y hy=>?_,?_⟩
    ·rcases Be.1 hy with rfl | hy
     ·exact hr
     ·exact h2 y hy
    ·rw[List.flatMap_cons,<- h3,e,List.take_append_drop]
def bU (h:y<128):Lib.encodeRune (y:Int)=[UInt8.ofNat y]:=by
 unfold Lib.encodeRune;rw[Lib.encodeRuneZ_one zx zx];simp
def Ybx (h:128<=y): ∀ c,c∈Lib.encodeRune (y:Int)->128<=c.toNat:=by
 have k: ∀ z:Int,128<=z->z<256->128<=(z.toNat.toUInt8).toNat:=fun z h0 h1=>by simp;omega
 unfold Lib.encodeRune;intro c hc;obtain⟨z,hz,rfl⟩:=List.mem_map.1 hc;have hb:=Lib.encodeRuneZ_byte _ z hz;refine k z ?_ hb.2;by_cases h2:y<=2047
 ·rw[Lib.encodeRuneZ_two zx zx]at hz;simp at hz;omega
 by_cases O3:(55296<=y/\y<=57343)\/1114111<y
 ·rw[Lib.encodeRuneZ_bad zx]at hz;simp at hz;omega
 by_cases h3:y<=65535
 ·rw[Lib.encodeRuneZ_three zx]at hz;simp at hz;omega
 ·rw[Lib.encodeRuneZ_four zx zx]at hz;simp at hz;omega
def Yco (h: ∀ c,c∈s->128<=c.toNat):s.flatMap Em=s:=by
 induction s with
 | nil=>rfl
 | cons c s ih=>
  have h0:=h c<|List.mem_cons_self ..
  have:Em c=[c]:=by
   unfold Em;rw[show I9.find? (fun y=>decide (y.2=c.toNat))=none from by simp[I9];omega];dsimp only;rw[if_neg zx]
  rw[List.flatMap_cons,this,ih fun d hd=>h d (List.mem_cons_of_mem _ hd)];rfl
section
variable {t:ByteArray} {x:Tk} {p f:Nat} {l acc:By}
def Z60 (hy:Lib.validRune (y:Int)=true)(h:At t p (Lib.encodeRune (y:Int)++r))(hn: ∀ c s,Lib.encodeRune (y:Int)=c::s->c.toNat≠34/\c.toNat≠10/\c.toNat≠92):Es t x (f+1) p acc=Es t x f (p+(Lib.encodeRune (y:Int)).length) (acc++Lib.encodeRune (y:Int)):=by
 have h3:(Lib.encodeRune (y:Int)).length=(Lib.encodeRuneZ (y:Int)).length:=by unfold Lib.encodeRune;simp
 have h2:=(Lib.encodeRuneZ_length (y:Int)).1;obtain⟨c,s,e⟩: ∃ c s,Lib.encodeRune (y:Int)=c::s:=by
  cases hc:Lib.encodeRune (y:Int)with
  | nil=>rw[hc]at h3;simp at h3;omega
  | cons c s=>exact⟨c,s,rfl⟩
 obtain⟨n1,n2,n3⟩:=hn c s e;have h':At t p (c::(s++r)):=by rw[e]at h;exact h
 have hlt:=h'.lt;have hd:Lib.decodeGo (t.extract p t.size)=(y,(Lib.encodeRune (y:Int)).length):=by
  rw[h.rest,Zo7 (by rw[e];simp),Z44 hy]
 rw[Es,if_neg (by rw[h'.getD];exact n1),if_neg (by rw[h'.getD];omega),if_neg (by rw[h'.getD];exact n3),hd];dsimp only;rw[if_neg<|Z0h y]
def Z6z {q:Nat}{c:UInt8}{x':Tk}(h:At t p (92::c::r))(he:NU t x (p+1)= .ok (y,x',q)):Es t x (f+1) p acc=Es t x f q (acc++Lib.encodeRune (y:Int)):=by
 have hlt:=h.lt;have e:(Ab t).getD p 0=92:=h.getD;rw[Es,if_neg (by rw[e];decide),if_neg (by rw[e];omega),if_pos e,he]
def Ycq (hy:y<128)(h:At t p (Em (UInt8.ofNat y)++r)):Es t x (f+1) p acc=Es t x f (p+(Em<|UInt8.ofNat y).length) (acc++[UInt8.ofNat y]):=by
 have ey:(UInt8.ofNat y).toNat=y:=by simp;omega
 rw[<- bU hy];unfold Em at h⊢;rw[ey]at h⊢;cases hf:I9.find? (fun z=>decide (z.2=y))with
 | some z=>
  rw[hf]at h;dsimp only at h⊢;have hm:=List.mem_of_find?_eq_some hf;have hz:z.2=y:=by simpa using List.find?_some hf
  have hk: ∀ z,z∈I9->(UInt8.ofNat z.1).toNat=z.1/\I9.find? (fun w=>decide (w.1=z.1))=some z:=zu
  obtain⟨k1,k2⟩:=hk z hm;have h':At t p (92::UInt8.ofNat z.1::r):=h;subst hz;refine Z6z h' (x':=x) ?_;unfold NU;rw[h'.next.getD,k1,k2];rfl
 | none=>
  rw[hf]at h;dsimp only at h⊢;split
  ·rename_i Ea;rw[if_pos Ea]at h;have h':At t p (92::117::48::48::(QG (y / 16)::QG (y % 16)::r)):=by unfold Hz at h;rw[ey]at h;exact h
   have q4:=h'.next.next;refine Z6z h' (x':=x) ?_;unfold NU;have sV:(Ab t).getD (p+1) 0=117:=h'.next.getD;rw[sV];show PI t x (p+1+1)=_;unfold PI;have k1:=bT (show y / 16<16 by omega);have k2:=bT (show y % 16<16 by omega);have g0:(Ab t).getD (p+1+1) 0=48:=q4.getD;have g1:(Ab t).getD (p+1+1+1) 0=48:=q4.next.getD;rw[LM,g0,if_pos zu,LM,g1,if_pos zu,LM,q4.next.next.getD,if_pos k1.1,LM,q4.next.next.next.getD,if_pos k2.1,LM,k1.2,k2.2];have ev:16*(16*(16*(16*0+Iy 48)+Iy 48)+y / 16)+y % 16=y:=by
    have:Iy 48=0:=zu
    rw[this];omega
   rw[ev];dsimp only;rw[if_pos (by simp[Lib.validRune];omega)];rfl
  ·rename_i Ea;rw[if_neg Ea]at h;have hn:y≠34/\y≠92:=by
    constructor
    ·rintro rfl;revert hf;decide
    ·rintro rfl;revert hf;decide
   have:=Z60 (x:=x) (f:=f) (acc:=acc) (y:=y) (r:=r) (by simp[Lib.validRune];omega) (by rw[bU hy];exact h) (fun c s e=>by rw[bU hy]at e;cases e;rw[ey];omega)
   rw[bU hy]at this;rw[this,bU hy]
def Z07: ∀ (rs:List Nat) (f p:Nat) (acc:By),(∀ y∈rs,Lib.validRune (y:Int)=true)->rs.length<f->At t p ((rs.flatMap fun y:Nat=>Lib.encodeRune (y:Int)).flatMap Em++34::l)->Es t x f p acc= .ok (acc++(rs.flatMap fun y:Nat=>Lib.encodeRune (y:Int)),p+((rs.flatMap fun y:Nat=>Lib.encodeRune (y:Int)).flatMap Em).length)
 | [],f,p,acc,_,hf,h=>by
  obtain⟨f,rfl⟩: ∃ g,f=g+1:=⟨f-1,by simp at hf;omega⟩;have h0:At t p (34::l):=h;rw[Z06 h0.getD];simp
 | y::rs,f,p,acc,hv,hf,h=>by
  obtain⟨f,rfl⟩: ∃ g,f=g+1:=⟨f-1,by simp at hf;omega⟩;have hy:=hv y<|List.mem_cons_self ..;rw[List.flatMap_cons,List.flatMap_append,GY]at h;have step:Es t x (f+1) p acc=Es t x f (p+((Lib.encodeRune (y:Int)).flatMap Em).length) (acc++Lib.encodeRune (y:Int)):=by
   by_cases h8:y<128
   ·rw[bU h8]at h⊢;have e:([UInt8.ofNat y].flatMap Em)=Em (UInt8.ofNat y):=zw
    rw[e]at h⊢;exact Ycq h8 h
   ·have hb:=Ybx (y:=y) zx;rw[Yco hb]at h⊢;exact Z60 hy h fun c s e=>by
     have:=hb c (by rw[e];exact List.mem_cons_self ..)
     omega
  rw[step,Z07 rs f _ _ (fun z hz=>hv z (List.mem_cons_of_mem _ hz)) (by simp at hf;omega) h.app,List.flatMap_cons,List.flatMap_append,Bq,GY,Nat.add_assoc]
def Ycp (s:By):s.length<=(s.flatMap Em).length:=by
 induction s with
 | nil=>simp
 | cons c s ih=>
  rw[List.flatMap_cons,Bq,BO]
  have:1<=(Em c).length:=by
   unfold Em;split
   ·simp
   ·split <;> simp
  omega
def Z67 (rs:List Nat):rs.length<=(rs.flatMap fun y:Nat=>Lib.encodeRune (y:Int)).length:=by
 induction rs with
 | nil=>simp
 | cons y rs ih=>
  rw[List.flatMap_cons,Bq,BO];have h3:(Lib.encodeRune (y:Int)).length=(Lib.encodeRuneZ (y:Int)).length:=by unfold Lib.encodeRune;simp
  have h2:=(Lib.encodeRuneZ_length (y:Int)).1;omega
def At.string (h:At t p (34::(s.flatMap Em++34::l)))(hs:Lib.validD s=true)(Ej:s.length<=64):BD t p= .ok ((),{ED p with k:=3,i:=0,s:=ba s},p+2+(s.flatMap Em).length):=by
 obtain⟨rs,hv,rfl⟩:=Zke _ _ lr hs;rw[h.read rfl zu];show KF t (ED p) p=_;unfold KF;have hlen:=h.len
 have:=Ycp (rs.flatMap fun y:Nat=>Lib.encodeRune (y:Int))
 have:=Z67 rs
 simp only[BO,Bq]at hlen;rw[Z07 rs _ _ [] hv zx h.next,FK];dsimp only;rw[if_neg zx];congr 3
 omega
end
end Go.W
namespace Go.W
variable {s:By}
def PN:List UInt8:=[102,97,108,115,101]
mutual
def BM:T->By
 | .mk k i t l=>if k=1 then 36::bl t else if k=2 then Lib.itoa i else if k=3 then 34::((bl t).flatMap Em++[34])else if k=4 then 104::101::120::58::(bl t).flatMap Hz
  else if k=5 then 64::Lib.itoa i else if k=6 then(if i=1 then H7 else PN)else 91::(V4 true l++[93])
def V4 (first:Bool):List T->By
 | []=>[]
 | x::r=>(if first then []else [44,32])++(BM x++V4 false r)
end
def Ar {α:Type} (s:By) (f:α->By):List α->By
 | []=>[]
 | x::r=>f x++r.flatMap fun y=>s++f y
def Zzn (l:List T):V4 false l=l.flatMap fun y=>[44,32]++BM y:=by
 induction l with
 | nil=>rw[V4];rfl
 | cons x r ih=>rw[V4,ih,List.flatMap_cons];simp
def uk (l:List T):V4 true l=Ar [44,32] BM l:=by
 cases l with
 | nil=>rw[V4];rfl
 | cons x r=>rw[V4,Zzn];rfl
def JF (l:By):Prop:= ∃ c r,l=c::r/\(c=44\/c=41\/c=93\/c=32\/c=59)
def JF.ends {l:By}(h:JF l){ok:Nat->Bool}(Az:ok 44=false/\ok 41=false/\ok 93=false/\ok 32=false/\ok 59=false):WH ok l:=by
 obtain⟨c,r,rfl,hc⟩:=h;intro d s e;cases e;rcases hc with rfl | rfl | rfl | rfl | rfl
 ·exact Az.1
 ·exact Az.2.1
 ·exact Az.2.2.1
 ·exact Az.2.2.2.1
 ·exact Az.2.2.2.2
section
variable {t:ByteArray} {p q q':Nat} {l:By} {x x':Tk}
def Rl (h:BD t p= .ok ((),x',q')){α:Type}{g:Tk->Tk->Nat->Re α}:BU (EP t x p) g=g x x' q':=by
 unfold EP;rw[h];rfl
def iw (hs:x.text.toList=s)(h:BD t p= .ok ((),x',q')){α:Type}{g:Unit->Tk->Nat->Re α}:BU (JH t s x p) g=g () x' q':=by
 unfold JH;rw[if_pos hs,Rl h];rfl
structure XI {α:Type} (t:ByteArray) (D:By->Prop) (f:α->By) (read:Tk->Nat->Re α) (y:α):Prop where
 first: ∀ p l,At t p (f y++l)->D l-> ∃ x q,BD t p= .ok ((),x,q)
 read: ∀ p l x q x' q',At t p (f y++l)->D l->BD t p= .ok ((),x,q)->BD t (p+(f y).length)= .ok ((),x',q')->read x q= .ok (y,x',q')
structure xD (t:ByteArray) (D:By->Prop) (sb s:By):Prop where
 del: ∀ l,D (sb++l)
 read: ∀ p l,At t p (sb++l)-> ∃ x q,BD t p= .ok ((),x,q)/\x.text.toList=s/\BD t q=BD t (p+sb.length)
def uN {α:Type}{D:By->Prop}{f:α->By}{read:Tk->Nat->Re α}{sb:By}{most:Nat}(S:xD t D sb s): ∀ (r:List α) (y:α) (n:Nat) (acc:List α) (p:Nat) (x:Tk) (q:Nat),(∀ z,z∈y::r->XI t D f read z)->r.length<n->acc.length+r.length<most->At t p (f y++(r.flatMap (fun z=>sb++f z)++l))->D l->BD t p= .ok ((),x,q)->BD t (p+(f y++r.flatMap fun z=>sb++f z).length)= .ok ((),x',q')->x'.text.toList≠s->Gg t read s most n acc x q= .ok (acc++y::r,x',q')
 | [],y,n,acc,p,x,q,R,hn,hm,h,hD,h0,h1,hne=>by
  obtain⟨n,rfl⟩: ∃ m,n=m+1:=⟨n-1,zx⟩;have h':At t p (f y++l):=h;have Vk:BD t (p+(f y).length)= .ok ((),x',q'):=by
   have e:f y++([]:List α).flatMap (fun z=>sb++f z)=f y:=zw
   rw[e]at h1;exact h1
  rw[Gg,Cc<|(R y<|List.mem_cons_self ..).read _ _ _ _ _ _ h' hD h0 Vk,if_neg (by simp at hm;omega),if_neg hne]
 | z::r,y,n,acc,p,x,q,R,hn,hm,h,hD,h0,h1,hne=>by
  obtain⟨n,rfl⟩: ∃ m,n=m+1:=⟨n-1,zx⟩;have h':At t p (f y++(sb++(f z++(r.flatMap (fun z=>sb++f z)++l)))):=by
   rw[List.flatMap_cons]at h;simpa only[GY]using h
  have hs:=At.app h';obtain⟨xs,qs,k1,k2,k3⟩:=S.read _ _ hs;have hz:=At.app hs;have rY:D (r.flatMap (fun z=>sb++f z)++l):=by
   cases r with
   | nil=>exact hD
   | cons w r=>rw[List.flatMap_cons,GY,GY];exact S.del _
  have Rz:=R z<|List.mem_cons_of_mem _<|List.mem_cons_self ..;obtain⟨xz,qz,k4⟩:=Rz.first _ _ hz rY;rw[Gg,Cc<|(R y<|List.mem_cons_self ..).read _ _ _ _ _ _ h' (S.del _) h0 k1,if_neg (by simp at hm;omega),if_pos k2,Rl<|k3.trans k4]
  have:=uN (most:=most) S r z n (acc++[y]) _ xz qz (fun w hw=>R w (List.mem_cons_of_mem _ hw)) (by simp at hn;omega) (by simp at hm⊢;omega) hz hD k4 (by
   rw[<- h1];congr 1
   simp only[List.flatMap_cons,Bq,Nat.add_assoc]) hne
  rw[this];simp
def vw (t:ByteArray):xD t JF [44,32] [44]:=⟨fun l=>⟨44,32::l,rfl,Or.inl rfl⟩,fun p l h=>by
 have h':At t p (44::32::l):=h;exact⟨_,_,h'.one zu,Lm _,h'.next.A7 rfl⟩⟩
def Zst {f:T->By}{read:Tk->Nat->Re T}{c:UInt8}(hc:c=41\/c=93){ys:List T}(R: ∀ z,z∈ys->XI t JF f read z)(R1: ∀ z,z∈ys-> ∀ p l x q,At t p (f z++l)->JF l->BD t p= .ok ((),x,q)->x.text.toList≠[c])(h6:ys.length<=6)(h:At t p (Ar [44,32] f ys++c::l))(h0:BD t p= .ok ((),x,q))(h1:BD t (p+(Ar [44,32] f ys).length+1)= .ok ((),x',q')):Oe t read [c] x q= .ok (ys,x',q'):=by
 have RQ:At t (p+(Ar [44,32] f ys).length) (c::l):=h.app;have kc:BD t (p+(Ar [44,32] f ys).length)= .ok ((),⟨p+(Ar [44,32] f ys).length,ba [c],0,0,⟨#[]⟩⟩,p+(Ar [44,32] f ys).length+1):=RQ.one (by rcases hc with rfl | rfl <;> decide);have hdel:JF (c::l):=⟨c,l,rfl,by rcases hc with rfl | rfl <;> decide⟩;unfold Oe;cases ys with
 | nil=>
  have sH:BD t p= .ok ((),_,_):=kc;rw[h0]at sH;cases sH;rw[if_pos<|Lm _,Cc rfl,iw (s:=[c]) (Lm _) h1]
 | cons y r=>
  have h':At t p (f y++(r.flatMap (fun z=>[44,32]++f z)++c::l)):=by
   rw[Ar,GY]at h;exact h
  have hD:JF (r.flatMap (fun z=>[44,32]++f z)++c::l):=by
   cases r with
   | nil=>exact hdel
   | cons w r=>exact⟨44,_,rfl,Or.inl rfl⟩
  have hne:=R1 y (List.mem_cons_self ..) _ _ _ _ h' hD h0;rw[if_neg hne,Cc<|uN (vw t) r y 7 [] p x q R (by simp at h6;omega) (by simp at h6⊢;omega) h' hdel h0 kc (by rw[Lm];rcases hc with rfl | rfl <;> decide)];rw[iw (s:=[c]) (Lm _) h1];rfl
end
end Go.W
namespace Go.W
variable {q:Nat}
def Dz (a b:By):ba (a++b)=ba a++ba b:=by rw[<- IQ (ba a++ba b),MQ,MO,MO]
def Xa (s:ByteArray):s++ba []=s:=by rw[<- IQ s,<- Dz,List.append_nil]
def Ed {α:Type} (f:α->By) (l:List α):By:=l.flatMap fun x=>f x++[59,10]
def vY {α:Type}(f:α->By){l:List α}(h:q<l.length):Ed f (l.take<|q+1)=Ed f (l.take q)++(f l[q]++[59,10]):=by
 unfold Ed;rw[PR,DK h,List.flatMap_append];simp
def uP {α:Type}(f:α->By)(l:List α)(q:Nat):(Ed f<|l.take q).length<=(Ed f l).length:=by
 have e:Ed f l=Ed f (l.take q)++Ed f (l.drop q):=by
  unfold Ed;rw[<- List.flatMap_append,List.take_append_drop]
 rw[e,Bq];omega
def Z69 {α:Type}(s:By)(f:α->By)(l:List α)(x:α):Ar s f (l++[x])=Ar s f l++((if l.length=0 then []else s)++f x):=by
 cases l with
 | nil=>simp[Ar]
 | cons y l=>simp[Ar]
def mO {α:Type}(s:By)(f:α->By){l:List α}(h:q<l.length):Ar s f (l.take<|q+1)=Ar s f (l.take q)++((if q=0 then []else s)++f l[q]):=by
 rw[PR,DK h];show Ar s f (l.take q++[l[q]])=_;rw[Z69,List.length_take,Nat.min_eq_left<|Nat.le_of_lt h]
def Z9z {α:Type}(s:By)(f:α->By)(l m:List α):(Ar s f l).length<=(Ar s f<|l++m).length:=by
 cases l with
 | nil=>simp[Ar]
 | cons y l=>simp[Ar]
def lZ {α:Type}(s:By)(f:α->By)(l:List α)(q:Nat):(Ar s f<|l.take q).length<=(Ar s f l).length:=by
 have:=Z9z s f (l.take q)<|l.drop q
 rw[List.take_append_drop]at this;exact this
end Go.W
namespace Go.P
def FX:XN 78:=⟨zt,zu⟩
def XJ {α:Type} (T B b:Nat) (s:ByteArray) (h:List α->By) (w:World) (l:List α) (iv:Value) (wr:World):Prop:= ∃ q:Nat,q<=l.length/\iv= .int .i64 q/\Ak T B b (s++ba (h<|l.take q)) wr/\Fr B b w wr
end Go.P
namespace Go.W
def Ydz: ∀ X:Fin 256,bits .and .u8 ((X.val:Nat):Int) 15=((X.val % 16:Nat):Int):=zu
def Yfk {n:Nat}(h:n<256):bits .and .u8 (n:Int) 15=((n % 16:Nat):Int):=Ydz ⟨n,h⟩
def Vv (c:UInt8):b1 c.toNat=ba [c]:=by unfold b1 ba;simp
def ZL (f:UInt8->By) (l:By):By:=l.flatMap f
def Z5f {f:UInt8->By}{l:By}{q:Nat}(h:q<l.length):ZL f (l.take<|q+1)=ZL f (l.take q)++f l[q]:=by
 unfold ZL;rw[PR,DK h,List.flatMap_append];simp
def Yb3 (f:UInt8->By)(l:By)(q:Nat):(ZL f<|l.take q).length<=(l.flatMap f).length:=by
 unfold ZL;have e:l.flatMap f=(l.take q).flatMap f++(l.drop q).flatMap f:=by rw[<- List.flatMap_append,List.take_append_drop]
 rw[e,Bq];omega
end Go.W
namespace Go.P
variable {B b:Nat}{s:ByteArray}{w:World}
def Z02 {c:UInt8}(h:Ak 78 B b s w)(hs:s.size+2<1000000000)(hB:B<=w.heap.size):Calls prog 155 #[.pointer<|Qb b 0,.int .u8 (c.toNat:Int)] w (Df 78 B b (s++ba (Hz c)) w):=by
 have hn:=UInt8.toNat_lt c;have C1:=AA<|Jn FX h.drew (QG<|c.toNat / 16).toNat (UInt8.toNat_lt _) zx hB;have HX: ∀ i (hi:i<16),((⟨#[48,49,50,51,52,53,54,55,56,57,97,98,99,100,101,102]⟩:ByteArray)[i]'hi).toNat=(QG i).toNat:=zu
 have HA:=Yfk hn;have EQ:AC (s++ba (Hz c)=s++b1 (QG<|c.toNat / 16).toNat++b1 (QG<|c.toNat % 16).toNat):=⟨by unfold Hz;rw[Bw,Vv,Vv,<- Dz];rfl⟩;unfold Hz at EQ⊢;generalize c.toNat=n at*;clear h;go_in
 go_wp2
 go_region_with (go_at_call 79;refine C1.out.mono ?_;rintro e w1 ⟨rfl,hb1,Ag⟩)
 have R:=AA<|AF hb1<|(Fr.refl B b w).drew.trans Ag;have C2:=AA<|Jn FX hb1.drew (QG<|n % 16).toNat (UInt8.toNat_lt _) (by rw[Ae,E6];omega)<|AU hB R.out.2.size;clear hb1 Ag C1;go_wp2
 go_region_with (go_at_call 79;refine C2.out.mono ?_;rintro e w2 ⟨rfl,hb2,hw2⟩)
 have R2:=AA<|AF hb2<|R.out.2.drew.trans hw2;clear hb2 hw2 C2;go_wp2
 go_end0
 exact⟨rfl,by rw[EQ.out];exact R2.out.1,R2.out.2⟩
def Znc {K:Nat}(hen:Bj K){first cap:Array Value}{f:UInt8->By}{t:ByteArray}(h:Ak 78 B b s w)(hs:s.size+((bl t).flatMap f).length<1000000000)(ht:t.size<1000000000)
  (HC: ∀ u c s',Ak 78 B b s' u->Fr B b w u->s'.size<=s.size+((bl t).flatMap f).length->s'.size+(f c).length<1000000000->Calls prog K (first.push (.int .u8 (c.toNat:Int))++cap) u (Df 78 B b (s'++ba (f c)) u)):
  Calls prog 154 #[.string t,.func (.func K) first cap] w (Df 78 B b (s++ba ((bl t).flatMap f)) w):=by
 have HH:=AA HC;have H0:=AA h;have Cb: ∀ args w,(callFunc K args).run prog w= .ok (.enter K args) w:=hen;have hbl:=IR t;clear HC hen h;go_in
 go_wp2
 go_loopw [7] (fun iv wr=>XJ 78 B b s (ZL f) w (bl t) iv wr) (fun iv _=>t.size-(intOf iv).toNat)
 case atStart=>exact⟨0,zx,rfl,by simpa[ZL,Xa]using H0.out,Fr.refl _ _ _⟩
 case round=>
  obtain⟨q,hq,rfl,hb,AX⟩:=hrel;have HB:=AA<|AF hb AX;rw[hbl]at hq;by_cases hlt:q<t.size
  ·have Dk:q<(bl t).length:=by rw[hbl];exact hlt
   have ex:(bl t)[q]=t[q]:=rfl;have FD:=AA<|Z5f (f:=f) Dk;have LE:=Yb3 f (bl t)<|q+1;rw[ex]at FD;rw[FD.out,Bq]at LE;have CC:=AA<|HH.out wr t[q] _ hb AX (by rw[Ae,Bh];omega) (by rw[Ae,Bh];omega);clear hb AX ex HH;go_wp2_with fail
   refine CC.out.mono ?_;rintro e w2 ⟨rfl,hb2,hw2⟩;have R:=AA<|AF hb2<|HB.out.2.trans hw2;clear hb2 hw2 CC;go_wp2
   exact⟨⟨q+1,by rw[hbl];omega,by go_num,by rw[FD.out,Dz,<- Bw];exact R.out.1,R.out.2⟩,by simp[intOf];omega⟩
  ·obtain rfl:q=t.size:=zx
   rw[<- hbl,JQ]at hb;have Ce:=AA<|AF hb AX;clear hb AX HB;go_wp2
   go_end0
   exact⟨rfl,Ce.out.1,Ce.out.2⟩
end Go.P
namespace Go.W
variable {c:UInt8}
def Ye1 {k:Nat}{y:Nat×Nat}(hk:I9[k]?=some y)(h0: ∀ j y',j<k->I9[j]?=some y'->y'.2≠c.toNat)(h1:y.2=c.toNat):Em c=[92,UInt8.ofNat y.1]:=by
 have:I9.find? (fun y=>decide (y.2=c.toNat))=some y:=by
  rw[List.find?_eq_some_iff_getElem];refine⟨QJ h1,k,(Gl.1 hk).1,(Gl.1 hk).2,?_⟩;intro j hj;rw[Oi<|h0 j _ hj<|DK _];rfl
 unfold Em;rw[this]
def Ye2 (h0: ∀ j y',j<5->I9[j]?=some y'->y'.2≠c.toNat):Em c=if c.toNat<32 then 92::117::48::48::Hz c else [c]:=by
 have:I9.find? (fun y=>decide (y.2=c.toNat))=none:=by
  rw[List.find?_eq_none];intro m hm;obtain⟨j,hj,rfl⟩:=List.getElem_of_mem hm;rw[Oi<|h0 j _ hj<|DK _];simp
 unfold Em;rw[this]
end Go.W
namespace Go.P
variable {a:Nat->Addr}{B b:Nat}{s:ByteArray}{w:World}
def Ydu (B b:Nat) (s:ByteArray) (c:UInt8) (w:World) (iv:Value) (wr:World):Prop:= ∃ k:Nat,k<=5/\iv= .int .i64 (k:Int)/\Ak 78 B b s wr/\Fr B b w wr/\ ∀ j y',j<k->I9[j]?=some y'->y'.2≠c.toNat
def Z9s {c:UInt8}(Z:Aa a w)(h:Ak 78 B b s w)(hs:s.size+6<1000000000)(hB:B<=w.heap.size):Calls prog 199 #[.pointer<|Qb b 0,.int .u8 (c.toNat:Int)] w (Df 78 B b (s++ba (Em c)) w):=by
 have m0:=Z.esc 0 _ rfl;have m1:=Z.esc 1 _ rfl;have m2:=Z.esc 2 _ rfl;have m3:=Z.esc 3 _ rfl;have m4:=Z.esc 4 _ rfl;have m5:=Z.esc 5 _ rfl;have m6:=Z.esc 6 _ rfl;have m7:=Z.esc 7 _ rfl;have m8:=Z.esc 8 _ rfl;have m9:=Z.esc 9 _ rfl;have H0:=AA h;have hc:=UInt8.toNat_lt c;clear Z h;go_in
 go_wp2_with fail
 clear m0 m1 m2 m3 m4 m5 m6 m7 m8 m9;go_loopw [7] (fun iv wr=>Ydu B b s c w iv wr) (fun iv _=>5-OM iv)
 case atStart=>exact⟨0,zx,rfl,H0.out,Fr.refl _ _ _,fun j _ hj=>absurd hj zx⟩
 case round=>
  obtain⟨k,hk,rfl,hR,hK,hall⟩:=hrel;have HR:=AA<|AF hR hK;have A:=AA hall;have hsz:=AU hB hK.size;clear hall hR hK;by_cases hlt:k<5
  ·obtain⟨y,hy,y0,y1,y2,ik⟩:=Z0i k hlt;have g:(k:Int)<5:=zx
   have l0:(wr.alloc<|.cells #[.int .u8 (y.1:Int),.int .u8 (y.2:Int)] 295).cell? ⟨wr.heap.size,0,none⟩=some (.int .u8 (y.1:Int)):=(AJ.new wr _ _).cell 0;have l1:(wr.alloc<|.cells #[.int .u8 (y.1:Int),.int .u8 (y.2:Int)] 295).cell? ⟨wr.heap.size,1,none⟩=some (.int .u8 (y.2:Int)):=(AJ.new wr _ _).cell 1;have M:=AA<|AJ.new wr #[.int .u8 (y.1:Int),.int .u8 (y.2:Int)] 295;have HA:=AA<|AF (HR.out.1.alloc<|.cells #[.int .u8 (y.1:Int),.int .u8 (y.2:Int)] 295)<|HR.out.2.alloc hsz<|.cells #[.int .u8 (y.1:Int),.int .u8 (y.2:Int)] 295;have hbr:b<wr.heap.size:=by obtain⟨_,_,_,q,_,_⟩:=HR.out.1.form;exact q.lt
   have NX:=AA fun(h1:y.2≠c.toNat)=>(fun j y' hj YB=>by
    by_cases hjk:j=k
    ·subst hjk;rw[hy]at YB;cases YB;exact h1
    ·exact A.out j y' zx YB: ∀ j y',j<k+1->I9[j]?=some y'->y'.2≠c.toNat)
   have E:=AA fun(h1:y.2=c.toNat)=>Ye1 hy A.out h1;clear A hy;obtain⟨l,m⟩:=y;simp only at y0 y1 y2 ik l0 l1 M HA NX E;by_cases he:m=c.toNat
   ·have EQ:AC (s++ba (Em c)=s++b1 92++b1 l):=⟨by rw[E.out he,Bw];congr 1⟩;have g2:((m:Int)==(c.toNat:Int))=true:=by rw[DJ];omega
    have C1:=AA<|Jn FX HA.out.1 92 zx zx<|AU hsz zw;clear E NX he;go_wp2_with fail
    refine C1.out.mono ?_;rintro e w1 ⟨rfl,hb1,Ag⟩;have F1:=AA<|AF hb1<|HA.out.2.trans Ag;have hT:=Ag.blk M.out zx zu;have l2:w1.cell? ⟨wr.heap.size,0,none⟩=some (.int .u8 (l:Int)):=hT.cell 0;have C2:=AA<|Jn FX hb1.drew l zx (by rw[Ae,E6];omega)<|AU hB F1.out.2.size;clear hb1 Ag hT C1 l0 l1;go_wp2
    go_region_with (go_at_call 79;refine C2.out.mono ?_;rintro e w2 ⟨rfl,hb2,hw2⟩)
    have F2:=AA<|AF hb2<|F1.out.2.drew.trans hw2;clear hb2 hw2 C2;go_wp2
    refine CQ (by simp[results,results199,go_sem];try rfl) rfl ?_;exact⟨rfl,by rw[EQ.out];exact F2.out.1,F2.out.2⟩
   ·have g2:((m:Int)==(c.toNat:Int))=false:=by rw[BK];omega
    have NN:=AA<|NX.out he;clear E NX he;go_wp2
    exact⟨⟨k+1,zx,zw,HA.out.1,HA.out.2,NN.out⟩,by simp[OM];omega⟩
  ·obtain rfl:k=5:=zx
   have Y:=AA<|Ye2 A.out;clear A;by_cases Ea:c.toNat<32
   ·have EQ:AC (s++ba (Em c)=s++ba [92,117,48,48]++ba (Hz c)):=⟨by rw[Y.out,if_pos Ea,Bw,<- Dz];rfl⟩;have C1:=AA<|KT FX HR.out.1 (ba [92,117,48,48]) (by rw[Bh];simp;omega) hsz;have C2:=AA fun u (hu:Ak 78 B b (s++ba [92,117,48,48]) u) (hB:B<=u.heap.size)=>Z02 (c:=c) hu (by rw[Ae,Bh];simp;omega) hB;have hi:(c.toNat:Int)<32:=zx
    clear Y Ea;go_wp2_with fail
    refine C1.out.mono ?_;rintro e w1 ⟨rfl,hb1,Ag⟩;have F1:=AA<|AF hb1<|HR.out.2.trans Ag;clear hb1 Ag C1;go_wp2_with fail
    refine(C2.out _ F1.out.1<|AU hB F1.out.2.size).mono ?_;rintro e w2 ⟨rfl,hb2,hw2⟩;have F2:=AA<|AF hb2<|F1.out.2.trans hw2;clear hb2 hw2 C2;go_wp2
    go_end0
    exact⟨rfl,by rw[EQ.out];exact F2.out.1,F2.out.2⟩
   ·have EQ:AC (s++ba (Em c)=s++b1 c.toNat):=⟨by rw[Y.out,if_neg Ea,Vv]⟩;have C1:=AA<|Jn FX HR.out.1 c.toNat hc zx hsz;have hi: ¬ (c.toNat:Int)<32:=zx
    clear Y Ea;go_wp2_with fail
    refine C1.out.mono ?_;rintro e w1 ⟨rfl,hb1,Ag⟩;have F1:=AA<|AF hb1<|HR.out.2.trans Ag;clear hb1 Ag C1;go_wp2
    go_end0
    exact⟨rfl,by rw[EQ.out];exact F1.out.1,F1.out.2⟩
def Zyb:Bj 199:=DL func199 zt rfl
def Zya:Bj 155:=DL func155 zt rfl
def XZ {u:World}(Z:Aa a w)(hg:23<=B)(h:Fr B b w u):Aa a u:=by
 obtain⟨w0,h0,h1⟩:=Z;exact⟨w0,h0,fun g o hl=>⟨Ba (h1 g o hl).1 h.size,(h.below.cell (p:=⟨g,o,none⟩)<|Ba hl hg).trans (h1 g o hl).2⟩⟩
def Ycr (c:UInt8):(Em c).length<=6:=by
 unfold Em;split
 ·simp
 ·split
  ·show 6<=6;omega
  ·simp
def Zy6 {t:ByteArray}(Z:Aa a w)(hg:23<=B)(h:Ak 78 B b s w)(ht:t.size<=64)(hs:s.size+600<1000000000)(hB:B<=w.heap.size):Calls prog 153 #[.pointer<|Qb b 0,.string t] w (Df 78 B b (s++ba (34::((bl t).flatMap Em++[34]))) w):=by
 have hq:((bl t).flatMap Em).length<=384:=by
  have: ∀ l:By,(l.flatMap Em).length<=6*l.length:=fun l=>by
   induction l with
   | nil=>simp
   | cons c l ih=>
    rw[List.flatMap_cons,Bq,BO]
    have:=Ycr c
    omega
  have:=this<|bl t
  rw[IR]at this;omega
 have EQ:AC (s++ba (34::((bl t).flatMap Em++[34]))=s++b1 34++ba ((bl t).flatMap Em)++b1 34):=⟨by
  rw[show b1 34=ba [34]from Vv 34,Bw,Bw,<- Dz,<- Dz]
  rfl⟩
 have C1:=AA<|Jn FX h 34 zx zx hB;have C2:=AA (fun u (hu:Ak 78 B b (s++b1 34) u) (hf:Fr B b w u)=>Znc Zyb (first:=#[.pointer<|Qb b 0]) (cap:=#[]) (f:=Em) (t:=t) hu (by rw[Ae,E6];omega) zx fun v c s' h1 h2 h3 _=>Z9s (c:=c) (XZ Z hg<|hf.trans h2) h1 (by rw[Ae,E6]at h3;omega) (AU hB (hf.trans h2).size));have C3:=AA fun u (hu:Ak 78 B b (s++b1 34++ba ((bl t).flatMap Em)) u) (hf:Fr B b w u)=>Jn FX hu 34 zx (by rw[Ae,Ae,E6,Bh];omega) (AU hB hf.size);have Dw:=G6;clear Z h;go_in
 go_wp2_with fail
 refine C1.out.mono ?_;rintro e w1 ⟨rfl,hb1,Ag⟩;have F1:=AA<|AF hb1 Ag;clear hb1 Ag C1;go_wp2_with fail
 refine(C2.out _ F1.out.1 F1.out.2).mono ?_;rintro e w2 ⟨rfl,hb2,hw2⟩;have F2:=AA<|AF hb2<|F1.out.2.trans hw2;clear hb2 hw2 C2;go_wp2_with fail
 refine(C3.out _ F2.out.1 F2.out.2).mono ?_;rintro e w3 ⟨rfl,hb3,hw3⟩;have F3:=AA<|AF hb3<|F2.out.2.trans hw3;clear hb3 hw3 C3;go_wp2
 go_end0
 exact⟨rfl,by rw[EQ.out];exact F3.out.1,F3.out.2⟩
end Go.P
namespace Go.Proofs
open Go.RowKit Go.Shelf Go.Lib
def Tryz.laysFmt_ren:Go.Shelf.Ren:=⟨fun | 173=>152 | 246=>198 | 283=>233 | 284=>234 | 285=>235 | 286=>236 | 129=>263 | 317=>262 | 318=>264 | 319=>265 | 320=>266 | 337=>288 | 338=>284 | n=>n,fun | 2=>2 | 3=>3 | 9=>9 | 4=>4 | 171=>346 | 0=>0 | 53=>228 | 37=>74 | 5=>5 | 173=>349 | 212=>387 | 51=>226 | 20=>20 | 213=>388 | 46=>276 | 232=>110 | 233=>166 | n=>n,fun | 17=>18 | 18=>22 | 19=>21 | n=>n⟩
def Tryz.laysFmt:Go.Proofs.LaysM.n173 prog Tryz.laysFmt_ren where
 mixed:=zt
 f129:=func263.trans (congrArg some zt)
 f173:=func152.trans (congrArg some zt)
 f246:=func198.trans (congrArg some zt)
 f283:=func233.trans (congrArg some zt)
 f284:=func234.trans (congrArg some zt)
 f285:=func235.trans (congrArg some zt)
 f286:=func236.trans (congrArg some zt)
 f317:=func262.trans (congrArg some zt)
 f318:=func264.trans (congrArg some zt)
 f319:=func265.trans (congrArg some zt)
 f320:=func266.trans (congrArg some zt)
 f337:=func288.trans (congrArg some zt)
 f338:=func284.trans (congrArg some zt)
 t0:=underlying0
 a0:=isAgg0
 z0:=sizeOf0
 v0:=zeroValue0
 t2:=underlying2
 a2:=isAgg2
 z2:=sizeOf2
 v2:=zeroValue2
 t3:=underlying3
 a3:=isAgg3
 z3:=sizeOf3
 v3:=zeroValue3
 t4:=underlying4
 a4:=isAgg4
 z4:=sizeOf4
 v4:=zeroValue4
 t5:=underlying5
 a5:=isAgg5
 z5:=sizeOf5
 v5:=zeroValue5
 t9:=underlying9
 a9:=isAgg9
 z9:=sizeOf9
 v9:=zeroValue9
 t20:=underlying20
 a20:=isAgg20
 z20:=sizeOf20
 v20:=zeroValue20
 t37:=underlying74
 a37:=isAgg74
 z37:=sizeOf74
 v37:=zeroValue74
 t46:=underlying276
 a46:=isAgg276
 z46:=sizeOf276
 v46:=zeroValue276
 t51:=underlying226
 a51:=isAgg226
 z51:=sizeOf226
 v51:=zeroValue226
 t53:=underlying228
 a53:=isAgg228
 z53:=sizeOf228
 v53:=zeroValue228
 t171:=underlying346
 a171:=isAgg346
 z171:=sizeOf346
 v171:=zeroValue346
 t173:=underlying349
 a173:=isAgg349
 z173:=sizeOf349
 v173:=zeroValue349
 t212:=underlying387
 a212:=isAgg387
 z212:=sizeOf387
 v212:=zeroValue387
 t213:=underlying388
 a213:=isAgg388
 z213:=sizeOf388
 t232:=underlying110
 a232:=isAgg110
 z232:=sizeOf110
 v232:=zeroValue110
 t233:=underlying166
 a233:=isAgg166
 z233:=sizeOf166
 v233:=zeroValue166
 g17:=zt
 g18:=zt
 g19:=zt
 i0:=zt
 i2:=zt
 i3:=zt
 i4:=zt
 i5:=zt
 i9:=zt
 i20:=zt
 i37:=zt
 i46:=zt
 i51:=zt
 i53:=zt
 i171:=zt
 i173:=zt
 i212:=zt
 i232:=zt
 i233:=zt
 m17:=zt
 m18:=zt
 m19:=zt
def Tryz.laysFB_ren:Go.Shelf.Ren:=⟨fun | 121=>156 | 214=>200 | n=>n,fun | 4=>4 | 9=>9 | n=>n,fun | n=>n⟩
def Tryz.laysFB:Go.Proofs.Lays.n121 prog Tryz.laysFB_ren where
 mixed:=zt
 f121:=func156.trans (congrArg some zt)
 f214:=func200.trans (congrArg some zt)
 t4:=underlying4
 a4:=isAgg4
 z4:=sizeOf4
 v4:=zeroValue4
 t9:=underlying9
 a9:=isAgg9
 z9:=sizeOf9
 v9:=zeroValue9
end Go.Proofs
namespace Go.P
open Go.RowKit Go.Shelf Go.Lib Go.W
variable {w:World}
def Oa (w:World):Prop:=Lib.TabIs prog w "internal/strconv.uint64pow10" .u64 Lib.pow10Tab
def Z9r:prog.globalNamed "internal/strconv.uint64pow10" =some 18:=zt
def Oa.fr {B:Nat}{u:World}(h:Oa w)(hg:23<=B)(hb:Below B w u):Oa u:=by
 unfold Oa Lib.TabIs World.var? at h⊢;rw[Z9r]at h⊢;simp only[Option.bind_some]at h⊢;rw[hb.block _<|Ba zu hg];exact h
def Z2g (w:World)(k:Nat)(os:Array Obj):Bl w (Sort.grow (w.drewN k) os):=by
 refine⟨rfl,rfl,rfl,?_,fun j hj=>?_⟩
 ·simp[Sort.grow]
 ·simp only[Sort.grow];rw[Ry (by simpa using hj)];rfl
def Zr2 {n:Int}(hn:Ey n)(hp:Oa w):Calls prog 152 #[.int .i64 n,.int .i64 10] w fun e w'=>e= .returned (.string<|ba<|Lib.itoa n)/\Bl w w':=
 (Any.strconv_FormatInt_10 Tryz.laysFmt n hn.1 hn.2 w hp).mono fun _ _ ⟨h1,k,os,h2⟩=>⟨h1,h2▸Z2g w k os⟩
def Zye (b:Bool)(w:World):Calls prog 156 #[.bool b] w fun e w'=>e= .returned (.string<|ba (if b then H7 else PN))/\w'=w:=
 (Any.strconv_FormatBool Tryz.laysFB b w).mono fun _ _ ⟨h1,h2⟩=>⟨by rw[h1];cases b <;> rfl,h2⟩
end Go.P
namespace Go.P
open Go.ChangeShapes Go.WideShapes Go.ChangeAt Go.RowKit Go.W Go.Lib
variable {W:World}{k:IntKind}{l:List Int}
def rt:(prog.cutTypes.find? (·.1== "internal/reflectlite.rtype")).map (·.2)=some 201:=zt
def Yeu:((List.range 447).filter fun t=>prog.rowNamed t [101,114,114,111,114])=[56]:=zt
def Z7t:prog.types.size=447:=zt
def Yb0:prog.globalNamed "errors.errorType" =some 10:=zt
def Yd5:prog.cellsOf 413=1:=zt
def uC:prog.cellsOf 9=1:=zt
def Ygg (u:TypeId)(hu:prog.typeName? 3 u=some "*errors.errorString"):u=411:=
 typeName_ptr_named (nm:= "errors.errorString") zt zt zu u hu
def laidMet.one {P:Program}{l:List (String×DataW Unit)}{x:String×DataW Unit}(h:laidMet P l W)(hx:x∈l):laidMet P [x] W:=by
 induction l with
 | nil=>cases hx
 | cons y r ih=>
  rcases Be.1 hx with rfl | Mc
  ·obtain⟨ps,hv,zZ,Pg⟩:=h;obtain⟨n,d⟩:=x;obtain⟨g,t,cs,fuel,p,q,h1,h2,h3,h4,_,rfl⟩:=hv;exact⟨MemPlace.row ⟨g,0,none⟩ cs.size++p++[],⟨g,t,cs,fuel,p,[],h1,h2,h3,h4,rfl,rfl⟩,by simpa using List.Nodup.sublist (List.sublist_append_left _ _) zZ,fun b off hm=>Pg b off (by rw[List.append_nil]at hm;exact UF _ hm)⟩
  ·exact ih h.tail Mc
def Rn {n:String}{text:List UInt8}{g:Nat}(h:laidMet prog [(n,.iface "*errors.errorString" (.ptr<|.agg [.lit<|.string text]))] W)
  (hg:prog.globalNamed n=some g) (ht:(prog.globals[g]?).map (·.type)=some 56):
  ∃ (a:Addr) (s:ByteArray),W.cell? ⟨g,0,none⟩=some (.iface 411<|.pointer<|some a)/\W.cell? a=some (.string s)/\s.data.toList=text/\ ∃ c t,W.heap[a.block]?=some (.cells c t (0,0)):=by
 obtain⟨ps,⟨g0,t0,cs0,f0,p0,q0,hg0,IW,hv0,hd0,_,e0⟩,_,Pg⟩:=h;obtain rfl:=Ny<|hg.symm.trans hg0;obtain rfl:=Ny<|ht.symm.trans IW;subst e0;obtain⟨l0⟩:=cs0;have ok0: ∀ u v,l0=[.iface u v]->Value.okWide prog W .any 0 u v:=fun u v e=>by
  subst e;exact(Pg g 0 (by simp[MemPlace.row])).2 u v (by simpa using World.var?_cell hg0 hv0 0)
 obtain⟨a0,s0,rfl,hc0,hs0,_,rfl⟩:=errorString_of_trod underlying56 Ygg underlying411 underlying413 rfl rfl underlying9 Yd5 uC hd0 ok0;obtain⟨c0,t0,hb0⟩:=(Pg a0.block a0.off (by simp[MemPlace.row])).1;exact⟨a0,s0,by simpa using World.var?_cell hg0 hv0 0,hc0,hs0,c0,t0,hb0⟩
section
variable {P:Program} {W:World} {nm:String} {g:Nat} {t e n:Nat}
def Z7j {l:List ByteArray}(h:VarReads P W nm (.agg (l.map fun s=> .lit (.string s.data.toList))))(hg:P.globalNamed nm=some g)(hy:(P.globals[g]?).map (·.type)=some t)(ht:P.underlying t=some (.array n e))(he:P.underlying e=some .string)(hc:P.cellsOf e=1)(hn:l.length=n): ∀ (i:Nat) (s:ByteArray),l[i]?=some s->W.cell? ⟨g,i,none⟩=some (.string s):=by
 intro i s hi;obtain⟨g',t',cs,fuel,p,h1,h2,h3,h4⟩:=h;obtain rfl:=Ny<|hg.symm.trans h1;obtain rfl:=Ny<|hy.symm.trans h2;obtain⟨iI,d,q,hd,hr⟩:=array_elem ht h4 i (by rw[<- hn];exact(Gl.1 hi).1);rw[hc]at hr;obtain⟨s',e1,e2,_⟩:=DataW.trod_string he hr;rw[Jq,hi]at hd;have e3:s=s':=by
  have:=(Ny hd).trans (Prod.mk.inj e2).1
  injection this with this;injection this with this;cases s;cases s';simpa using this
 subst e3
 have:=World.var?_cell hg h3 i
 rw[this,<- UG];have e4:=congrArg (·[0]?) e1;simpa[List.getElem?_take,List.getElem?_drop]using e4
def ll (h:VarReads P W nm (tabData k l))(hg:P.globalNamed nm=some g)(hy:(P.globals[g]?).map (·.type)=some t)(ht:P.underlying t=some (.array n e))(he:P.underlying e=some (.int k))(hc:P.cellsOf e=1)(qy:P.cellsOf t=n): ∀ (i:Nat) (z:Int),l[i]?=some z->W.cell? ⟨g,i,none⟩=some (.int k z):=by
 intro i z hi;obtain⟨g',t',cs,fuel,p,h1,h2,h3,h4⟩:=h;obtain rfl:=Ny<|hg.symm.trans h1;obtain rfl:=Ny<|hy.symm.trans h2;have hcs:=cells_of_tab ht he hc qy h4;rw[World.var?_cell hg h3 i,<- UG,hcs,Jq,hi];rfl
def Ye6 (h:VarReads P W nm (tabData k l))(hg:P.globalNamed nm=some g)(hy:(P.globals[g]?).map (·.type)=some t)(ht:P.underlying t=some (.array n e))(he:P.underlying e=some (.int k))(hc:P.cellsOf e=1)(qy:P.cellsOf t=n):TabIs P W nm k l:=by
 obtain⟨g',t',cs,fuel,p,h1,h2,h3,h4⟩:=h;obtain rfl:=Ny<|hg.symm.trans h1;obtain rfl:=Ny<|hy.symm.trans h2;have hcs:=cells_of_tab ht he hc qy h4;unfold TabIs;rw[h3,<- hcs]
def Z9k {fs:Array Field}{l:List (Int×Int)}(h:VarReads P W nm (.agg (l.map fun p=> .agg ([p.1,p.2].map fun z=> .lit (.int k z)))))(hg:P.globalNamed nm=some g)(hy:(P.globals[g]?).map (·.type)=some t)(ht:P.underlying t=some (.array n e))(he:P.underlying e=some (.struct fs))(hf: ∀ (i:Nat) (f:Field),fs[i]?=some f->P.underlying f.type=some (.int k)/\f.offset=i/\P.cellsOf f.type=1)(h2:fs.size=2)(hc:P.cellsOf e=2)(hn:l.length=n): ∀ (i:Nat) (p:Int×Int),l[i]?=some p->W.cell? ⟨g,2*i,none⟩=some (.int k p.1)/\W.cell? ⟨g,2*i+1,none⟩=some (.int k p.2):=by
 intro i p hi;obtain⟨g',t',cs,fuel,q,h1,h2',h3,h4⟩:=h;obtain rfl:=Ny<|hg.symm.trans h1;obtain rfl:=Ny<|hy.symm.trans h2';obtain⟨iI,d,q,hd,hr⟩:=array_elem ht h4 i (by rw[<- hn];exact(Gl.1 hi).1);rw[Jq,hi]at hd;obtain rfl:=Ny hd;rw[hc]at hr;have hcs:=ints_of_struct he hf (by rw[hc,h2]) hr;have e0:=congrArg (·[0]?) hcs;have e1:=congrArg (·[1]?) hcs;simp only[List.getElem?_take,List.getElem?_drop]at e0 e1;constructor
 ·rw[World.var?_cell hg h3<|2*i,<- UG];simpa[Nat.mul_comm]using e0
 ·rw[World.var?_cell hg h3<|2*i+1,<- UG];simpa[Nat.mul_comm]using e1
end
def Yem:DataW Unit->List Int
 | .agg ds=>ds.map fun d=>match d with | .lit (.int _ z)=>z | _=>0
 | _=>[]
def u8x:U8Extra prog Tryz.laysValid_ren:=⟨zt,zt,zt,zt,zt,zt,zt⟩
def Yeb:Rows.laid_unicode_utf8_first=firstData:=zt
def Yga:(Rows.laid_unicode_utf8_acceptRanges:DataW Unit)=acceptData:=zt
def Ygc:(Rows.laid_warrant_warrant_guardMarks:DataW Unit)= .agg (JO.map fun s=> .lit (.string s.data.toList)):=zt
def Yec:(Rows.laid_warrant_warrant_marks:DataW Unit)= .agg (PM.map fun s=> .lit (.string s.data.toList)):=zt
def Ygf:List (Int×Int):=[(34,34),(92,92),(110,10),(116,9),(114,13)]
def Ygb:(Rows.laid_warrant_warrant_escapes:DataW Unit)= .agg (Ygf.map fun p=> .agg ([p.1,p.2].map fun z=> .lit (.int .u8 z))):=zt
def Yed:(Rows.laid_warrant_sums_start:DataW Unit)=tabData .u32 (oH.map Int.ofNat):=zt
def Yee:(Rows.laid_warrant_sums_steps:DataW Unit)=tabData .u32 (XQ.map Int.ofNat):=zt
def Ygd:(Rows.laid_internal_strconv_uint64pow10:DataW Unit)=tabData .u64 pow10Tab:=zt
def Ybq:(Rows.laid_math_bits_deBruijn32tab:DataW Unit)=tabData .u8 (Yem Rows.laid_math_bits_deBruijn32tab):=zt
def Yfm:(Rows.laid_math_bits_deBruijn64tab:DataW Unit)=tabData .u8 (Yem Rows.laid_math_bits_deBruijn64tab):=zt
def Zu5 (h:laidMetH prog Rows.textsRow.laid W): ∃ a,Yfw a W/\OQ a W/\23<=W.heap.size/\Oa W:=by
 have h':laidMet prog [("math/bits.deBruijn32tab",Rows.laid_math_bits_deBruijn32tab),("math/bits.deBruijn64tab",Rows.laid_math_bits_deBruijn64tab),("internal/strconv.uint64pow10",Rows.laid_internal_strconv_uint64pow10),("unicode/utf8.acceptRanges",Rows.laid_unicode_utf8_acceptRanges),("strconv.ErrRange",Rows.laid_strconv_ErrRange),("strconv.ErrSyntax",Rows.laid_strconv_ErrSyntax),("warrant/sums.start",Rows.laid_warrant_sums_start),("warrant/sums.steps",Rows.laid_warrant_sums_steps),("warrant/warrant.guardMarks",Rows.laid_warrant_warrant_guardMarks),("warrant/warrant.marks",Rows.laid_warrant_warrant_marks),("warrant/warrant.escapes",Rows.laid_warrant_warrant_escapes),("warrant/warrant.ErrWord",Rows.laid_warrant_warrant_ErrWord),("warrant/warrant.ErrForm",Rows.laid_warrant_warrant_ErrForm),("warrant/warrant.ErrDeep",Rows.laid_warrant_warrant_ErrDeep),("warrant/warrant.ErrLimit",Rows.laid_warrant_warrant_ErrLimit),("warrant/warrant.ErrFree",Rows.laid_warrant_warrant_ErrFree),("warrant/warrant.ErrShort",Rows.laid_warrant_warrant_ErrShort),("warrant/warrant.ErrBytes",Rows.laid_warrant_warrant_ErrBytes),("warrant/warrant.ErrKey",Rows.laid_warrant_warrant_ErrKey),("warrant/warrant.ErrSealed",Rows.laid_warrant_warrant_ErrSealed),("warrant/warrant.ErrTag",Rows.laid_warrant_warrant_ErrTag),("unicode/utf8.first",Rows.laid_unicode_utf8_first)] W/\handlesMet prog [("errors.errorType",Rows.laid_errors_errorType)] W:=h;obtain⟨hl,hh⟩:=h';obtain⟨name,u,ty,e1,e2,e3,e4,e5⟩:=hh _<|MX.2 rfl;have en:name=[101,114,114,111,114]:=(Ny e1).symm;subst en;obtain rfl:=Ny<|rt.symm.trans e2;have hm:ty∈(List.range 447).filter fun t=>prog.rowNamed t [101,114,114,111,114]:=List.mem_filter.2 ⟨List.mem_range.2 (by rw[<- Z7t];exact e3),e4⟩;rw[Yeu]at hm;obtain rfl:=MX.1 hm;have qG:typeHandle prog 56= .pointer (Qb 23 56):=zt
 rw[qG]at e5;have het:W.cell? ⟨10,0,none⟩=some (.iface 201<|.agg #[.pointer<|Qb 23 56]):=by simpa using World.var?_cell Yb0 e5 0
 obtain⟨a0,s0,e0,u0,x0,r0⟩:=Rn (laidMet.one hl (x:=("warrant/warrant.ErrWord",Rows.laid_warrant_warrant_ErrWord)) (by repeat (first | exact List.Mem.head _ | apply List.Mem.tail))) zt zt;obtain⟨a1,s1,e1,u1,x1,r1⟩:=Rn (laidMet.one hl (x:=("warrant/warrant.ErrForm",Rows.laid_warrant_warrant_ErrForm)) (by repeat (first | exact List.Mem.head _ | apply List.Mem.tail))) zt zt;obtain⟨a2,s2,e2,u2,x2,r2⟩:=Rn (laidMet.one hl (x:=("warrant/warrant.ErrDeep",Rows.laid_warrant_warrant_ErrDeep)) (by repeat (first | exact List.Mem.head _ | apply List.Mem.tail))) zt zt;obtain⟨a3,s3,e3,u3,x3,r3⟩:=Rn (laidMet.one hl (x:=("warrant/warrant.ErrLimit",Rows.laid_warrant_warrant_ErrLimit)) (by repeat (first | exact List.Mem.head _ | apply List.Mem.tail))) zt zt;obtain⟨a4,s4,e4,u4,x4,r4⟩:=Rn (laidMet.one hl (x:=("warrant/warrant.ErrFree",Rows.laid_warrant_warrant_ErrFree)) (by repeat (first | exact List.Mem.head _ | apply List.Mem.tail))) zt zt;obtain⟨a5,s5,e5,u5,x5,r5⟩:=Rn (laidMet.one hl (x:=("warrant/warrant.ErrShort",Rows.laid_warrant_warrant_ErrShort)) (by repeat (first | exact List.Mem.head _ | apply List.Mem.tail))) zt zt;obtain⟨a6,s6,e6,u6,x6,r6⟩:=Rn (laidMet.one hl (x:=("warrant/warrant.ErrBytes",Rows.laid_warrant_warrant_ErrBytes)) (by repeat (first | exact List.Mem.head _ | apply List.Mem.tail))) zt zt;obtain⟨a7,s7,e7,u7,x7,r7⟩:=Rn (laidMet.one hl (x:=("warrant/warrant.ErrKey",Rows.laid_warrant_warrant_ErrKey)) (by repeat (first | exact List.Mem.head _ | apply List.Mem.tail))) zt zt;obtain⟨a8,s8,e8,u8,x8,r8⟩:=Rn (laidMet.one hl (x:=("warrant/warrant.ErrSealed",Rows.laid_warrant_warrant_ErrSealed)) (by repeat (first | exact List.Mem.head _ | apply List.Mem.tail))) zt zt;obtain⟨a9,s9,e9,u9,x9,r9⟩:=Rn (laidMet.one hl (x:=("warrant/warrant.ErrTag",Rows.laid_warrant_warrant_ErrTag)) (by repeat (first | exact List.Mem.head _ | apply List.Mem.tail))) zt zt;obtain⟨_,_,yn,_⟩:=Rn (laidMet.one hl (x:=("strconv.ErrSyntax",Rows.laid_strconv_ErrSyntax)) (by repeat (first | exact List.Mem.head _ | apply List.Mem.tail))) zt zt;obtain⟨_,_,rg,_⟩:=Rn (laidMet.one hl (x:=("strconv.ErrRange",Rows.laid_strconv_ErrRange)) (by repeat (first | exact List.Mem.head _ | apply List.Mem.tail))) zt zt;have hu:=utf8Tabs_of_readsT (U8Types.of196 Tryz.laysValid) u8x (Yeb▸(Go.Lib.laidMet.reads hl (n:= "unicode/utf8.first") (d:=Rows.laid_unicode_utf8_first) (by repeat (first | exact List.Mem.head _ | apply List.Mem.tail))))<|Yga▸(Go.Lib.laidMet.reads hl (n:= "unicode/utf8.acceptRanges") (d:=Rows.laid_unicode_utf8_acceptRanges) (by repeat (first | exact List.Mem.head _ | apply List.Mem.tail)));have ho:=Z7j (t:=293) (Ygc▸(Go.Lib.laidMet.reads hl (n:= "warrant/warrant.guardMarks") (d:=Rows.laid_warrant_warrant_guardMarks) (by repeat (first | exact List.Mem.head _ | apply List.Mem.tail)))) (g:=13) zt zt underlying293 underlying9 uC rfl;have hk:=Z7j (t:=269) (Yec▸(Go.Lib.laidMet.reads hl (n:= "warrant/warrant.marks") (d:=Rows.laid_warrant_warrant_marks) (by repeat (first | exact List.Mem.head _ | apply List.Mem.tail)))) (g:=12) zt zt underlying269 underlying9 uC rfl;have hs:=ll (t:=227) (Yed▸(Go.Lib.laidMet.reads hl (n:= "warrant/sums.start") (d:=Rows.laid_warrant_sums_start) (by repeat (first | exact List.Mem.head _ | apply List.Mem.tail)))) (g:=11) zt zt underlying227 underlying226 zt zt;have ht:=ll (t:=304) (Yee▸(Go.Lib.laidMet.reads hl (n:= "warrant/sums.steps") (d:=Rows.laid_warrant_sums_steps) (by repeat (first | exact List.Mem.head _ | apply List.Mem.tail)))) (g:=15) zt zt underlying304 underlying226 zt zt;have hb:=ll (t:=166) (Yfm▸(Go.Lib.laidMet.reads hl (n:= "math/bits.deBruijn64tab") (d:=Rows.laid_math_bits_deBruijn64tab) (by repeat (first | exact List.Mem.head _ | apply List.Mem.tail)))) (g:=21) zt zt underlying166 underlying5 zt zt;have hw:=Ll<|ll (t:=110) (Ybq▸(Go.Lib.laidMet.reads hl (n:= "math/bits.deBruijn32tab") (d:=Rows.laid_math_bits_deBruijn32tab) (by repeat (first | exact List.Mem.head _ | apply List.Mem.tail)))) (g:=22) zt zt underlying110 underlying5 zt zt 0 0 rfl;have hp:=Ye6 (t:=387) (Ygd▸(Go.Lib.laidMet.reads hl (n:= "internal/strconv.uint64pow10") (d:=Rows.laid_internal_strconv_uint64pow10) (by repeat (first | exact List.Mem.head _ | apply List.Mem.tail)))) (g:=18) zt zt underlying387 underlying228 zt zt;have hx:=Z9k (t:=296) (Ygb▸(Go.Lib.laidMet.reads hl (n:= "warrant/warrant.escapes") (d:=Rows.laid_warrant_warrant_escapes) (by repeat (first | exact List.Mem.head _ | apply List.Mem.tail)))) (g:=14) zt zt underlying296 underlying295 (fun j f hj=>by
  match j,hj with
  | 0,hj=>cases hj;exact⟨underlying5,rfl,zt⟩
  | 1,hj=>cases hj;exact⟨underlying5,rfl,zt⟩
  | j+2,hj=>simp at hj) rfl zt rfl
 have ne: ∀ (x y:Addr) (s s':ByteArray) (l l':List UInt8),W.cell? x=some (.string s)->s.data.toList=l->W.cell? y=some (.string s')->s'.data.toList=l'->decide (l=l')=false->x≠y:=fun x y s s' l l' h1 h2 h3 h4 h5 hxy=>by
  subst hxy;rw[h1]at h3;cases h3;exact absurd (h2.symm.trans h4)<|of_decide_eq_false h5
 refine⟨fun k=>match k with | 0=>a0 | 1=>a1 | 2=>a2 | 3=>a3 | 4=>a4 | 5=>a5 | 6=>a6 | 7=>a7 | 8=>a8 | _=>a9,⟨?_,?_,?_,?_,?_,?_,?_,?_,?_,?_,hu,⟨_,_,yn⟩,⟨_,_,rg⟩,ho,hk,?_,fun i c hc=>hs i c (by rw[Jq,hc];rfl),fun i c hc=>ht i c (by rw[Jq,hc];rfl),hb 0 0 rfl,hb 1 1 rfl,hb 3 2 rfl⟩,⟨?_,?_,het⟩,hw,hp⟩
 ·rw[DC _ zu];exact e0
 ·rw[DC _ zu];exact e1
 ·rw[DC _ zu];exact e2
 ·rw[DC _ zu];exact e3
 ·rw[DC _ zu];exact e4
 ·rw[DC _ zu];exact e5
 ·rw[DC _ zu];exact e6
 ·rw[DC _ zu];exact e7
 ·rw[DC _ zu];exact e8
 ·rw[DC _ zu];exact e9
 ·intro i c hc;match i,hc with
  | 0,hc=>cases hc;exact(hx 0 _ rfl).1
  | 1,hc=>cases hc;exact(hx 0 _ rfl).2
  | 2,hc=>cases hc;exact(hx 1 _ rfl).1
  | 3,hc=>cases hc;exact(hx 1 _ rfl).2
  | 4,hc=>cases hc;exact(hx 2 _ rfl).1
  | 5,hc=>cases hc;exact(hx 2 _ rfl).2
  | 6,hc=>cases hc;exact(hx 3 _ rfl).1
  | 7,hc=>cases hc;exact(hx 3 _ rfl).2
  | 8,hc=>cases hc;exact(hx 4 _ rfl).1
  | 9,hc=>cases hc;exact(hx 4 _ rfl).2
  | i+10,hc=>simp[xC]at hc
 ·intro k hk;have h:k=0\/k=1\/k=2\/k=3\/k=4\/k=5\/k=6\/k=7\/k=8\/k=9:=zx
  rcases h with rfl | rfl | rfl | rfl | rfl | rfl | rfl | rfl | rfl | rfl
  ·exact r0
  ·exact r1
  ·exact r2
  ·exact r3
  ·exact r4
  ·exact r5
  ·exact r6
  ·exact r7
  ·exact r8
  ·exact r9
 ·intro i j hi hj hij;have h:i=0\/i=1\/i=2\/i=3\/i=4\/i=5\/i=6\/i=7\/i=8\/i=9:=zx
  have h2:j=0\/j=1\/j=2\/j=3\/j=4\/j=5\/j=6\/j=7\/j=8\/j=9:=zx
  rcases h with rfl | rfl | rfl | rfl | rfl | rfl | rfl | rfl | rfl | rfl <;> rcases h2 with rfl | rfl | rfl | rfl | rfl | rfl | rfl | rfl | rfl | rfl;all_goals first
   | exact absurd rfl hij
   | exact ne _ _ _ _ _ _ ‹_› ‹_› ‹_› ‹_› rfl
end Go.P
namespace Go.P
set_option maxRecDepth 100000
set_option maxHeartbeats 8000000
def k10:(Rows.textsRow.inPlace==prog.inPlace 3)=true:=zt
def k11:(Rows.textsRow.unfollowed==prog.unfollowed 3)=true:=zt
def k12:(Rows.textsRow.recurses==prog.recurses 3)=true:=zt
def k13:(Rows.textsRow.named==prog.varsNamed 3)=true:=zt
def Zw8:joinedFacts prog 3 Tryz.f3 Rows.textsSpec Rows.textsRow=true:=by
 simp only[joinedFacts,Bool.and_eq_true];and_intros
 ·as_aux_lemma=>kernel_rfl
 ·as_aux_lemma=>kernel_rfl
 ·as_aux_lemma=>kernel_rfl
 ·as_aux_lemma=>kernel_rfl
 ·as_aux_lemma=>kernel_rfl
 ·as_aux_lemma=>kernel_rfl
 ·as_aux_lemma=>kernel_rfl
 ·as_aux_lemma=>kernel_rfl
 ·as_aux_lemma=>kernel_rfl
 ·exact k10
 ·exact k11
 ·exact k12
 ·exact k13
 ·as_aux_lemma=>kernel_rfl
 ·as_aux_lemma=>kernel_rfl
 ·as_aux_lemma=>kernel_rfl
 ·as_aux_lemma=>kernel_rfl
 ·as_aux_lemma=>kernel_rfl
 ·as_aux_lemma=>kernel_rfl
 ·as_aux_lemma=>kernel_rfl
 ·as_aux_lemma=>kernel_rfl
 ·as_aux_lemma=>kernel_rfl
 ·as_aux_lemma=>kernel_rfl
 ·as_aux_lemma=>kernel_rfl
 ·as_aux_lemma=>kernel_rfl
 ·as_aux_lemma=>kernel_rfl
 ·as_aux_lemma=>kernel_rfl
 ·as_aux_lemma=>kernel_rfl
 ·as_aux_lemma=>kernel_rfl
 ·as_aux_lemma=>kernel_rfl
 ·as_aux_lemma=>kernel_rfl
 ·as_aux_lemma=>kernel_rfl
end Go.P
namespace Go.W
def Jl.vals {B D b o:Nat}{w:World}{x:Bk}(h:Jl B w (D+1) b o x):b<B/\ ∃ p c p' c' p2 c2,w.cell? ⟨b,o,none⟩=some (.slice p x.facts.length c)/\w.cell? ⟨b,o+1,none⟩=some (.slice p' x.rules.length c')/\w.cell? ⟨b,o+2,none⟩=some (.slice p2 x.checks.length c2)/\DW B w D [.slice p x.facts.length c,.slice p' x.rules.length c',.slice p2 x.checks.length c2] x:=by
 obtain⟨hb,⟨v,h2,p,c,rfl,h3,h4⟩,⟨u,h5,p',c',rfl,h6,h7⟩,q,h8,p2,c2,rfl,h9,h10⟩:=h;exact⟨hb,p,c,p',c',p2,c2,h2,h5,h8,p,c,p',c',p2,c2,rfl,h3,h4,h6,h7,h9,h10⟩
end Go.W
namespace Go.P
variable {tag:List UInt8}{xs:List Bk}
def RY (tag:List UInt8) (xs:List Bk):List UInt8:=xs.foldl (fun t x=>DV ⟨t.toArray⟩ [DU x]) tag
def Z3x {k:Nat}{x:Bk}(h:xs[k]?=some x):RY tag (xs.take<|k+1)=DV ⟨(RY tag<|xs.take k).toArray⟩ [DU x]:=by
 have e1:xs.take (k+1)=xs.take k++[x]:=by rw[PR,h];rfl
 rw[e1];unfold RY;rw[List.foldl_append];rfl
def nQ (h:tag.length=32)(xs:List Bk):(RY tag xs).length=32:=by
 unfold RY;induction xs generalizing tag with
 | nil=>exact h
 | cons x xs ih=>exact ih<|Oh _
def Yao (w:World) (C:Nat) (ts:List ByteArray) (tag:List UInt8) (xs:List Bk) (iv:Value) (wr:World):Prop:= ∃ (k:Nat) (v:Value) (F:List Nat),k<=xs.length/\iv= .int .i64 (k:Int)/\AJ wr C (C8 false v<|Lib.byteCells<|RY tag<|xs.take k) 114/\AO 108 4 LQ wr v (ts++(xs.take k).map DU) F/\Af w.heap.size wr F/\C∉F/\Bl w wr
def Zu3 (V:E8)(CL:Ig){a:Nat->Addr}{B D:Nat}{w:World}{l:By}{ch:Ch}{p:Option Addr}{c:Nat}(Z:Aa a w)(hl:l.length<1000000000)(hch:JK KO l= .ok ch)(hs:ch.sealed=false)(hB:B<=w.heap.size)(hrow:Ap 3 (Jl B w<|D+1) p xs)(hx: ∀ x,x∈xs->Ib x=0)(hn:ch.links.length+xs.length<=8)(Sd: ∀ y,y∈ch.links->y.1.size<=4000):
  Calls prog 22 #[.string<|ba l,.slice p xs.length c] w fun e w'=>e= .returned (.tuple #[.string<|Pz false (ch.links.map (·.1)++xs.map DU)<|RY ch.tag xs,.nilIface])/\Bl w w':=by
 obtain⟨WB,hWB⟩: ∃ WB,AC (Pz false (ch.links.map (·.1)++xs.map DU) (RY ch.tag xs)=WB):=⟨_,⟨rfl⟩⟩;rw[hWB.out];have C:=AA<|Zzp V CL Z hl hch hs;have ZZ:=AA Z;have HR:=AA hrow;have HV:=AA V;have HSd:=AA hs;clear Z V CL hrow hch hs;go_in
 go_wp2_with fail
 refine C.out.mono ?_;rintro e w1 ⟨hb1,⟨m,hy,hm,rfl⟩ | ⟨y,vs,F,hy,rfl,hQ,hN⟩⟩
 ·cases hy
 obtain rfl:y=ch:=(Except.ok.inj hy).symm;obtain⟨v,rfl,JV,hrow⟩:=hQ;obtain⟨hT,Yq⟩:=AO.texts hrow;have hvf:=AO.form hrow;obtain⟨p1,c1,FL⟩:=hvf;have hlen:(Lib.byteCells y.tag).length=32:=by rw[Lib.byteCells_length,JV]
 have pE:AC ((Value.bool y.sealed::v::Lib.byteCells y.tag).toArray=C8 false v (Lib.byteCells y.tag)):=⟨by rw[HSd.out];rfl⟩;rw[pE.out];have S1:=AJ.new w1 DR 114;have DN:=U0 false v hlen;have C9:(C8 false v<|Lib.byteCells y.tag).all (·.oneCell')=true:=by rw[FL];exact bY _ _ _ _ _
 have hsz:=Uz false v hlen;have NT:AC (Af w.heap.size w1 v.ownBlock.toList):=⟨⟨by cases v.ownBlock <;> simp,fun k hk=>hN.ge k (Yq k hk),fun k hk=>hN.lt k (Yq k hk)⟩⟩;have HT:=AA hT;have B1:=AA hb1;clear hb1 hy hrow hT Yq hN C;obtain⟨CV,Ei⟩: ∃ CV,AC (C8 false v (Lib.byteCells y.tag)=CV):=⟨_,⟨rfl⟩⟩;rw[Ei.out]at DN C9 hsz⊢;obtain⟨n,RO⟩: ∃ n,AC (xs.length=n):=⟨_,⟨rfl⟩⟩;rw[RO.out]at hn⊢;go_wp2_with (refine Jp rfl 114 (.tmp 6) (.tmp 14) rfl w1.heap.size CV rfl rfl 114 DR S1 DN (by rw[hsz];rfl) C9 ?_)
 obtain⟨W2,hW2⟩: ∃ W,(w1.alloc<|.cells DR 114).setRow w1.heap.size CV=W:=⟨_,rfl⟩;change Code.wp _ _ _ _ ((w1.alloc<|.cells DR 114).setRow w1.heap.size CV);have I0:AC (Yao w w1.heap.size (y.links.map (·.1)) y.tag xs (.int .i64 ((0:Nat):Int)) W2):=⟨0,v,v.ownBlock.toList,Ii _,rfl,by rw[<- hW2,<- Ei.out];exact Gj _ _ _ _ _ _ S1,by
   rw[<- hW2]
   have:=AO.stable LQ.stable _ ((w1.alloc<|.cells DR 114).setRow w1.heap.size CV) _ _ _ HT.out (fun j hj=>by
    have:=NT.out.lt j hj
    rw[Db _ _ j _ zx];exact Ah _ _ _ this)
   simpa using this,by rw[<- hW2];exact NT.out.later lr (by rw[ET];simp),fun h=>by have:=NT.out.lt _ h;omega,by rw[<- hW2];exact(B1.out.alloc B1.out.size _).Br _ B1.out.size⟩
 rw[hW2];have lK:w.heap.size<=w1.heap.size:=B1.out.size;clear hW2 S1 DN C9 hsz HT NT;generalize w1.heap.size=C at*;generalize Value.agg CV=vCV at*;go_loopw [21] (fun iv wr=>Yao w C (y.links.map (·.1)) y.tag xs iv wr) (fun iv _=>xs.length-(intOf iv).toNat)
 case atStart=>exact I0.out
 case round=>
  clear I0;obtain⟨k,v',F',hk,rfl,aY,gL,gP,aZ,AX⟩:=hrel;by_cases hlt:k<n
  ·have g:(k:Int)<(n:Int):=zx
   have VX:k<xs.length:=by have:=RO.out;omega
   obtain⟨b1,o1,rfl,zO⟩:=HR.out.get k VX;have hm:xs[k]∈xs:=KV VX;have OG:xs[k]?=some xs[k]:=DK VX;obtain⟨hb1,q1,k1,q2,k2,q3,k3,z0,z1,z2,hS⟩:=(Jl.carry (Go.W.Below.carry (AX.mono hB) lr) lr zO).vals;have hZ:=ZZ.out.PD AX ZZ.out.size;have L9:=nQ JV<|xs.take k;have E0:AC (cB (y.links.map (·.1)++(xs.take k).map DU).length xs[k]=0):=⟨by
    unfold cB;rw[if_neg (by simp;have:=RO.out;omega)];exact hx _ hm⟩
   have zl:(y.links.map (·.1)++(xs.take k).map DU).length<=8:=by simp;have:=RO.out;omega
   have CA:=AA fun o=>Ybh HV.out (D:=D) (w:=wr.alloc o) (hZ.below<|(AQ _ wr).alloc lr o) hB ZZ.out.size lK (aY.alloc o) L9 (AO.stable LQ.stable _ _ _ _ _ gL fun j hj=>Ah _ _ _ (gP.lt j hj)) (gP.later lr zw) aZ (DW.carry hS<|Hl o<|AU hB AX.size) zl;have HB:=AA AX;have ETG:=AA<|Z3x (tag:=y.tag) OG;have EXS:AC ((xs.take<|k+1).map DU=(xs.take k).map DU++[DU xs[k]]):=⟨by rw[PR,OG,List.map_append];rfl⟩;clear aY gL gP aZ AX zO hS hZ hm OG zl;generalize xs[k]=x at*;go_wp2_with fail
   refine(CA.out _).mono ?_;rintro e w5 ⟨rfl,Bf,h5⟩;obtain⟨v5,F5,hC5,hR5,lG,gm⟩:=h5 E0.out;rw[E0.out,Ih];have yB:=AA<|(HB.out.alloc HB.out.size _).trans Bf;have H5:=AA<|AF hC5<|AF hR5<|AF lG gm;clear Bf h5 hC5 hR5 lG gm CA;go_wp2_with fail
   refine⟨⟨k+1,v5,F5,by have:=RO.out;omega,zw,?_,?_,H5.out.2.2.1,H5.out.2.2.2,yB.out⟩,by simp[intOf];have:=RO.out;omega⟩
   ·rw[ETG.out];exact H5.out.1
   ·rw[EXS.out,<- GY];exact H5.out.2.1
  ·obtain rfl:k=n:=by have:=RO.out;omega
   rw[<- RO.out,JQ]at aY gL;have Qa:=nQ JV xs;have kS:(Lib.byteCells<|RY y.tag xs).length=32:=by rw[Lib.byteCells_length,Qa]
   obtain⟨p5,c5,kI,eU⟩:=AO.links gL fun j hj=>gP.lt j hj;have CW:=AA<|Zxg (S:=false) (c:=c5) lr eU Qa<|mf false (by simp;have:=RO.out;omega) (fun t ht=>by
    rcases CY.1 ht with ht | ht
    ·obtain⟨z,hz,rfl⟩:=List.mem_map.1 ht;exact Sd z hz
    ·obtain⟨z,hz,rfl⟩:=List.mem_map.1 ht;exact Zf z) Qa
   rw[<- kI]at CW;rw[hWB.out]at CW;have fE:=U0 false v' kS;obtain⟨yG,hCV5⟩: ∃ yG,AC (C8 false v' (Lib.byteCells<|RY y.tag xs)=yG):=⟨_,⟨rfl⟩⟩;rw[hCV5.out]at fE aY CW;have HB:=AA AX;clear gL gP aZ AX eU;go_wp2_with (refine QK rfl 114 (.tmp 6) rfl C rfl 114 yG (0,0) _ aY underlying114 rfl fE ?_)
   refine mq CW.out ?_;rintro w9 TN;have R9:=tr HB TN;clear CW TN aY;go_wp2
   go_ret2
   exact⟨rfl,R9.out⟩
end Go.P
namespace Go.W
def Pn:D9 (List UInt8):=fun _ vs x F=>F=[]/\x.length=32/\vs=Lib.byteCells x
def Pn.stable:IB Pn:=fun _ _ _ _ _ h _=>h
def Pn.one {w:World}{vs:List Value}{x:List UInt8}{F:List Nat}(h:Pn w vs x F): ∀ u,u∈vs->u.oneCell'=true:=by
 obtain⟨_,_,rfl⟩:=h;exact Lib.byteCells_one x
def Zfq {P:Program}(w:World){ops:Array Oper}{rest:List Oper}{o:Oper}{a:Act}{Q:Exit->Act->World->Prop}(hgd:o.guard=none)(ty:TypeId)(n:Nat)(ps:Array (Nat×Operand))(ho:o.op= .buildSlice ty n ps)(pv:Array (Nat×Value))(hp:ps.map (fun p=>(p.1,a.eval p.2))=pv){v':Value}{w':World}
  (hr:(Instr.buildSlice ty n pv).run P w= .ok v' w') (h:wpList P ops Q rest (a.put o.dst v') w'):wpList P ops Q (o::rest) a w:=by
 refine wpList_plain hgd fun _ hK=>?_;unfold Oper.wp execOp;rw[ho];simp only[hp,QM,Sem.run_pure,Rw,hr];exact hK _ _ h
end Go.W
namespace Go.P
variable {tag:List UInt8}{ts:List ByteArray}{k:Nat}{w:World}
def Zj6 {T:List UInt8}(h:T.length=32)(w:World):(Instr.buildSlice 180 1 #[(0,.agg (Lib.byteCells T).toArray)]).run prog w= .ok (.slice (Qb w.heap.size 0) 1 1) (w.alloc<|.cells (Lib.byteCells T).toArray 111):=by
 obtain⟨a0,a1,a2,a3,a4,a5,a6,a7,a8,a9,b0,b1,b2,b3,b4,b5,b6,b7,b8,b9,c0,c1,c2,c3,c4,c5,c6,c7,c8,c9,d0,d1,rfl⟩:=Yax h;kernel_rfl
def Z84:(prog.info? 111).map (fun i=>(i.zero,i.size,i.bytes))=some (some<|.agg Bi,32,32):=zt
def Z8t:Jk prog 180 111 32 32:=by
 obtain⟨i0,hi,hz0,hz1,hz2⟩:=info_parts Z84;exact⟨i0,_,underlying180,hi,hz0,hz1,hz2,rfl,zu,zu⟩
def Nb (tag:List UInt8):List ByteArray->List (List UInt8)
 | []=>[]
 | t::ts=>DV ⟨tag.toArray⟩ [t]::Nb (DV ⟨tag.toArray⟩ [t]) ts
def MH (tag:List UInt8) (ts:List ByteArray):List UInt8:=ts.foldl (fun t x=>DV ⟨t.toArray⟩ [x]) tag
def Zqj (h:tag.length=32)(ts:List ByteArray):(MH tag ts).length=32:=by
 unfold MH;induction ts generalizing tag with
 | nil=>exact h
 | cons x xs ih=>exact ih<|Oh _
def wU (tag:List UInt8)(ts:List ByteArray):(Nb tag ts).length=ts.length:=by
 induction ts generalizing tag with
 | nil=>rfl
 | cons x xs ih=>simp[Nb,ih]
def um: ∀ (ts:List ByteArray) (tag:List UInt8) (k:Nat),k<ts.length->(Nb tag ts)[k]?=some (MH tag<|ts.take<|k+1)
 | [],_,_,h=>by simp at h
 | t::ts,tag,0,_=>rfl
 | t::ts,tag,k+1,h=>by
  show(Nb _ ts)[k]?=_;rw[um ts _ k (by simpa using h)];rfl
def Z3w (h:k<ts.length):(Nb tag ts).take (k+1)=(Nb tag ts).take k++[MH tag<|ts.take<|k+1]:=by rw[PR,um ts tag k h];rfl
def Z7k {t:ByteArray}(h:ts[k]?=some t):MH tag (ts.take<|k+1)=DV ⟨(MH tag<|ts.take k).toArray⟩ [t]:=by
 rw[PR,h];unfold MH;simp
def Yas (w:World) (T:Nat) (T0:List UInt8) (ts:List ByteArray) (iv tv:Value) (wr:World):Prop:= ∃ (k:Nat) (F:List Nat),k<=ts.length/\iv= .int .i64 (k:Int)/\AO 111 32 Pn wr tv (T0::(Nb T0 ts).take k) F/\Af w.heap.size wr F/\T∉F/\AJ wr T (Lib.byteCells<|MH T0<|ts.take k).toArray 111/\Bl w wr
def Ycv {x:List UInt8}(hx:x.length=32):AO 111 32 Pn (w.alloc<|.cells (Lib.byteCells x).toArray 111) (.slice (Qb w.heap.size 0) 1 1) [x] [w.heap.size]:=by
 have hl:(Lib.byteCells x).length=32:=by rw[Lib.byteCells_length,hx]
 refine⟨[(Lib.byteCells x,x,[])],⟨by simp[hl],Or.inr ⟨w.heap.size,1,(Lib.byteCells x).toArray,rfl,Ii _,AJ.new w _ _,JB _,by unfold maxLen;omega,by simp[hl],by simp;exact Rx zx⟩⟩,?_,rfl,rfl,zw⟩
 ·intro z hz;obtain rfl:z=(Lib.byteCells x,x,[]):=by simpa using hz
  exact⟨hl,rfl,hx,rfl⟩
def Z97 {a:Nat->Addr}{B:Nat}{key:ByteArray}{S:Bool}{t0:ByteArray}{p:Option Addr}{c:Nat}(Z:Aa a w)(hk:key.size<1000000000)(hB:B<=w.heap.size)(hrow:Ap 4 (Qp B w) p (t0::ts))(hn:ts.length<100)(hc:ts.length+1<=c):
  Calls prog 87 #[.agg<|C8 S (.slice p (ts.length+1) c)<|Lib.byteCells tag,.string key] w fun e w'=> ∃ v F,e= .returned v/\AO 111 32 Pn w' v (DV key [t0]::Nb (DV key [t0]) ts) F/\Af w.heap.size w' F/\Bl w w':=by
 obtain⟨CV,Ei⟩: ∃ CV,AC (C8 S (.slice p (ts.length+1) c) (Lib.byteCells tag)=CV):=⟨_,⟨rfl⟩⟩;have v1:CV[1]?=some (.slice p (ts.length+1) c):=by rw[<- Ei.out];rfl
 rw[Ei.out];obtain⟨b,o,rfl,h0⟩:=hrow.get 0 zw;obtain⟨hb0,IW,_,_,_,_,_,_,_,_,_,k0,_⟩:=h0;rw[Ol,Oj]at k0;have k0:w.cell? ⟨b,o,none⟩=some (.string t0):=k0;have IW:t0.size<1000000000:=IW;have AX:b<w.heap.size:=Ba hb0 hB;have ZZ:=AA Z;have HR:=AA hrow;clear Z hrow;obtain⟨n,hnn⟩: ∃ n,AC (ts.length=n):=⟨_,⟨rfl⟩⟩;rw[hnn.out]at v1 hn hc;go_in
 go_wp2_with fail
 have hb1:=((AQ w.heap.size w).alloc lr<|.cells CV 114).alloc zw<|.cells #[.string t0] 9;have Dl:AJ ((w.alloc<|.cells CV 114).alloc<|.cells #[.string t0] 9) (w.heap.size+1) #[.string t0] 9:=by
  have:=AJ.new (w.alloc<|.cells CV 114) #[.string t0] 9
  simpa using this
 refine(uw (c:=1) (ZZ.out.below hb1) hk (bO Dl IW) zw).mono ?_;rintro e w2 ⟨rfl,hb2⟩;have Ud:(DV key [t0]).length=32:=Oh _;have B2:=AA<|hb1.trans<|hb2.mono hb1.size;have C2:=AA<|((AJ.new w CV 114).alloc<|.cells #[.string t0] 9).of<|hb2.block _ (by simp;omega);have hs2:w.heap.size+2<=w2.heap.size:=by have:=hb2.size;simpa using this
 clear hb1 hb2 Dl;unfold Ha;have EK:AC (DV key [t0]=DV key [t0]):=⟨rfl⟩;obtain⟨T0,hT⟩: ∃ T0,AC (DV key [t0]=T0):=⟨_,⟨rfl⟩⟩;rw[hT.out]at Ud⊢;clear EK;have S2:=AJ.new w2 Bi 111;have S3:=Gj _ _ _ (Lib.byteCells T0).toArray _ _ S2;have JW:=bM Ud;have hs0:(Lib.byteCells T0).toArray.size=32:=by rw[E9,Lib.byteCells_length,Ud]
 obtain⟨TV,hTV⟩: ∃ TV,AC ((Lib.byteCells T0).toArray=TV):=⟨_,⟨rfl⟩⟩;have rD:=AA fun u=>Zj6 Ud u;have C9:=Xc T0;rw[hTV.out]at S3 JW hs0 rD C9⊢;have x1: ∀ o1 o2,(((w2.alloc o1).setRow w2.heap.size TV).alloc o2).cell? ⟨w.heap.size,1,none⟩=some (.slice (Qb b o) (n+1) c):=fun o1 o2=>((((C2.out.alloc o1).of<|Db _ _ _ _ zx).alloc o2).cell 1).trans v1;have hc1:((1:Int)<=(n:Int)+1):=zx
 have hc2:((n:Int)+1<=(c:Int)):=zx
 go_wp2_with (first
  | (refine Jp rfl 111 (.tmp 5) (.tmp 16) rfl w2.heap.size TV rfl rfl 111 Bi S2 JW (by rw[hs0];rfl) C9 ?_)
  | (refine QK rfl 111 (.tmp 5) rfl w2.heap.size rfl 111 TV (0,0) _ S3 underlying111 rfl JW ?_)
  | (refine Zfq _ rfl 180 1 #[(0,.tmp 17)] rfl #[(0,.agg TV)] (by simp[Act.eval,Act.put]) (rD.out _) ?_))
 case' inl=>
  have HA:AC (∃ ad cx,(Value.slice (Qb b o) n 0)= .slice (some ad) n cx/\(0<n->ad=⟨b,o+4,none⟩)):=⟨⟨⟨b,o,none⟩,0,rfl,fun h=>zx⟩⟩;generalize Value.slice (Qb b o) n 0=sl at*
 case' inr=>
  have HA:AC (∃ ad cx,(Value.slice (Qb b<|o+4) n<|c-1)= .slice (some ad) n cx/\(0<n->ad=⟨b,o+4,none⟩)):=⟨⟨⟨b,o+4,none⟩,c-1,rfl,fun _=>rfl⟩⟩;generalize Value.slice (Qb b<|o+4) n (c-1)=sl at*
 all_goals
  change Code.wp _ _ _ _ (((w2.alloc<|.cells Bi 111).setRow w2.heap.size TV).alloc<|.cells TV 111);have gM:AO 111 32 Pn (((w2.alloc<|.cells Bi 111).setRow w2.heap.size TV).alloc<|.cells TV 111) (.slice (Qb (w2.heap.size+1) 0) 1 1) [T0] [w2.heap.size+1]:=by
   have:=Ycv (w:=(w2.alloc<|.cells Bi 111).setRow w2.heap.size TV) Ud
   rw[hTV.out,ET,EH]at this;exact this
  have I0:AC (Yas w w2.heap.size T0 ts (.int .i64 ((0:Nat):Int)) (.slice (Qb (w2.heap.size+1) 0) 1 1)<|((w2.alloc<|.cells Bi 111).setRow w2.heap.size TV).alloc<|.cells TV 111):=⟨⟨0,[w2.heap.size+1],Ii _,rfl,gM,⟨zw,fun k hk=>by simp at hk;omega,fun k hk=>by simp at hk;rw[EH,ET,EH];omega⟩,zw,by rw[List.take_zero,show MH T0 []=T0 from rfl,hTV.out];exact AJ.alloc S3 _,(((B2.out.alloc B2.out.size _).Br _ B2.out.size).alloc (by rw[ET,EH];omega) _)⟩⟩;have hTw:w.heap.size<=w2.heap.size:=zx
  clear x1 S2 S3 rD C9 hs0 JW gM;generalize ((w2.alloc<|.cells Bi 111).setRow w2.heap.size TV).alloc (.cells TV 111)=W3 at*;generalize (Value.slice (Qb (w2.heap.size+1) 0) 1 1)=sl0 at*;generalize w2.heap.size=T at*;go_loopw [23,6] (fun iv tv wr=>Yas w T T0 ts iv tv wr) (fun iv _ _=>ts.length-(intOf iv).toNat)
  case atStart=>exact I0.out
  case round=>
   clear I0;obtain⟨k,F,hk,rfl,gN,Ve,Yq,Yo,DT⟩:=hrel;by_cases hlt:k<n
   ·first
    | (exfalso;omega)
    | (have g:(k:Int)<(n:Int):=by omega
       obtain⟨ad,cx,rfl,rF⟩:=HA.out;obtain rfl:=rF zx;have VX:k<ts.length:=by have:=hnn.out;omega
       obtain⟨b',o',ko,hx⟩:=HR.out.get (k+1) (by simpa using VX);obtain⟨rfl,rfl⟩:b=b'/\o=o':=by injection ko with h;injection h with h1 h2;exact⟨h1,h2⟩
       have OG:ts[k]?=some ts[k]:=DK VX;obtain⟨hb1,UV,p1,n1,c1,p2,n2,c2,p3,n3,c3,z0,z1,z2,z3⟩:=Qp.carry (Go.W.Below.carry (DT.mono hB) lr) hx;rw[show o+(k+1)*4=o+4+k*4 by omega]at z0 z1 z2 z3;replace z0:wr.cell? ⟨b,o+4+k*4,none⟩=some (.string ts[k]):=z0
       replace UV:ts[k].size<1000000000:=UV
       have rU:=Zqj Ud<|ts.take k;have Vh:=Zqj Ud<|ts.take<|k+1;have EK:=Z7k (tag:=T0) OG;have ETL:=AA<|Z3w (tag:=T0) VX;have hUb: ∀ o,Bl w (wr.alloc o):=fun o=>DT.alloc DT.size o;have CB:=AA fun o=>Zva (t:=ts[k]) ((ZZ.out.PD DT ZZ.out.size).below<|(AQ _ wr).alloc lr o) rU UV;rw[<- EK]at CB;unfold Ha at CB;have hik:=bM rU;have Yd:=bM Vh;have Yl:=AA fun u=>Zj6 Vh u;have Wh:=Xc<|MH T0<|ts.take<|k+1;have YK:(Lib.byteCells<|MH T0<|ts.take<|k+1).toArray.size=32:=by rw[E9,Lib.byteCells_length,Vh]
       have hsk:(Lib.byteCells<|MH T0<|ts.take k).toArray.size=32:=by rw[E9,Lib.byteCells_length,rU]
       obtain⟨TK,hTK⟩: ∃ TK,AC ((Lib.byteCells<|MH T0<|ts.take k).toArray=TK):=⟨_,⟨rfl⟩⟩;obtain⟨KX,hTK1⟩: ∃ KX,AC ((Lib.byteCells<|MH T0<|ts.take<|k+1).toArray=KX):=⟨_,⟨rfl⟩⟩;rw[hTK.out,hTK1.out]at CB;rw[hTK.out]at Yo hik hsk;rw[hTK1.out]at Yd Yl Wh YK;have TU:=fun o=>Yo.alloc o;have HH:=AA<|AF gN<|AF Ve<|AF Yq DT;have Qa:T<wr.heap.size:=Yo.lt;clear hx EK gN Ve Yq Yo DT;obtain⟨xk,hxk'⟩: ∃ xk,AC (ts[k]=xk):=⟨_,⟨rfl⟩⟩;rw[hxk'.out]at CB z0 UV;go_wp2_with (refine QK rfl 111 (.tmp 5) rfl T rfl 111 TK (0,0) _ (TU _) underlying111 rfl hik ?_)
       refine(CB.out _).mono ?_;rintro e w5 ⟨rfl,Bf⟩;have T5:=(TU<|.cells #[.string xk,.slice p1 n1 c1,.slice p2 n2 c2,.slice p3 n3 c3] 108).of<|Bf.block _ (by simp;omega);have T6:=Gj _ _ _ KX _ _ T5;have hs5:wr.heap.size+1<=w5.heap.size:=by have:=Bf.size;simpa using this
       have fT:=Yl.out<|w5.setRow T KX;rw[ET]at fT;have WU:AC (∀ j,j<wr.heap.size->j≠T->(w5.setRow T KX).heap[j]?=wr.heap[j]?):=⟨fun j hj hne=>(Db _ _ j _ hne).trans ((Bf.block j (by simp;omega)).trans<|Ah _ _ _ hj)⟩;have B6:AC (Bl w<|w5.setRow T KX):=⟨((hUb _).trans<|Bf.mono (by have:=HH.out.2.2.2.size;simp;omega)).Br _ hTw⟩;have R7:AC (AO 111 32 Pn ((w5.setRow T KX).alloc<|.cells KX 111) u6 (T0::(Nb T0 ts).take k) F):=⟨AO.stable Pn.stable _ _ _ _ _ HH.out.1 fun j hj=>(Ah _ _ _ (by rw[ET];have:=HH.out.2.1.lt j hj;omega)).trans (WU.out j (HH.out.2.1.lt j hj) fun e=>HH.out.2.2.1 (e▸hj))⟩;have N7:AC (Af w.heap.size ((w5.setRow T KX).alloc<|.cells KX 111) F):=⟨HH.out.2.1.later lr (by rw[EH,ET];omega)⟩;have qO:AC (Pn ((w5.setRow T KX).alloc<|.cells KX 111) KX.toList (MH T0<|ts.take<|k+1) []):=⟨rfl,Vh,by rw[<- hTK1.out]⟩;have Gn:=AJ.new (w5.setRow T KX) KX 111;rw[ET]at Gn;have Gx:(T0::(Nb T0 ts).take k).length<100000000:=by simp[wU];have:=hnn.out;omega
       clear CB Bf TU Yl hUb;go_wp2_with (first
        | (refine Jp rfl 111 (.tmp 5) (.tmp 30) rfl T KX rfl rfl 111 TK T5 Yd (by rw[hsk,YK]) Wh ?_)
        | (refine QK rfl 111 (.tmp 5) rfl T rfl 111 KX (0,0) _ T6 underlying111 rfl Yd ?_)
        | (refine Zfq _ rfl 180 1 #[(0,.tmp 32)] rfl #[(0,.agg KX)] (by simp[Act.eval,Act.put]) fT ?_)
        | (at_builtin;go_must (refine MW Z8t rfl (.tmp 31) (.tmp 33) rfl Pn.stable (fun _ _ _ _ h=>Pn.one h) w.heap.size u6 (T0::(Nb T0 ts).take k) F rfl R7.out w5.heap.size KX 111 (0,0) (MH T0<|ts.take<|k+1) [] rfl Gn YK qO.out Gx (by have:=HH.out.2.2.2.size;rw[EH,ET];omega) N7.out (Af.nil _ _) (fun _ _ h=>by cases h) ?_);intro g8 TW w8 F8 AM))
       have RN:=AM.size;rw[EH,ET]at RN;have st8: ∀ j,j<wr.heap.size->j∉F->j≠T->w8.heap[j]?=wr.heap[j]?:=fun j hj qh hjT=>(AM.same j (by rw[EH,ET];omega) qh).trans ((Ah _ _ _ (by rw[ET];omega)).trans<|WU.out j hj hjT);go_roundw
       case rel=>
        refine⟨k+1,F8,zx,by go_num,?_,AM.new,?_,?_,?_⟩
        ·rw[ETL.out]
         have:=AM.row
         simpa using this
        ·intro h;rcases AM.sub T h with h | h | h
         ·exact HH.out.2.2.1 h
         ·cases h
         ·rw[EH,ET]at h;omega
        ·rw[hTK1.out];exact AJ.of (AJ.alloc T6<|.cells KX 111)<|AM.same T (by rw[EH,ET];omega) HH.out.2.2.1
        ·have hb:=HH.out.2.2.2;exact⟨AM.os.trans B6.out.os,AM.tape.trans B6.out.tape,AM.output.trans B6.out.output,by have:=hb.size;omega,fun j hj=>(st8 j (by have:=hb.size;omega) (fun h=>by have:=HH.out.2.1.ge j h;omega) zx).trans (hb.block j hj)⟩
       case measure=>simp[intOf];omega)
   ·obtain rfl:k=n:=by have:=hnn.out;omega
    have e1:(Nb T0 ts).take k=Nb T0 ts:=Rx (by rw[wU];have:=hnn.out;omega);rw[e1]at gN;have HH:=AA<|AF gN<|AF Ve DT;clear gN Ve DT Yq Yo;go_wp2
    go_ret
    rw[hT.out];exact⟨u6,F,rfl,HH.out.1,HH.out.2.1,HH.out.2.2⟩
end Go.P
namespace Go.P
def Z6n {T:List UInt8}{i:Nat}(h:i<T.length)(w:World):(part 5 (Lib.byteCells T).toArray<|i*1).run prog w= .ok (.int .u8 ((T.getD i 0).toNat:Int)) w:=by
 have:=vQ T i h
 rw[Nat.mul_one];simp[part,go_sem,this]
def Zni {T:List UInt8}(d:Nat)(w:World): ∀ (is:List Nat),(∀ i,i∈is->i<T.length)->(Op.eqItems (d+1) 5 1 (Lib.byteCells T).toArray (Lib.byteCells T).toArray is).run prog w= .ok true w
 | [],_=>by simp[Op.eqItems]
 | i::is,h=>by
  have h1:=Z6n (h i List.mem_cons_self) w;have h2:=Zni d w is fun j hj=>h j (List.mem_cons_of_mem _ hj);have h3:=run_equalIn_int (P:=prog) w d 5 .u8 .u8 ((T.getD i 0).toNat:Int) ((T.getD i 0).toNat:Int) underlying5;simp only[Op.eqItems,QM,h1,Rw,h3];simp[h2]
def Ybz {T:List UInt8}(h:T.length=32)(w:World):(binOp .eql 111 (.agg (Lib.byteCells T).toArray)<|.agg (Lib.byteCells T).toArray).run prog w= .ok (.bool true) w:=by
 obtain⟨i,hi,_,hs,_⟩:=info_parts iZ;rw[run_eql_struct,run_equalIn_array w 9999 _ _ underlying111 hi,vP,Zni 9998 w _ (fun j hj=>by rw[h];simpa using hj)];rfl
def Z5a {w:World}{v:Value}{tag:List UInt8}(ht:tag.length=32):
  Calls prog 88 #[.agg<|C8 false v<|Lib.byteCells tag,Ha tag] w fun e w'=>e= .returned (.bool true)/\Bl w w':=by
 obtain⟨CV,Ei⟩: ∃ CV,AC (C8 false v (Lib.byteCells tag)=CV):=⟨_,⟨rfl⟩⟩;have v0:CV[0]?=some (.bool false):=by rw[<- Ei.out];rfl
 have hlen:(Lib.byteCells tag).length=32:=by rw[Lib.byteCells_length,ht]
 unfold Ha;have hC:=fun o=>(AJ.new w CV 114).alloc o;have c0:=fun o=>((hC o).cell 0).trans v0;rw[Ei.out];go_in
 have hrg: ∀ o,((w.alloc<|.cells CV 114).alloc o).rangeAt w.heap.size 2 (Lib.byteCells tag):=fun o j u hj=>by
  rw[AJ.cell<|hC o,<- Ei.out,C8,Qz,Nat.add_comm 2 j];exact hj
 have hL:AJ ((w.alloc<|.cells CV 114).alloc<|.cells (Lib.byteCells tag).toArray 111) (w.heap.size+1) (Lib.byteCells tag).toArray 111:=by
  have:=AJ.new (w.alloc<|.cells CV 114) (Lib.byteCells tag).toArray 111
  simpa using this
 have aT:=fun u=>Ybz ht u;go_wp2_with (first
  | (refine wpList_load_mid rfl 111 (.tmp 9) rfl w.heap.size 2 rfl (Lib.byteCells tag) _ (hrg _) underlying111 rfl (by rw[hlen];kernel_rfl) ?_)
  | (refine QK rfl 111 (.tmp 3) rfl (w.heap.size+1) rfl 111 (Lib.byteCells tag).toArray (0,0) _ hL underlying111 rfl (bM ht) ?_))
 go_ret
 exact⟨rfl,((AQ w.heap.size w).alloc lr _).alloc zw _⟩
end Go.P
