import Derived.Test.YtpmcefkhkkpnbaaGreatDoorV
import Derived.WalkKit
import Derived.Deep.AppendLies
import Derived.Deep.Draws
import Derived.Laws.Append
import Derived.Laws.IdiomStrings
import Derived.Laws.OwnMore
import Derived.Test.YtpmcefkhkkpnbaaGreatDoorProg
import Derived.WalkLawsBesides
import Derived.WalkSpells
import Derived.Outline
import Derived.BigQuiet
import Derived.Deep.QuietTactic
import Derived.Handy
import Derived.Lib.ValidU
import Derived.Lib.LaidU8
import Derived.Laws.BitsAllLaws
set_option linter.all false
set_option maxRecDepth 100000
set_option maxHeartbeats 8000000
open Go.Proofs Go.RowKit Go.W Tryz
namespace Go.W
structure AF (p:Prop):Prop where
 o:p
def AC {p:Prop}(h:p):AF p:=⟨h⟩
theorem _root_.Go.cK {α:Sort _}(x:α):∃ y,AF (x=y):=⟨_,⟨rfl⟩⟩
section
variable {s B B':Nat}{v:Value}{w w':Bb}
inductive T where
 | mk (k i:Int) (t:ByteArray) (l:List T)
def T.k:T->Int | .mk k _ _ _=>k
def T.i:T->Int | .mk _ i _ _=>i
def T.t:T->Ay | .mk _ _ t _=>t
def T.l:T->List T | .mk _ _ _ l=>l
structure A where
 name:Ay
 te:List T
structure G where
 op:Int
 a:T
 b:T
structure R where
 head:A
 body:List A
 gu:List G
structure Dk where
 allow:Bool
 either:List R
structure Bk where
 fa:List A
 ru:List R
 ck:List (List R)
def Gq (n:Int):Prop:= -9223372036854775808<=n/\n<=9223372036854775807
structure Ap {α:Type} (s:Nat) (Q:Nat->Nat->α->Prop) (p:Bp) (xs:List α):Prop where
 len:xs.length<1000000000
 at_: ∀ i x,xs[i]?=some x-> ∃ b o,p=some (zm b o)/\Q b (o+i*s) x
def Qi {α:Type} (s:Nat) (Q:Nat->Nat->α->Prop) (v:Value) (xs:List α):Prop:=
 ∃ p cap,v= sP p xs.length cap/\xs.length<=cap/\Ap s Q p xs
abbrev Mem:=Inhabited<|Nat->Nat->T->Prop
abbrev Mem.S [m:Mem]:Nat->Nat->T->Prop:=m.default
abbrev Zst:Mem:=inferInstance
variable [Mem]
structure wz (Q:Nat->Nat->T->Prop) (kv iv tv lv:Value) (x:T):Prop where
 k:kv= zo x.k
 i:iv= zo x.i
 t:tv= um x.t
 kr:Gq x.k
 ir:Gq x.i
 tr:x.t.size<1000000000
 l:Qi 4 Q lv x.l
def He (B:Nat) (w:Bb):Nat->Nat->Nat->T->Prop
 | 0,_,_,_=>False
 | d+1,b,o,x=>(b<B/\Mem.S b o x)/\ ∃ lv,w.cell? (zm b o)=some (zo x.k)/\w.cell? (zm b (o+1))=some (zo x.i)/\w.cell? (zm b (o+2))=some (.string x.t)/\w.cell? (zm b (o+3))=some lv/\
   wz (He B w d) (zo x.k) (zo x.i) (.string x.t) lv x
def rG (B:Nat) (w:Bb) (d:Nat) (v:Value) (xs:List T):Prop:=Qi 4 (He B w d) v xs
structure Ep (B:Nat) (w:Bb) (d:Nat) (b o:Nat) (x:A):Prop where
 blk:b<B
 name:w.cell? (zm b o)=some (um x.name)
 size:x.name.size<1000000000
 te: ∃ v,w.cell? (zm b (o+1))=some v/\rG B w d v x.te
def kT (B:Nat) (w:Bb) (d:Nat) (v:Value) (xs:List A):Prop:=Qi 2 (Ep B w d) v xs
structure QK (B:Nat) (w:Bb) (d:Nat) (b o:Nat) (x:G):Prop where
 blk:b<B
 op:w.cell? (zm b o)=some (zo x.op)
 opr:Gq x.op
 a:He B w d b (o+1) x.a
 b:He B w d b (o+5) x.b
def pX (B:Nat) (w:Bb) (d:Nat) (v:Value) (xs:List G):Prop:=Qi 9 (QK B w d) v xs
structure FJ (B:Nat) (w:Bb) (d:Nat) (b o:Nat) (x:R):Prop where
 blk:b<B
 head:Ep B w d b o x.head
 body: ∃ v,w.cell? (zm b (o+2))=some v/\kT B w d v x.body
 gu: ∃ v,w.cell? (zm b (o+3))=some v/\pX B w d v x.gu
def fF (B:Nat) (w:Bb) (d:Nat) (v:Value) (xs:List R):Prop:=Qi 4 (FJ B w d) v xs
structure Rw (B:Nat) (w:Bb) (d:Nat) (b o:Nat) (x:List R):Prop where
 blk:b<B
 either: ∃ v,w.cell? (zm b o)=some v/\fF B w d v x
def pY (B:Nat) (w:Bb) (d:Nat) (v:Value) (xs:List (List R)):Prop:=Qi 1 (Rw B w d) v xs
structure Jh (B:Nat) (w:Bb) (d:Nat) (b o:Nat) (x:Dk):Prop where
 blk:b<B
 allow:w.cell? (zm b o)=some (.bool x.allow)
 either: ∃ v,w.cell? (zm b (o+1))=some v/\fF B w d v x.either
structure Iz (B:Nat) (w:Bb) (d:Nat) (b o:Nat) (x:Bk):Prop where
 blk:b<B
 fa: ∃ v,w.cell? (zm b o)=some v/\kT B w d v x.fa
 ru: ∃ v,w.cell? (zm b (o+1))=some v/\fF B w d v x.ru
 ck: ∃ v,w.cell? (zm b (o+2))=some v/\pY B w d v x.ck
def Qi.imp {α:Type}{Q Q':Nat->Nat->α->Prop}{xs:List α}(h:Qi s Q v xs)(f: ∀ b o x,x∈xs->Q b o x->Q' b o x):Qi s Q' v xs:=by
 obtain⟨p,cap,hv,hc,hl,ha⟩:=h;refine⟨p,cap,hv,hc,hl,fun i x hx=>?_⟩;obtain⟨b,o,hp,hq⟩:=ha i x hx;exact⟨b,o,hp,f _ _ _ (Ej hx) hq⟩
structure EG (B B':Nat) (w w':Bb):Prop where
 le:B<=B'
 cell: ∀ b o,b<B->w'.cell? (zm b o)=w.cell? (zm b o)
def Below.cy (h:Below B w w')(hB:B<=B'):EG B B' w w':=⟨hB,fun b o hb=>h.cell (p:=(zm b o)) hb⟩
def EG.up (h:B<=B'):EG B B' w w:=⟨h,fun _ _ _=>rfl⟩
def wz.imp {Q Q':Nat->Nat->T->Prop}{kv iv tv lv:Value}{x:T}(h:wz Q kv iv tv lv x)(f: ∀ b o y,Q b o y->Q' b o y):wz Q' kv iv tv lv x:=
 ⟨h.k,h.i,h.t,h.kr,h.ir,h.tr,h.l.imp fun b o x _=>f b o x⟩
def He.cy (c:EG B B' w w'): ∀ {d d' b o x},d<=d'->He B w d b o x->He B' w' d' b o x:=by
 intro d;induction d with
 | zero=>intro d' b o x _ h;exact h.elim
 | succ d ih=>
  intro d' b o x hd h;obtain⟨hb,lv,h0,h1,h2,h3,h4⟩:=h;obtain⟨d',rfl⟩: ∃ e,d'=e+1:=⟨d'-1,zx⟩;have cc:=fun o=>c.cell b o hb.1;exact⟨⟨BK hb.1 c.le,hb.2⟩,lv,by rw[cc];exact h0,by rw[cc];exact h1,by rw[cc];exact h2,by rw[cc];exact h3,h4.imp fun b o y=>ih zx⟩
section
variable {B B':Nat} {w w':Bb} {d d' b o:Nat}
def rG.cy {xs:List T}(c:EG B B' w w')(hd:d<=d')(h:rG B w d v xs):rG B' w' d' v xs:=h.imp fun _ _ _ _=>He.cy c hd
def Ep.cy {x:A}(c:EG B B' w w')(hd:d<=d')(h:Ep B w d b o x):Ep B' w' d' b o x:=by
 obtain⟨hb,h1,h2,v,h3,h4⟩:=h;exact⟨BK hb c.le,by rw[c.cell _ _ hb];exact h1,h2,v,by rw[c.cell _ _ hb];exact h3,h4.cy c hd⟩
def kT.cy {xs:List A}(c:EG B B' w w')(hd:d<=d')(h:kT B w d v xs):kT B' w' d' v xs:=h.imp fun _ _ _ _=>Ep.cy c hd
def QK.cy {x:G}(c:EG B B' w w')(hd:d<=d')(h:QK B w d b o x):QK B' w' d' b o x:=by
 obtain⟨hb,h1,h2,h3,h4⟩:=h;exact⟨BK hb c.le,by rw[c.cell _ _ hb];exact h1,h2,h3.cy c hd,h4.cy c hd⟩
def pX.cy {xs:List G}(c:EG B B' w w')(hd:d<=d')(h:pX B w d v xs):pX B' w' d' v xs:=h.imp fun _ _ _ _=>QK.cy c hd
def FJ.cy {x:R}(c:EG B B' w w')(hd:d<=d')(h:FJ B w d b o x):FJ B' w' d' b o x:=by
 obtain⟨hb,h1,⟨v,h2,h3⟩,u,h4,h5⟩:=h;exact⟨BK hb c.le,h1.cy c hd,⟨v,by rw[c.cell _ _ hb];exact h2,h3.cy c hd⟩,u,by rw[c.cell _ _ hb];exact h4,h5.cy c hd⟩
def fF.cy {xs:List R}(c:EG B B' w w')(hd:d<=d')(h:fF B w d v xs):fF B' w' d' v xs:=h.imp fun _ _ _ _=>FJ.cy c hd
def Rw.cy {x:List R}(c:EG B B' w w')(hd:d<=d')(h:Rw B w d b o x):Rw B' w' d' b o x:=by
 obtain⟨hb,v,h2,h3⟩:=h;exact⟨BK hb c.le,v,by rw[c.cell _ _ hb];exact h2,h3.cy c hd⟩
def pY.cy {xs:List (List R)}(c:EG B B' w w')(hd:d<=d')(h:pY B w d v xs):pY B' w' d' v xs:=h.imp fun _ _ _ _=>Rw.cy c hd
def Jh.cy {x:Dk}(c:EG B B' w w')(hd:d<=d')(h:Jh B w d b o x):Jh B' w' d' b o x:=by
 obtain⟨hb,h1,v,h2,h3⟩:=h;exact⟨BK hb c.le,by rw[c.cell _ _ hb];exact h1,v,by rw[c.cell _ _ hb];exact h2,h3.cy c hd⟩
def Iz.cy {x:Bk}(c:EG B B' w w')(hd:d<=d')(h:Iz B w d b o x):Iz B' w' d' b o x:=by
 obtain⟨hb,⟨v,h2,h3⟩,⟨u,h4,h5⟩,q,h6,h7⟩:=h;exact⟨BK hb c.le,⟨v,by rw[c.cell _ _ hb];exact h2,h3.cy c hd⟩,⟨u,by rw[c.cell _ _ hb];exact h4,h5.cy c hd⟩,q,by rw[c.cell _ _ hb];exact h6,h7.cy c hd⟩
end
def Ap.get {α:Type}{Q:Nat->Nat->α->Prop}{p:Bp}{xs:List α}(h:Ap s Q p xs)(i:Nat)(hi:i<xs.length): ∃ b o,p=some (zm b o)/\Q b (o+i*s) xs[i]:=h.at_ i xs[i]<|A8 hi
end
variable {P:Program}{w:Bb}{t e:TypeId}{size bytes:Nat}{ops:Array Oper}{rest:List Oper}{o:Oper}{a:Act}{Q:Exit->Act->Bb->Prop}
def J3 (P:Program) (t e:TypeId) (size bytes:Nat):Prop:=
 ∃ i z,P.underlying t=some (.slice e)/\P.info? e=some i/\i.zero=some z/\i.size=size/\i.bytes=bytes/\z.cells.size=size/\0<size/\bytes<=1000
structure qQ (w w1:Bb) (B:Nat) (e:TypeId) (size:Nat) (v:Value) (g cap n:Nat) (xs:Bu):Prop where
 own:w1.ownsRow B e size (sP (Qb g 0) n cap) n xs
 grown:w.grownBy w1 v.ownBlock
 spot:v.ownBlock=some g\/g=w.heap.size
 lt:g<w1.heap.size
def Z1w (E:J3 P t e size bytes)(hgd:o.guard=none)(s x:Operand)
  (ho:o.op= .call {callee:= .builtin .append,args:=#[s,x],argTypes:=#[t,t]}) (B:Nat) (v:Value) (n:Nat) (xs:Bu) (hs:a.eval s=v) (hown:w.ownsRow B e size v n xs)
  (b:Nat) (cs:Ca) (et:TypeId) (fr:Nat×Nat) (hx:a.eval x= sP (Qb b 0) 1 1) (hblk:w.heap[b]?=some (.cells cs et fr)) (hcs:cs.size=size) (h1: ∀ u∈cs.toList,u.oneCell'=true)
  (hn:n<1000000000) (hB:B<=w.heap.size)
  (h: ∀ g cap w1,qQ w w1 B e size v g cap (n+1) (xs++cs.toList)->wpList P ops Q rest (a.put o.dst<|sP (Qb g 0) (n+1) cap) w1):wpList P ops Q (o::rest) a w:=by
 obtain⟨i,z,ht,hi,hz,hsize,hby,hzs,hsz,G4⟩:=E;have hbytes:(n+1)*bytes<=140737488355328:=by
  have h:(n+1)*bytes<=1000000000*1000:=Nat.mul_le_mul zx G4;omega
 exact wpList_append_lies w hgd s x t ho B e i z size bytes ht hi hz hsize hby hzs hsz v n xs hs hown (zm b 0) 1 1 cs.toList hx (by simp[hcs]) (World.news_of_block hblk) h1 zx (by unfold maxLen;omega) hbytes hB _ rfl
  fun g cap w1 h2 h3 h4 h5=>h g cap w1 ⟨h2,h3,h4,h5⟩
def Yav (E:J3 P t e size bytes){K:Act->Bb->Prop}{F:Prop}(hgd:o.guard=none)(s x:Operand)
  (ho:o.op= .call {callee:= .builtin .append,args:=#[s,x],argTypes:=#[t,t]}) (B:Nat) (v:Value) (n:Nat) (xs:Bu) (hs:a.eval s=v) (hown:w.ownsRow B e size v n xs)
  (b:Nat) (cs:Ca) (et:TypeId) (fr:Nat×Nat) (hx:a.eval x= sP (Qb b 0) 1 1) (hblk:w.heap[b]?=some (.cells cs et fr)) (hcs:cs.size=size) (h1: ∀ u∈cs.toList,u.oneCell'=true)
  (hn:n<1000000000) (hB:B<=w.heap.size)
  (h: ∀ g cap w1,qQ w w1 B e size v g cap (n+1) (xs++cs.toList)->K (a.put o.dst<|sP (Qb g 0) (n+1) cap) w1):
  if Region.wanted o (yielded ops a.tmps)=true then Oper.wp P o a w K Q else F:=by
 obtain⟨i,z,ht,hi,hz,hsize,hby,hzs,hsz,G4⟩:=E;have hbytes:(n+1)*bytes<=140737488355328:=by
  have h:(n+1)*bytes<=1000000000*1000:=Nat.mul_le_mul zx G4;omega
 exact step_append_lies w hgd s x t ho B e i z size bytes ht hi hz hsize hby hzs hsz v n xs hs hown (zm b 0) 1 1 cs.toList hx (by simp[hcs]) (World.news_of_block hblk) h1 zx (by unfold maxLen;omega) hbytes hB _ rfl
  fun g cap w1 h2 h3 h4 h5=>h g cap w1 ⟨h2,h3,h4,h5⟩
def Yov (E:J3 P t e size bytes)(hgd:o.guard=none)(s x:Operand)
  (ho:o.op= .call {callee:= .builtin .append,args:=#[s,x],argTypes:=#[t,t]}) (B:Nat) (v:Value) (n:Nat) (xs:Bu) (hs:a.eval s=v) (hown:w.ownsRow B e size v n xs)
  (ad:Addr) (m c:Nat) (news:Bu) (hx:a.eval x= sP (some ad) m c) (hl:news.length=m*size) (hnews: ∀ j u,news[j]?=some u->w.cell? (ad.add j)=some u) (h1: ∀ u∈news,u.oneCell'=true)
  (hm:0<m) (hn:n+m<1000000000) (hB:B<=w.heap.size)
  (h: ∀ g cap w1,qQ w w1 B e size v g cap (n+m) (xs++news)->wpList P ops Q rest (a.put o.dst<|sP (Qb g 0) (n+m) cap) w1):wpList P ops Q (o::rest) a w:=by
 obtain⟨i,z,ht,hi,hz,hsize,hby,hzs,hsz,G4⟩:=E;have hbytes:(n+m)*bytes<=140737488355328:=by
  have h:(n+m)*bytes<=1000000000*1000:=Nat.mul_le_mul zx G4;omega
 exact wpList_append_lies w hgd s x t ho B e i z size bytes ht hi hz hsize hby hzs hsz v n xs hs hown ad m c news hx hl hnews h1 hm (by unfold maxLen;omega) hbytes hB _ rfl
  fun g cap w1 h2 h3 h4 h5=>h g cap w1 ⟨h2,h3,h4,h5⟩
def qQ.be {w1 w0:Bb}{B:Nat}{v:Value}{g cap n m:Nat}{xs ys:Bu}(h:qQ w w1 B e size v g cap n xs)(hown:w.ownsRow B e size v m ys)(hb:Below B w0 w)(hB:B<=w.heap.size):Below B w0 w1:=
 hb.grown h.grown hB fun k hk=>(hown.lt k hk).1
def Hw (w:Bb)(o:Obj):(w.alloc o).heap[w.heap.size]?=some o:=heap_alloc_new w o
def Ac (s:Ay):Cg:=s.data.toList.map UInt8.toNat
def wN (s:Ay):(Ac s).length=s.size:=by simp[Ac]
def Zu0 (s:Ay): ∀ i,(Ac s).getD i 0<256:=by
 intro i;simp only[Ac,xr,FK];cases s.data.toList[i]? with
 | none=>simp
 | some b=>simpa using b.toNat_lt
def Ynk {P:Program}{w:Bb}{t:TypeId}{ops:Array Oper}{rest:List Oper}{o:Oper}{a:Act}{Q:Exit->Act->Bb->Prop}(hgd:o.guard=none)(s x:Operand)
  (ho:o.op= .call {callee:= .builtin .append,args:=#[s,x],argTypes:=#[t,t]}) (v y:Value) (hs:a.eval s=v) (hx:a.eval x=y) (v1:Value) (w1:Bb)
  (hr:(Builtin.append_ #[t,t] o.type #[v,y]).run P w= .ok v1 w1) (h:wpList P ops Q rest (a.put o.dst v1) w1):wpList P ops Q (o::rest) a w:=by
 refine wpList_plain hgd fun _ hK=>?_;unfold Oper.wp execOp;simp only[ho,resolve,invoke,builtin,Uz,Sem.run_pure,Vs,List.map_toArray,xp,List.map_nil,hs,hx,hr];exact hK _ _ h
def G9 (c:Nat):Bool:=decide (48<=c) && decide (c<=57)
def SF (c:Nat):Bool:=decide (97<=c) && decide (c<=122)
def Gj (c:Nat):Bool:=SF c || G9 c || decide (c=95)
def YG (bs:Cg) (i:Nat):Bool:=SF (bs.getD i 0) || (decide (i≠0) && (G9 (bs.getD i 0) || decide (bs.getD i 0=95)))
def IR (t:Ay):Bool:=decide (∀ i,i<t.size->YG (Ac t) i=true) && decide (1<=t.size) && decide (t.size<=16)
def EU {α:Type} (f:α->Int):List α->Int
 | []=>0
 | x::r=>if f x≠0 then f x else EU f r
def Z9e (t:T):Bool:=decide<|t.k=1
def b1 (n:Nat):Ay:=⟨#[UInt8.ofNat n]⟩
def cat {α:Type} (f:α->Ay):List α->Ay
 | []=>ByteArray.empty
 | x::r=>f x++cat f r
def Nh:Nat->Nat->Ay
 | 0,n=>b1 n
 | f+1,n=>if 128<=n then b1 (n % 128+128)++Nh f (n / 128)else b1 n
def Do (n:Nat):Ay:=Nh 10 n
def Em (t:Ay):Ay:=Do t.size++t
def TJ (i:Int):Nat:=if i<0 then(-2*i-1).toNat else(2*i).toNat
mutual
def C8:T->Ay
 | .mk k i t l=>b1 (k % 256).toNat++(if k=2\/k=5 then Do (TJ i)else if k=6 then b1 (i % 256).toNat else if k=7 then Do l.length++rZ l else Em t)
def rZ:List T->Ay
 | []=>ByteArray.empty
 | x::r=>C8 x++rZ r
end
def Z3m (l:List T):rZ l=cat C8 l:=by
 induction l with
 | nil=>simp[rZ,cat]
 | cons x r ih=>simp[rZ,cat,ih]
def BO {α:Type} (f:α->Ay) (l:List α):Ay:=Do l.length++cat f l
def Z09 (x:T):C8 x=b1 (x.k % 256).toNat++(if x.k=2\/x.k=5 then Do (TJ x.i)else if x.k=6 then b1 (x.i % 256).toNat else if x.k=7 then BO C8 x.l else Em x.t):=by
 cases x;rw[C8,Z3m];rfl
def JI (a:A):Ay:=Em a.name++BO C8 a.te
def Tc (g:G):Ay:=b1 (g.op % 256).toNat++C8 g.a++C8 g.b
def Le (r:R):Ay:=BO JI r.body++BO Tc r.gu
def Ta (r:R):Ay:=JI r.head++Le r
def LM (b:Bk):Ay:=BO JI b.fa++BO Ta b.ru++BO (BO Le) b.ck
def MQ (op:Int):Ay:=
 if op=1 then⟨#[61,61]⟩else if op=2 then⟨#[33,61]⟩else if op=3 then⟨#[60]⟩else if op=4 then⟨#[60,61]⟩else if op=5 then⟨#[62]⟩else if op=6 then⟨#[62,61]⟩else if op=7 then⟨#[94,61]⟩else⟨#[]⟩
def jd (c:Nat):Bool:=decide (c=32) || decide (c=9) || decide (c=10) || decide (c=13)
def KX (c:Nat):Bool:=G9 c || (decide (97<=c) && decide (c<=102))
section
variable (bs:Cg)
def Sr (ok:Nat->Bool):Nat->Nat->Nat
 | 0,p=>p
 | f+1,p=>if p<bs.length/\ok (bs.getD p 0)=true then Sr ok f (p+1)else p
def DT (ok:Nat->Bool) (p:Nat):Nat:=Sr bs ok (bs.length-p) p
def VS:Nat->Nat->Nat
 | 0,p=>p
 | f+1,p=>if p<bs.length/\jd (bs.getD p 0)=true then VS f (p+1)
   else if p+1<bs.length/\bs.getD p 0=47/\bs.getD (p+1) 0=47 then VS f (DT bs (fun c=>decide (c≠10)) p)else p
def Nn (p:Nat):Nat:=VS bs (bs.length-p) p
end
section
variable (t:Ay)
def Rx:List Ay:=[⟨#[60,45]⟩,⟨#[60,61]⟩,⟨#[62,61]⟩,⟨#[61,61]⟩,⟨#[33,61]⟩,⟨#[94,61]⟩,⟨#[60]⟩,⟨#[62]⟩,⟨#[40]⟩,⟨#[41]⟩,⟨#[91]⟩,⟨#[93]⟩,⟨#[44]⟩,⟨#[59]⟩]
end
variable {a b c d v:Value}{w':Bb}{B B':Nat}{F:Cg}{x:T}
def AO (w:Bb) (L:Nat) (cs:Ca) (e:TypeId):Prop:=w.heap[L]?=some (.cells cs e (0,0))
section
variable {w w':Bb} {L:Nat} {cs:Ca} {e:TypeId}
def AO.lt (h:AO w L cs e):L<w.heap.size:=(PN.1 h).1
def AO.cell (h:AO w L cs e)(j:Nat):w.cell? (zm L j)=cs[j]?:=cell_of_row w L j cs e (0,0) h
def AO.soft (h:AO w L cs e)(j:Nat):w.frozen? (zm L j)=false:=by
 unfold AO at h;simp[World.frozen?,h]
def AO.of (h:AO w L cs e)(k:w'.heap[L]?=w.heap[L]?):AO w' L cs e:=k.trans h
def AO.set (h:AO w L cs e)(j:Nat)(v:Value):AO (w.setCell (zm L j) v) L (cs.setIfInBounds j v) e:=heap_setCell_same w L j cs e v h
def AO.away (h:AO w L cs e)(b o:Nat)(hne:L≠b)(v:Value):AO (w.setCell (zm b o) v) L cs e:=h.of<|Aw w _ v L hne
def AO.alloc (h:AO w L cs e)(o:Obj):AO (w.alloc o) L cs e:=h.of<|Ah w o L h.lt
def AO.new (w:Bb)(cs:Ca)(e:TypeId):AO (w.alloc<|.cells cs e) w.heap.size cs e:=heap_alloc_new w _
def AO.one (h:AO w L #[a] e):w.cell? (zm L 0)=some a/\ ∀ j,w.frozen? (zm L j)=false:=⟨h.cell 0,h.soft⟩
def AO.two (h:AO w L #[a,b] e):w.cell? (zm L 0)=some a/\w.cell? (zm L 1)=some b/\ ∀ j,w.frozen? (zm L j)=false:=⟨h.cell 0,h.cell 1,h.soft⟩
def AO.three (h:AO w L #[a,b,c] e):w.cell? (zm L 0)=some a/\w.cell? (zm L 1)=some b/\w.cell? (zm L 2)=some c/\ ∀ j,w.frozen? (zm L j)=false:=⟨h.cell 0,h.cell 1,h.cell 2,h.soft⟩
def AO.four (h:AO w L #[a,b,c,d] e):w.cell? (zm L 0)=some a/\w.cell? (zm L 1)=some b/\w.cell? (zm L 2)=some c/\w.cell? (zm L 3)=some d/\ ∀ j,w.frozen? (zm L j)=false:=⟨h.cell 0,h.cell 1,h.cell 2,h.cell 3,h.soft⟩
def AO.nine {e1 f g i j:Value}(h:AO w L #[a,b,c,d,e1,f,g,i,j] e):w.cell? (zm L 0)=some a/\w.cell? (zm L 1)=some b/\w.cell? (zm L 2)=some c/\w.cell? (zm L 3)=some d/\w.cell? (zm L 4)=some e1/\w.cell? (zm L 5)=some f/\w.cell? (zm L 6)=some g/\w.cell? (zm L 7)=some i/\w.cell? (zm L 8)=some j/\ ∀ j,w.frozen? (zm L j)=false:=
 ⟨h.cell 0,h.cell 1,h.cell 2,h.cell 3,h.cell 4,h.cell 5,h.cell 6,h.cell 7,h.cell 8,h.soft⟩
def AO.dr (h:AO w L cs e)(n:Nat):AO (w.drewN n) L cs e:=h
end
structure U2 where
 term:TypeId
 atom:TypeId
 guard:TypeId
 rule:TypeId
 check:TypeId
 pol:TypeId
abbrev Du (α:Type):=Bb->Bu->α->Cg->Prop
def Ii {α:Type} (Q:Du α):Prop:= ∀ w w' vs x F,Q w vs x F->(∀ k,k∈F->w'.heap[k]?=w.heap[k]?)->Q w' vs x F
def AQ {α:Type} (e:TypeId) (s:Nat) (Q:Du α) (w:Bb) (v:Value) (xs:List α) (F:Cg):Prop:=
 ∃ zs:List (List Value×α×Cg),w.ownsRow 0 e s v zs.length (zs.map (·.1)).flatten/\(∀ z,z∈zs->z.1.length=s/\Q w z.1 z.2.1 z.2.2)/\xs=zs.map (·.2.1)/\F=v.ownBlock.toList++(zs.map (·.2.2)).flatten/\zs.length<1000000000
section
variable {α:Type} {e:TypeId} {s:Nat} {Q:Du α} {w w':Bb} {v:Value} {xs:List α} {F:Cg}
def AQ.nil:AQ e s Q w (zn) [] []:=⟨[],World.ownsRow_nil w 0 e s,fun _ h=>(by cases h),rfl,rfl,zw⟩
def AQ.len (h:AQ e s Q w v xs F):xs.length<1000000000:=by
 obtain⟨zs,_,_,rfl,_,h⟩:=h;simpa using h
def AQ.form (h:AQ e s Q w v xs F): ∃ p cap,v= sP p xs.length cap:=by
 obtain⟨zs,ho,_,rfl,_,_⟩:=h;rcases ho.2 with⟨rfl,h0⟩ | ⟨g,cap,cur,rfl,_⟩
 .exact⟨none,0,by simp[h0]⟩
 .exact⟨some (zm g 0),cap,zw⟩
def AQ.one (h:AQ e s Q w v xs F):v.oneCell'=true:=by
 obtain⟨p,cap,rfl⟩:=h.form;rfl
def Zt6 {n:Nat}{vs:Bu}(h:w.ownsRow B e s v n vs)(hb: ∀ k,v.ownBlock=some k->w'.heap[k]?=w.heap[k]?):w'.ownsRow B e s v n vs:=by
 refine⟨h.1,?_⟩;rcases h.2 with h2 | ⟨g,cap,cur,rfl,h1,h2,h3⟩
 .exact .inl h2
 .exact .inr ⟨g,cap,cur,rfl,h1,by rw[hb g rfl];exact h2,h3⟩
def AQ.keep {Q':Du α}(h:AQ e s Q w v xs F)(hb: ∀ k,k∈F->w'.heap[k]?=w.heap[k]?)(f: ∀ vs x G,(∀ k,k∈G->k∈F)->x∈xs->Q w vs x G->Q' w' vs x G):AQ e s Q' w' v xs F:=by
 obtain⟨zs,ho,hz,rfl,rfl,hl⟩:=h;refine⟨zs,Zt6 ho fun k hk=>hb k (by simp[hk]),fun z hm=>⟨(hz z hm).1,f _ _ _ (fun k hk=>?_) (List.mem_map.2 ⟨z,hm,rfl⟩) (hz z hm).2⟩,rfl,rfl,hl⟩;exact Vq _<|List.mem_flatten.2 ⟨z.2.2,List.mem_map.2 ⟨z,hm,rfl⟩,hk⟩
def AQ.sb (hQ:Ii Q): ∀ w w' v xs F,AQ e s Q w v xs F->(∀ k,k∈F->w'.heap[k]?=w.heap[k]?)->AQ e s Q w' v xs F:=by
 intro w w' v xs F h hb;exact h.keep hb fun vs x G hG _ hq=>hQ w w' vs x G hq fun k hk=>hb k (hG k hk)
end
structure Ag (B:Nat) (w:Bb) (F:Cg):Prop where
 once:F.Nodup
 ge: ∀ k,k∈F->B<=k
 lt: ∀ k,k∈F->k<w.heap.size
def Ag.nil (B:Nat)(w:Bb):Ag B w []:=⟨List.nodup_nil,fun _ h=>(by cases h),fun _ h=>(by cases h)⟩
def Ag.la (h:Ag B w F)(hB:B'<=B)(hs:w.heap.size<=w'.heap.size):Ag B' w' F:=⟨h.once,fun k hk=>Ab hB (h.ge k hk),fun k hk=>BK (h.lt k hk) hs⟩
def Ag.append {G:Cg}(h:Ag B w F)(k:Ag B' w' G)(hB:B<=B')(hs:w.heap.size<=B')(hw:w.heap.size<=w'.heap.size):Ag B w' (F++G):=
 ⟨Mc.2 ⟨h.once,k.once,fun a ha b hb e=>by have:=h.lt a ha;have:=k.ge b hb;omega⟩,
  fun a ha=>(Aj.1 ha).elim (h.ge a) fun q=>Ab hB (k.ge a q),fun a ha=>(Aj.1 ha).elim (fun q=>BK (h.lt a q) hw) (k.lt a)⟩
section
variable (ty:U2)
def BQ:Nat->Du T
 | 0=>fun _ _ _ _=>False
 | d+1=>fun w vs x F=> ∃ lv,vs=[zo x.k,zo x.i,.string x.t,lv]/\Gq x.k/\Gq x.i/\x.t.size<1000000000/\AQ ty.term 4 (BQ d) w lv x.l F
def ZM (d:Nat):Bb->Value->List T->Cg->Prop:=AQ ty.term 4<|BQ ty d
def Bz (d:Nat):Du A:=fun w vs x F=> ∃ tv,vs=[um x.name,tv]/\x.name.size<1000000000/\ZM ty d w tv x.te F
def PG (d:Nat):Bb->Value->List A->Cg->Prop:=AQ ty.atom 2<|Bz ty d
def Eo (d:Nat):Du G:=fun w vs x F=> ∃ va vb Fa Fb,vs= zo x.op::(va++vb)/\Gq x.op/\BQ ty d w va x.a Fa/\BQ ty d w vb x.b Fb/\F=Fa++Fb
def Wl (d:Nat):Bb->Value->List G->Cg->Prop:=AQ ty.guard 9<|Eo ty d
def DI (d:Nat):Du R:=fun w vs x F=> ∃ hv bv gv Fh Fb Fg,vs=hv++[bv,gv]/\Bz ty d w hv x.head Fh/\PG ty d w bv x.body Fb/\Wl ty d w gv x.gu Fg/\F=Fh++(Fb++Fg)
def VY (d:Nat):Bb->Value->List R->Cg->Prop:=AQ ty.rule 4<|DI ty d
def Ew (d:Nat):Du (List R):=fun w vs x F=> ∃ v,vs=[v]/\VY ty d w v x F
def bI (d:Nat):Bb->Value->List (List R)->Cg->Prop:=AQ ty.check 1<|Ew ty d
def DY (d:Nat):Du Dk:=fun w vs x F=> ∃ v,vs=[.bool x.allow,v]/\VY ty d w v x.either F
def Dx (d:Nat):Du Bk:=fun w vs x F=> ∃ fv rv cv F1 F2 F3,vs=[fv,rv,cv]/\PG ty d w fv x.fa F1/\VY ty d w rv x.ru F2/\bI ty d w cv x.ck F3/\F=F1++(F2++F3)
end
section
variable {ty:U2} {d d':Nat} {w w':Bb} {vs:Bu} {F:Cg}
def BQ.sb: ∀ d,Ii (BQ ty d):=by
 intro d;induction d with
 | zero=>intro w w' vs x F h;exact h.elim
 | succ d ih=>
  intro w w' vs x F h hb;obtain⟨lv,h1,h2,h3,h4,h5⟩:=h;exact⟨lv,h1,h2,h3,h4,AQ.sb ih _ _ _ _ _ h5 hb⟩
def ZM.sb {xs:List T}(h:ZM ty d w v xs F)(hb: ∀ k,k∈F->w'.heap[k]?=w.heap[k]?):ZM ty d w' v xs F:=AQ.sb (BQ.sb d) _ _ _ _ _ h hb
def Bz.sb (d:Nat):Ii (Bz ty d):=by
 intro w w' vs x F h hb;obtain⟨tv,h1,h2,h3⟩:=h;exact⟨tv,h1,h2,h3.sb hb⟩
def PG.sb {xs:List A}(h:PG ty d w v xs F)(hb: ∀ k,k∈F->w'.heap[k]?=w.heap[k]?):PG ty d w' v xs F:=AQ.sb (Bz.sb d) _ _ _ _ _ h hb
def Eo.sb (d:Nat):Ii (Eo ty d):=by
 intro w w' vs x F h hb;obtain⟨va,vb,Fa,Fb,h1,h2,h3,h4,rfl⟩:=h;exact⟨va,vb,Fa,Fb,h1,h2,BQ.sb d _ _ _ _ _ h3 fun k hk=>hb k (Md _ hk),BQ.sb d _ _ _ _ _ h4 fun k hk=>hb k (Vq _ hk),rfl⟩
def Wl.sb {xs:List G}(h:Wl ty d w v xs F)(hb: ∀ k,k∈F->w'.heap[k]?=w.heap[k]?):Wl ty d w' v xs F:=AQ.sb (Eo.sb d) _ _ _ _ _ h hb
def DI.sb (d:Nat):Ii (DI ty d):=by
 intro w w' vs x F h hb;obtain⟨hv,bv,gv,Fh,Fb,Fg,h1,h2,h3,h4,rfl⟩:=h;exact⟨hv,bv,gv,Fh,Fb,Fg,h1,Bz.sb d _ _ _ _ _ h2 fun k hk=>hb k (by simp[hk]),h3.sb fun k hk=>hb k (by simp[hk]),h4.sb fun k hk=>hb k (by simp[hk]),rfl⟩
def VY.sb {xs:List R}(h:VY ty d w v xs F)(hb: ∀ k,k∈F->w'.heap[k]?=w.heap[k]?):VY ty d w' v xs F:=AQ.sb (DI.sb d) _ _ _ _ _ h hb
def Ew.sb (d:Nat):Ii (Ew ty d):=by
 intro w w' vs x F h hb;obtain⟨v,h1,h2⟩:=h;exact⟨v,h1,h2.sb hb⟩
def bI.sb {xs:List (List R)}(h:bI ty d w v xs F)(hb: ∀ k,k∈F->w'.heap[k]?=w.heap[k]?):bI ty d w' v xs F:=AQ.sb (Ew.sb d) _ _ _ _ _ h hb
def DY.sb (d:Nat):Ii (DY ty d):=by
 intro w w' vs x F h hb;obtain⟨v,h1,h2⟩:=h;exact⟨v,h1,h2.sb hb⟩
def Dx.sb (d:Nat):Ii (Dx ty d):=by
 intro w w' vs x F h hb;obtain⟨fv,rv,cv,F1,F2,F3,h1,h2,h3,h4,rfl⟩:=h;exact⟨fv,rv,cv,F1,F2,F3,h1,h2.sb fun k hk=>hb k (by simp[hk]),h3.sb fun k hk=>hb k (by simp[hk]),h4.sb fun k hk=>hb k (by simp[hk]),rfl⟩
def BQ.len (h:BQ ty d w vs x F):vs.length=4:=by
 cases d with
 | zero=>exact h.elim
 | succ d=>obtain⟨lv,rfl,_⟩:=h;rfl
def BQ.one (h:BQ ty d w vs x F): ∀ u,u∈vs->u.oneCell'=true:=by
 cases d with
 | zero=>exact h.elim
 | succ d=>
  obtain⟨lv,rfl,_,_,_,h5⟩:=h
  have:=h5.one
  intro u hu;simp only[Ak,Lj,or_false]at hu;rcases hu with rfl | rfl | rfl | rfl <;> first | rfl | exact this
def Bz.one {x:A}(h:Bz ty d w vs x F): ∀ u,u∈vs->u.oneCell'=true:=by
 obtain⟨tv,rfl,_,h3⟩:=h
 have:=AQ.one h3
 intro u hu;simp only[Ak,Lj,or_false]at hu;rcases hu with rfl | rfl <;> first | rfl | exact this
def Eo.one {x:G}(h:Eo ty d w vs x F): ∀ u,u∈vs->u.oneCell'=true:=by
 obtain⟨va,vb,Fa,Fb,rfl,_,h3,h4,_⟩:=h;intro u hu;simp only[Ak,Aj]at hu;rcases hu with rfl | hu | hu
 .rfl
 .exact h3.one u hu
 .exact h4.one u hu
def DI.one {x:R}(h:DI ty d w vs x F): ∀ u,u∈vs->u.oneCell'=true:=by
 obtain⟨hv,bv,gv,Fh,Fb,Fg,rfl,h2,h3,h4,_⟩:=h;have a3:=AQ.one h3;have a4:=AQ.one h4;intro u hu;simp only[Aj,Ak,Lj,or_false]at hu;rcases hu with hu | rfl | rfl
 .exact h2.one u hu
 .exact a3
 .exact a4
def Ew.one {x:List R}(h:Ew ty d w vs x F): ∀ u,u∈vs->u.oneCell'=true:=by
 obtain⟨v,rfl,h2⟩:=h
 have:=AQ.one h2
 intro u hu;simp only[Ak,Lj,or_false]at hu;rw[hu];exact this
def DY.one {x:Dk}(h:DY ty d w vs x F): ∀ u,u∈vs->u.oneCell'=true:=by
 obtain⟨v,rfl,h2⟩:=h
 have:=AQ.one h2
 intro u hu;simp only[Ak,Lj,or_false]at hu;rcases hu with rfl | rfl
 .rfl
 .exact this
end
variable {d b o s:Nat}{vs:Bu}{x:A}
def Yf0 {α:Type}(s:Nat): ∀ (zs:List (List Value×α×Cg)) (_: ∀ z,z∈zs->z.1.length=s) (i:Nat) (z:Bu×α×Cg) (_:zs[i]?=some z) (j:Nat) (_:j<s),((zs.map (·.1)).flatten)[i*s+j]?=z.1[j]?:=by
 intro zs;induction zs with
 | nil=>intro _ i z hz;simp at hz
 | cons y r ih=>
  intro hl i z hz j hj;have hy:=hl y<|List.mem_cons_self ..;simp only[xp,List.flatten_cons];cases i with
  | zero=>
   simp at hz;subst hz;rw[YC,Gx,PK zx]
  | succ i=>
   rw[PL (by rw[Nat.succ_mul];omega),hy,show(i+1)*s+j-s=i*s+j from by rw[Nat.succ_mul];omega];exact ih (fun z hz=>hl z (wj _ hz)) i z (by simpa using hz) j hj
section
variable {α:Type} {e:TypeId} {s:Nat} {Q:Du α} {w w':Bb} {v:Value} {xs:List α} {F:Cg}
def AQ.rowOf {Q':Nat->Nat->α->Prop}(h:AQ e s Q w v xs F)(hF: ∀ k,k∈F->k<B)
  (f: ∀ b o vs x G,(∀ j,j<s->w.cell? (zm b (o+j))=vs[j]?)->b<B->(∀ k,k∈G->k<B)->Q w vs x G->Q' b o x):Qi s Q' v xs:=by
 obtain⟨zs,ho,hz,rfl,rfl,hl⟩:=h;rcases ho.2 with⟨rfl,h0⟩ | ⟨g,cap,cur,rfl,_,hg,hle,_⟩
 .have:zs=[]:=List.length_eq_zero_iff.1 h0
  subst this;exact⟨none,0,rfl,EO _,zw,fun i x hx=>by simp at hx⟩
 .refine⟨some (zm g 0),cap,zw,by simpa using hle,by simpa using hl,fun i x hx=>?_⟩;rw[FK]at hx;obtain⟨z,dC,rfl⟩:=QP.1 hx;have hm:=Ej dC;have hi:=(DW.1 dC).1;refine⟨g,0,rfl,f g (0+i*s) z.1 z.2.1 z.2.2 (fun j hj=>?_) (hF g (by simp[Value.ownBlock])) (fun k hk=>hF k (Vq _<|List.mem_flatten.2 ⟨z.2.2,List.mem_map.2 ⟨z,hm,rfl⟩,hk⟩)) (hz z hm).2⟩;have hb:i*s+j<zs.length*s:=by
   have:(i+1)*s<=zs.length*s:=Nat.mul_le_mul_right s zx
   rw[Nat.succ_mul]at this;omega
  rw[Gx,ho.cellAt (i*s+j) hb];exact Yf0 s zs (fun z J9=>(hz z J9).1) i z dC j hj
end
section
variable {ty:U2} {w:Bb} {B:Nat}
def BQ.at_: ∀ {d:Nat} {vs x F b o},BQ ty d w vs x F->(∀ k,k∈F->k<B)->b<B->(∀ j,j<4->w.cell? (zm b (o+j))=vs[j]?)->He B w d b o x:=by
 intro d;induction d with
 | zero=>intro vs x F b o h;exact h.elim
 | succ d ih=>
  intro vs x F b o h hF hb hc;obtain⟨lv,rfl,h2,h3,h4,h5⟩:=h;exact⟨⟨hb,trivial⟩,lv,hc 0 zx,hc 1 zx,hc 2 zx,hc 3 zx,rfl,rfl,rfl,h2,h3,h4,h5.rowOf hF fun _ _ _ _ _ hcc G4 hG q=>ih q hG G4 hcc⟩
def ZM.Ll {xs:List T}(h:ZM ty d w v xs F)(hF: ∀ k,k∈F->k<B):rG B w d v xs:=
 AQ.rowOf h hF fun _ _ _ _ _ hcc G4 hG q=>BQ.at_ q hG G4 hcc
def Bz.at_ (h:Bz ty d w vs x F)(hF: ∀ k,k∈F->k<B)(hb:b<B)(hc: ∀ j,j<2->w.cell? (zm b (o+j))=vs[j]?):Ep B w d b o x:=by
 obtain⟨tv,rfl,h2,h3⟩:=h;exact⟨hb,hc 0 zx,h2,tv,hc 1 zx,h3.Ll hF⟩
def PG.Ll {xs:List A}(h:PG ty d w v xs F)(hF: ∀ k,k∈F->k<B):kT B w d v xs:=
 AQ.rowOf h hF fun _ _ _ _ _ hcc G4 hG q=>Bz.at_ q hG G4 hcc
def Eo.at_ {x:G}(h:Eo ty d w vs x F)(hF: ∀ k,k∈F->k<B)(hb:b<B)(hc: ∀ j,j<9->w.cell? (zm b (o+j))=vs[j]?):QK B w d b o x:=by
 obtain⟨va,vb,Fa,Fb,rfl,h2,h3,h4,rfl⟩:=h;have la:=h3.len;have lb:=h4.len;refine⟨hb,hc 0 zx,h2,h3.at_ (fun k hk=>hF k (by simp[hk])) hb fun j hj=>?_,h4.at_ (fun k hk=>hF k (by simp[hk])) hb fun j hj=>?_⟩
 .rw[show o+1+j=o+(1+j)from zx,hc (1+j) zx,show 1+j=j+1 from zx,List.getElem?_cons_succ,PK zx]
 .rw[show o+5+j=o+(5+j)from zx,hc (5+j) zx,show 5+j=4+j+1 from zx,List.getElem?_cons_succ,PL zx,la,show 4+j-4=j from zx]
def Wl.Ll {xs:List G}(h:Wl ty d w v xs F)(hF: ∀ k,k∈F->k<B):pX B w d v xs:=
 AQ.rowOf h hF fun _ _ _ _ _ hcc G4 hG q=>Eo.at_ q hG G4 hcc
def Bz.len (h:Bz ty d w vs x F):vs.length=2:=by
 obtain⟨tv,rfl,_⟩:=h;rfl
def DI.at_ {x:R}(h:DI ty d w vs x F)(hF: ∀ k,k∈F->k<B)(hb:b<B)(hc: ∀ j,j<4->w.cell? (zm b (o+j))=vs[j]?):FJ B w d b o x:=by
 obtain⟨hv,bv,gv,Fh,Fb,Fg,rfl,h2,h3,h4,rfl⟩:=h;have lh:=h2.len;refine⟨hb,h2.at_ (fun k hk=>hF k (by simp[hk])) hb fun j hj=>?_,⟨bv,?_,h3.Ll fun k hk=>hF k (by simp[hk])⟩,gv,?_,h4.Ll fun k hk=>hF k (by simp[hk])⟩
 .rw[hc j zx,PK zx]
 .rw[hc 2 zx,PL zx,lh];rfl
 .rw[hc 3 zx,PL zx,lh];rfl
def VY.Ll {xs:List R}(h:VY ty d w v xs F)(hF: ∀ k,k∈F->k<B):fF B w d v xs:=
 AQ.rowOf h hF fun _ _ _ _ _ hcc G4 hG q=>DI.at_ q hG G4 hcc
def Ew.at_ {x:List R}(h:Ew ty d w vs x F)(hF: ∀ k,k∈F->k<B)(hb:b<B)(hc: ∀ j,j<1->w.cell? (zm b (o+j))=vs[j]?):Rw B w d b o x:=by
 obtain⟨v,rfl,h2⟩:=h;exact⟨hb,v,hc 0 zx,h2.Ll hF⟩
def bI.Ll {xs:List (List R)}(h:bI ty d w v xs F)(hF: ∀ k,k∈F->k<B):pY B w d v xs:=
 AQ.rowOf h hF fun _ _ _ _ _ hcc G4 hG q=>Ew.at_ q hG G4 hcc
def DY.at_ {x:Dk}(h:DY ty d w vs x F)(hF: ∀ k,k∈F->k<B)(hb:b<B)(hc: ∀ j,j<2->w.cell? (zm b (o+j))=vs[j]?):Jh B w d b o x:=by
 obtain⟨v,rfl,h2⟩:=h;exact⟨hb,hc 0 zx,v,hc 1 zx,h2.Ll hF⟩
def Dx.at_ {x:Bk}(h:Dx ty d w vs x F)(hF: ∀ k,k∈F->k<B)(hb:b<B)(hc: ∀ j,j<3->w.cell? (zm b (o+j))=vs[j]?):Iz B w d b o x:=by
 obtain⟨fv,rv,cv,F1,F2,F3,rfl,h2,h3,h4,rfl⟩:=h;exact⟨hb,⟨fv,hc 0 zx,h2.Ll fun k hk=>hF k (by simp[hk])⟩,⟨rv,hc 1 zx,h3.Ll fun k hk=>hF k (by simp[hk])⟩,cv,hc 2 zx,h4.Ll fun k hk=>hF k (by simp[hk])⟩
end
structure O7 {α:Type} (e:TypeId) (s:Nat) (Q:Du α) (B:Nat) (w w1:Bb) (xs:List α) (F G:Cg) (y:α) (g cap:Nat) (F':Cg):Prop where
 row:AQ e s Q w1 (sP (Qb g 0) (xs.length+1) cap) (xs++[y]) F'
 new:Ag B w1 F'
 sub: ∀ k,k∈F'->k∈F\/k∈G\/w.heap.size<=k
 os:w1.os=w.os
 tape:w1.tape=w.tape
 output:w1.output=w.output
 size:w.heap.size<=w1.heap.size
 same: ∀ k,k<w.heap.size->k∉F->w1.heap[k]?=w.heap[k]?
def Z7q {α:Type}{Q:Du α}{w1:Bb}{zs:List (List Value×α×Cg)}{g cap:Nat}{cs:Ca}{y:α}{G:Cg}(hQ:Ii Q)
  (hz: ∀ z,z∈zs->z.1.length=s/\Q w z.1 z.2.1 z.2.2) (hcs:cs.size=s) (hq:Q w cs.toList y G) (hl:zs.length+1<1000000000)
  (nF:Ag B w (v.ownBlock.toList++(zs.map (·.2.2)).flatten)) (nG:Ag B w G) (hd: ∀ k,k∈v.ownBlock.toList++(zs.map (·.2.2)).flatten->k∉G) (hB:B<=w.heap.size)
  (ha:qQ w w1 0 e s v g cap (zs.length+1) ((zs.map (·.1)).flatten++cs.toList)):
  O7 e s Q B w w1 (zs.map (·.2.1)) (v.ownBlock.toList++(zs.map (·.2.2)).flatten) G y g cap (g::((zs.map (·.2.2)).flatten++G)):=by
 have H8: ∀ k,k<w.heap.size->some k≠v.ownBlock->w1.heap[k]?=w.heap[k]?:=fun k hk hn=>ha.grown.block k hk hn;have nd:=Mc.1 nF.once;have yN: ∀ k,k∈(zs.map (·.2.2)).flatten->k<w.heap.size/\some k≠v.ownBlock/\k≠g:=by
  intro k hk;have h1:=nF.lt k<|Vq _ hk;have h2:some k≠v.ownBlock:=fun q=>nd.2.2 k (by simp[<- q]) k hk rfl;refine⟨h1,h2,?_⟩;rcases ha.spot with hs | hs
  .rintro rfl;exact h2 hs.symm
  .omega
 have iV: ∀ k,k∈G->k<w.heap.size/\some k≠v.ownBlock/\k≠g:=by
  intro k hk;have h1:=nG.lt k hk;have h2:some k≠v.ownBlock:=fun q=>hd k (Md _ (by simp[<- q])) hk;refine⟨h1,h2,?_⟩;rcases ha.spot with hs | hs
  .rintro rfl;exact h2 hs.symm
  .omega
 refine⟨⟨zs++[(cs.toList,y,G)],?_,?_,zw,by simp[Value.ownBlock],by simpa using hl⟩,⟨?_,?_,?_⟩,?_,ha.grown.os,ha.grown.tape,ha.grown.output,ha.grown.size,?_⟩
 .have:=ha.own
  simpa using this
 .intro z hm;rcases Aj.1 hm with hm | hm
  .refine⟨(hz z hm).1,hQ _ _ _ _ _ (hz z hm).2 fun k hk=>?_⟩
   have:=yN k<|List.mem_flatten.2 ⟨z.2.2,List.mem_map.2 ⟨z,hm,rfl⟩,hk⟩
   exact H8 k this.1 this.2.1
  .rw[Bh.1 hm];exact⟨by simpa using hcs,hQ _ _ _ _ _ hq fun k hk=>H8 k (iV k hk).1 (iV k hk).2.1⟩
 .refine List.nodup_cons.2 ⟨fun hm=>?_,Mc.2 ⟨nd.2.1,nG.once,fun a ha' b hb q=>hd a (Vq _ ha') (q▸hb)⟩⟩;rcases Aj.1 hm with hm | hm
  .exact(yN g hm).2.2 rfl
  .exact(iV g hm).2.2 rfl
 .intro k hk;rcases Ak.1 hk with rfl | hk
  .rcases ha.spot with hs | hs
   .exact nF.ge k<|Md _ (by simp[hs])
   .omega
  .rcases Aj.1 hk with hk | hk
   .exact nF.ge k<|Vq _ hk
   .exact nG.ge k hk
 .intro k hk
  have:=ha.grown.size
  rcases Ak.1 hk with rfl | hk
  .exact ha.lt
  .rcases Aj.1 hk with hk | hk
   .exact BK (yN k hk).1 this
   .exact BK (iV k hk).1 this
 .intro k hk;rcases Ak.1 hk with rfl | hk
  .rcases ha.spot with hs | hs
   .exact Or.inl<|Md _ (by simp[hs])
   .exact Or.inr<|Or.inr zx
  .rcases Aj.1 hk with hk | hk
   .exact Or.inl<|Vq _ hk
   .exact Or.inr<|Or.inl hk
 .intro k hk hn;exact H8 k hk fun q=>hn (Md _ (by simp[<- q]))
def Nu {α:Type}{P:Program}{t:TypeId}{bytes:Nat}(E:J3 P t e s bytes){ops:Array Oper}{rest:List Oper}{o:Oper}{a:Act}{K:Exit->Act->Bb->Prop}(hgd:o.guard=none)(sl x:Operand)
  (ho:o.op= .call {callee:= .builtin .append,args:=#[sl,x],argTypes:=#[t,t]}) {Q:Du α} (hQ:Ii Q) (Bw: ∀ w vs x F,Q w vs x F-> ∀ u,u∈vs->u.oneCell'=true) (B:Nat) (v:Value) (xs:List α) (F:Cg) (hs:a.eval sl=v) (hrow:AQ e s Q w v xs F)
  (b:Nat) (cs:Ca) (et:TypeId) (fr:Nat×Nat) (y:α) (G:Cg) (hx:a.eval x= sP (Qb b 0) 1 1) (hblk:w.heap[b]?=some (.cells cs et fr)) (hcs:cs.size=s) (hq:Q w cs.toList y G)
  (hn:xs.length<100000000) (hB:B<=w.heap.size) (nF:Ag B w F) (nG:Ag B w G) (hd: ∀ k,k∈F->k∉G)
  (h: ∀ g cap w1 F',O7 e s Q B w w1 xs F G y g cap F'->wpList P ops K rest (a.put o.dst<|sP (Qb g 0) (xs.length+1) cap) w1):wpList P ops K (o::rest) a w:=by
 obtain⟨zs,hown,hz,rfl,rfl,hl⟩:=hrow;refine Z1w E hgd sl x ho 0 v zs.length _ hs hown b cs et fr hx hblk hcs (Bw w _ _ _ hq) (by simpa using hl) (Eg _) fun g cap w1 ha=>?_
 have:=Z7q (cs:=cs) (y:=y) (G:=G) hQ hz hcs hq (by simp at hn;omega) nF nG hd hB ha
 have h2:=h g cap w1 _ this;simpa using h2
def _root_.Go.ke {p:Prop}(h:p:=by first | kernel_rfl | exact fun _=>zt):p:=h
def Ns {a b:Bool}(h:a=b):Ending.returned (.bool a)=uY (.bool b):=by rw[h]
def Yai {k:IntKind}{a b:Int}(h:a=b):Ending.returned (.int k a)=uY (.int k b):=by rw[h]
def ZQ (t:Ay)(q:Nat)(h:q<t.size):(t[q]).toNat=(Ac t).getD q 0:=by
 simp only[Ac,xr,FK,Qq];rw[Array.getElem?_eq_getElem h];rfl
def gL (t:Ay):t.toList.length=t.size:=by rw[Nw];rfl
def jy {a b:Ay}(h:a.toList=b.toList):a=b:=by
 rw[Nw,Nw]at h;cases a;cases b;simp at h;simp[h]
def vo (a b:Ay):(a.toList==b.toList)=decide (a=b):=by
 by_cases h:a=b
 .subst h;simp
 .rw[I8 h,BJ];exact fun q=>h (jy q)
def X4 (t:Ay):(t.toList==[])=decide (t.size=0):=by
 rw[Nw];have h:t.size=t.data.toList.length:=rfl;rw[h];cases t.data.toList <;> simp
def Z9c (a b:Int):(a==b)=decide (a=b):=by
 rw[Bool.eq_iff_iff,DR,decide_eq_true_iff]
def Yc0 (n:Nat):((n:Int)=0)=(n=0):=zw
def wH (w:Bb)(t:Ay)(q:Nat):Bl w (w.iter t q):=(AR _ _).alloc lr _
def MW {B n:Nat}{a w:Bb}(h:Below B a w):Below B a (w.drewN n):=⟨h.os,h.tape,h.output,h.size,h.block⟩
def rA {α:Type}(f:α->Int){l:List α}{q:Nat}(h:q<l.length):EU f (l.drop q)=if f l[q]≠0 then f l[q]else EU f (l.drop<|q+1):=by
 rw[xH h,EU]
def EH {P:Program}{f:FuncId}{fn:Func}{c:Code}(hf:P.funcs[f]?=some fn)(hn:(fn.name== "runtime.NumGoroutine")=false)(hb:fn.body=some c)(args:Ca)(w:Bb):(callFunc f args).run P w= .ok (.enter f args) w:=by
 have h1:fn.name≠ "runtime.NumGoroutine" :=by simpa using hn
 simp[callFunc,hf,h1,hb]
end Go.W
set_option linter.unusedSectionVars false
namespace Go.W
section
variable {B d b o B':Nat}{w w':Bb}{x:T}{vs:Bu}
variable [Mem]
def pV (t:Ay):Bool:=Lib.validD t.data.toList
def UX (k i:Int) (t:Ay) (n:Nat) (named valid:Bool):Bool:=
 if k=1 then decide (i=0) && decide (n=0) && named else if k=3 then decide (i=0) && decide (n=0) && valid else if k=4 then decide (i=0) && decide (n=0)
 else if k=2\/k=5 then decide (t.size=0) && decide (n=0)else if k=6 then decide (t.size=0) && decide (n=0) && (decide (i=0) || decide (i=1))else if k=7 then decide (i=0) && decide (t.size=0)else false
def Ih (k i:Int) (t:Ay) (n:Nat):Bool:=UX k i t n (IR t)<|pV t
def Oc (d:Nat) (k i:Int) (t:Ay) (n:Nat):Int:=if Ih k i t n=false\/k=1/\0<d then 2 else if 64<t.size\/6<n then 4 else if k=7/\d=3 then 3 else 0
mutual
def BR (d:Nat):T->Int
 | .mk k i t l=>if Oc d k i t l.length≠0 then Oc d k i t l.length else bJ (d+1) l
def bJ (d:Nat):List T->Int
 | []=>0
 | x::r=>if BR d x≠0 then BR d x else bJ d r
end
def Zum (d:Nat)(l:List T):bJ d l=EU (BR d) l:=by
 induction l with
 | nil=>simp[bJ,EU]
 | cons x r ih=>simp[bJ,EU,ih]
def qd (d:Nat)(x:T):BR d x=if Oc d x.k x.i x.t x.l.length≠0 then Oc d x.k x.i x.t x.l.length else EU (BR<|d+1) x.l:=by
 cases x;rw[BR,Zum];rfl
def Ei {α:Type} (f:α->Int) (m:Nat) (l:List α):Int:=if m<l.length then 4 else EU f l
def FH (a:A):Int:=if IR a.name=false then 2 else Ei (BR 0) 6 a.te
def ET (l:List T) (body:List A):Bool:=l.all fun t=> !Z9e t || body.any fun a=>a.te.any fun x=>Z9e x && decide (x.t=t.t)
def PI (body:List A) (t:T):Int:=if BR 0 t≠0 then BR 0 t else if ET [t] body=false then 5 else 0
def QE (body:List A) (g:G):Int:=if g.op<1\/7<g.op then 2 else if PI body g.a≠0 then PI body g.a else PI body g.b
def JQ (r:R):Int:=if r.body.length=0/\r.gu.length=0 then 2 else if 4<r.body.length\/4<r.gu.length then 4 else if EU FH r.body≠0 then EU FH r.body else EU (QE r.body) r.gu
def TZ (r:R):Int:=if FH r.head≠0 then FH r.head else if JQ r≠0 then JQ r else if ET r.head.te r.body=false then 5 else 0
def SE (r:R):Int:=if r.head.name.size≠0\/0<r.head.te.length then 2 else JQ r
def J4 (l:List R):Int:=if l.length=0 then 2 else Ei SE 4 l
def Ul (a:A):Int:=if FH a≠0 then FH a else if ET a.te []=false then 5 else 0
def IU (b:Bk):Int:=if Ei Ul 24 b.fa≠0 then Ei Ul 24 b.fa else if Ei TZ 24 b.ru≠0 then Ei TZ 24 b.ru else Ei J4 24 b.ck
def gD (l:List Dk):Int:=Ei (fun p=>J4 p.either) 24 l
def MV:List Ay:=[MQ 1,MQ 2,MQ 3,MQ 4,MQ 5,MQ 6,MQ 7]
def xE:Cg:=[34,34,92,92,110,10,116,9,114,13]
def pU:Cg:=[0x6a09e667,0xbb67ae85,0x3c6ef372,0xa54ff53a,0x510e527f,0x9b05688c,0x1f83d9ab,0x5be0cd19]
def ZK:Cg:=[0x428a2f98,0x71374491,0xb5c0fbcf,0xe9b5dba5,0x3956c25b,0x59f111f1,0x923f82a4,0xab1c5ed5,0xd807aa98,0x12835b01,0x243185be,0x550c7dc3,0x72be5d74,0x80deb1fe,0x9bdc06a7,0xc19bf174,0xe49b69c1,0xefbe4786,0x0fc19dc6,0x240ca1cc,0x2de92c6f,0x4a7484aa,0x5cb0a9dc,0x76f988da,0x983e5152,0xa831c66d,0xb00327c8,0xbf597fc7,0xc6e00bf3,0xd5a79147,0x06ca6351,0x14292967,0x27b70a85,0x2e1b2138,0x4d2c6dfc,0x53380d13,0x650a7354,0x766a0abb,0x81c2c92e,0x92722c85,0xa2bfe8a1,0xa81a664b,0xc24b8b70,0xc76c51a3,0xd192e819,0xd6990624,0xf40e3585,0x106aa070,0x19a4c116,0x1e376c08,0x2748774c,0x34b0bcb5,0x391c0cb3,0x4ed8aa4a,0x5b9cca4f,0x682e6ff3,0x748f82ee,0x78a5636f,0x84c87814,0x8cc70208,0x90befffa,0xa4506ceb,0xbef9a3f7,0xc67178f2]
def Ed (B:Nat) (w:Bb) (d:Nat) (vs:Bu) (x:T):Prop:= ∃ p c,vs=[zo x.k,zo x.i,um x.t,sP p x.l.length c]/\x.t.size<1000000000/\Gq x.k/\Gq x.i/\x.l.length<=c/\Ap 4 (He B w d) p x.l
def Jz (B:Nat) (w:Bb) (d:Nat) (vs:Bu) (x:A):Prop:= ∃ p c,vs=[um x.name,sP p x.te.length c]/\x.name.size<1000000000/\x.te.length<=c/\Ap 4 (He B w<|d+1) p x.te
def TQ (B:Nat) (w:Bb) (d:Nat) (vs:Bu) (x:G):Prop:= ∃ va vb,vs= zo x.op::(va++vb)/\Gq x.op/\Ed B w d va x.a/\Ed B w d vb x.b
def Jy (B:Nat) (w:Bb) (d:Nat) (vs:Bu) (x:R):Prop:= ∃ va p c p' c',vs=va++[sP p x.body.length c,sP p' x.gu.length c']/\Jz B w d va x.head/\x.body.length<=c/\Ap 2 (Ep B w<|d+1) p x.body/\x.gu.length<=c'/\Ap 9 (QK B w<|d+1) p' x.gu
def Wi (B:Nat) (w:Bb) (d:Nat) (vs:Bu) (x:List R):Prop:= ∃ p c,vs=[sP p x.length c]/\x.length<=c/\Ap 4 (FJ B w<|d+1) p x
def kV (B:Nat) (w:Bb) (d:Nat) (vs:Bu) (x:Dk):Prop:= ∃ p c,vs=[.bool x.allow,sP p x.either.length c]/\x.either.length<=c/\Ap 4 (FJ B w<|d+1) p x.either
def EZ (B:Nat) (w:Bb) (d:Nat) (vs:Bu) (x:Bk):Prop:= ∃ p c p' c' p2 c2,vs=[sP p x.fa.length c,sP p' x.ru.length c',sP p2 x.ck.length c2]/\x.fa.length<=c/\Ap 2 (Ep B w<|d+1) p x.fa/\x.ru.length<=c'/\Ap 4 (FJ B w<|d+1) p' x.ru/\x.ck.length<=c2/\Ap 1 (Rw B w<|d+1) p2 x.ck
def He.vals (h:He B w (d+1) b o x):b<B/\ ∃ p c,w.cell? (zm b o)=some (zo x.k)/\w.cell? (zm b (o+1))=some (zo x.i)/\w.cell? (zm b (o+2))=some (um x.t)/\w.cell? (zm b (o+3))=some (sP p x.l.length c)/\Ed B w d [zo x.k,zo x.i,um x.t,sP p x.l.length c] x:=by
 obtain⟨hb,lv,c0,c1,c2,c3,hi⟩:=h;obtain⟨p,c,rfl,hc,hr⟩:=hi.l;exact⟨hb.1,p,c,c0,c1,c2,c3,p,c,rfl,hi.tr,hi.kr,hi.ir,hc,hr⟩
def Ap.cy {α:Type}{s:Nat}{Q Q':Nat->Nat->α->Prop}{p:Bp}{xs:List α}(h:Ap s Q p xs)(f: ∀ b o x,Q b o x->Q' b o x):Ap s Q' p xs:=
 ⟨h.len,fun i x hx=>by obtain⟨b,o,e,q⟩:=h.at_ i x hx;exact⟨b,o,e,f _ _ _ q⟩⟩
def Ed.cy (h:Ed B w d vs x)(c:EG B B' w w'):Ed B' w' d vs x:=by
 obtain⟨p,k,h0,h1,h2,h3,h4,h5⟩:=h;exact⟨p,k,h0,h1,h2,h3,h4,h5.cy fun _ _ _ q=>q.cy c lr⟩
def Jz.cy {x:A}(h:Jz B w d vs x)(c:EG B B' w w'):Jz B' w' d vs x:=by
 obtain⟨p,k,h0,h1,h2,h5⟩:=h;exact⟨p,k,h0,h1,h2,h5.cy fun _ _ _ q=>q.cy c lr⟩
def Ep.vals {x:A}(h:Ep B w (d+1) b o x):b<B/\ ∃ p c,w.cell? (zm b o)=some (um x.name)/\w.cell? (zm b (o+1))=some (sP p x.te.length c)/\Jz B w d [um x.name,sP p x.te.length c] x:=by
 obtain⟨hb,c0,hs,tv,c1,p,c,rfl,hc,hr⟩:=h;exact⟨hb,p,c,c0,c1,p,c,rfl,hs,hc,hr⟩
def QK.vals {x:G}(h:QK B w (d+1) b o x):b<B/\ ∃ p c p' c',w.cell? (zm b o)=some (zo x.op)/\w.cell? (zm b (o+1))=some (zo x.a.k)/\w.cell? (zm b (o+2))=some (zo x.a.i)/\w.cell? (zm b (o+3))=some (um x.a.t)/\w.cell? (zm b (o+4))=some (sP p x.a.l.length c)/\w.cell? (zm b (o+5))=some (zo x.b.k)/\w.cell? (zm b (o+6))=some (zo x.b.i)/\w.cell? (zm b (o+7))=some (um x.b.t)/\w.cell? (zm b (o+8))=some (sP p' x.b.l.length c')/\TQ B w d [zo x.op,zo x.a.k,zo x.a.i,um x.a.t,sP p x.a.l.length c,zo x.b.k,zo x.b.i,um x.b.t,sP p' x.b.l.length c'] x:=by
 obtain⟨hb,c0,ho,ha,hb2⟩:=h;obtain⟨_,p,c,a0,a1,a2,a3,sa⟩:=ha.vals;obtain⟨_,p',c',b0,b1,b2,b3,sb⟩:=hb2.vals;exact⟨hb,p,c,p',c',c0,a0,a1,a2,a3,b0,b1,b2,b3,_,_,rfl,ho,sa,sb⟩
def FJ.vals {x:R}(h:FJ B w (d+1) b o x):b<B/\ ∃ p c p' c' p2 c2,w.cell? (zm b o)=some (um x.head.name)/\w.cell? (zm b (o+1))=some (sP p x.head.te.length c)/\w.cell? (zm b (o+2))=some (sP p' x.body.length c')/\w.cell? (zm b (o+3))=some (sP p2 x.gu.length c2)/\Jy B w d [um x.head.name,sP p x.head.te.length c,sP p' x.body.length c',sP p2 x.gu.length c2] x:=by
 obtain⟨hb,hh,⟨bv,c2,p2,k2,rfl,h2,r2⟩,gv,c3,p3,k3,rfl,h3,r3⟩:=h;obtain⟨_,p,c,c0,c1,sh⟩:=hh.vals;exact⟨hb,p,c,p2,k2,p3,k3,c0,c1,c2,c3,_,p2,k2,p3,k3,rfl,sh,h2,r2,h3,r3⟩
def Rw.vals {x:List R}(h:Rw B w (d+1) b o x):b<B/\ ∃ p c,w.cell? (zm b o)=some (sP p x.length c)/\Wi B w d [sP p x.length c] x:=by
 obtain⟨hb,v,c0,p,c,rfl,hc,hr⟩:=h;exact⟨hb,p,c,c0,p,c,rfl,hc,hr⟩
def Jh.vals {x:Dk}(h:Jh B w (d+1) b o x):b<B/\ ∃ p c,w.cell? (zm b o)=some (.bool x.allow)/\w.cell? (zm b (o+1))=some (sP p x.either.length c)/\kV B w d [.bool x.allow,sP p x.either.length c] x:=by
 obtain⟨hb,c0,v,c1,p,c,rfl,hc,hr⟩:=h;exact⟨hb,p,c,c0,c1,p,c,rfl,hc,hr⟩
def TQ.cy {x:G}(h:TQ B w d vs x)(c:EG B B' w w'):TQ B' w' d vs x:=by
 obtain⟨va,vb,h0,h1,h2,h3⟩:=h;exact⟨va,vb,h0,h1,Ed.cy h2 c,Ed.cy h3 c⟩
def Jy.cy {x:R}(h:Jy B w d vs x)(c:EG B B' w w'):Jy B' w' d vs x:=by
 obtain⟨va,p,k,p',k',h0,h1,h2,h3,h4,h5⟩:=h;exact⟨va,p,k,p',k',h0,Jz.cy h1 c,h2,h3.cy fun _ _ _ q=>q.cy c lr,h4,h5.cy fun _ _ _ q=>q.cy c lr⟩
def Wi.cy {x:List R}(h:Wi B w d vs x)(c:EG B B' w w'):Wi B' w' d vs x:=by
 obtain⟨p,k,h0,h2,h3⟩:=h;exact⟨p,k,h0,h2,h3.cy fun _ _ _ q=>q.cy c lr⟩
def kV.cy {x:Dk}(h:kV B w d vs x)(c:EG B B' w w'):kV B' w' d vs x:=by
 obtain⟨p,k,h0,h2,h3⟩:=h;exact⟨p,k,h0,h2,h3.cy fun _ _ _ q=>q.cy c lr⟩
def EZ.cy {x:Bk}(h:EZ B w d vs x)(c:EG B B' w w'):EZ B' w' d vs x:=by
 obtain⟨p,k,p1,k1,p2,k2,h0,h2,h3,h4,h5,h6,h7⟩:=h;exact⟨p,k,p1,k1,p2,k2,h0,h2,h3.cy fun _ _ _ q=>q.cy c lr,h4,h5.cy fun _ _ _ q=>q.cy c lr,h6,h7.cy fun _ _ _ q=>q.cy c lr⟩
def Bq {u:Bb}(h:Bl w u)(hB:B<=w.heap.size):EG B B w u:=Go.W.Below.cy (h.mono hB) lr
def Qk (o:Obj)(hB:B<=w.heap.size):EG B B w (w.alloc o):=Bq ((AR _ w).alloc lr o) hB
def qP {α:Type} (w:Bb) (f:α->Int) (l:List α) (iv:Value) (wr:Bb):Prop:= ∃ q:Nat,q<=l.length/\iv= zo q/\EU f (l.drop q)=EU f l/\Bl w wr
end
def tr {w u v:Bb}(h:AF (Bl w u))(k:Bl u v):AF (Bl w v):=⟨h.o.trans<|k.mono h.o.size⟩
variable {w:Bb}{p:Addr}{x:Value}
def Ra (n1 n2 n3 n4 n5 n6:Nat) {α:Type} (N s:Nat) (Q:Bb->Nat->Nat->α->Prop) (S:Bb->Bu->α->Prop):Prop:=
 (N=n1/\s=4/\ ∀ {w b o x},Q w b o x-> ∀ {C:Prop},(∀ k i t p n c vs,w.cell? (zm b o)=some (zo k)->w.cell? (zm b (o+1))=some (zo i)->w.cell? (zm b (o+2))=some (um t)->w.cell? (zm b (o+3))=some (sP p n c)->S w vs x->vs=[zo k,zo i,um t,sP p n c]->C)->C)\/
 (N=n2/\s=2/\ ∀ {w b o x},Q w b o x-> ∀ {C:Prop},(∀ t p n c vs,w.cell? (zm b o)=some (um t)->w.cell? (zm b (o+1))=some (sP p n c)->S w vs x->vs=[um t,sP p n c]->C)->C)\/
 (N=n3/\s=9/\ ∀ {w b o x},Q w b o x-> ∀ {C:Prop},(∀ g k i t p n c k' i' t' p' n' c' vs,w.cell? (zm b o)=some (zo g)->w.cell? (zm b (o+1))=some (zo k)->w.cell? (zm b (o+2))=some (zo i)->w.cell? (zm b (o+3))=some (um t)->w.cell? (zm b (o+4))=some (sP p n c)->w.cell? (zm b (o+5))=some (zo k')->w.cell? (zm b (o+6))=some (zo i')->w.cell? (zm b (o+7))=some (um t')->w.cell? (zm b (o+8))=some (sP p' n' c')->S w vs x->vs=[zo g,zo k,zo i,um t,sP p n c,zo k',zo i',um t',sP p' n' c']->C)->C)\/
 ((N=n4\/N=n6)/\s=4/\ ∀ {w b o x},Q w b o x-> ∀ {C:Prop},(∀ t p n c p' n' c' p2 m2 c2 vs,w.cell? (zm b o)=some (um t)->w.cell? (zm b (o+1))=some (sP p n c)->w.cell? (zm b (o+2))=some (sP p' n' c')->w.cell? (zm b (o+3))=some (sP p2 m2 c2)->S w vs x->vs=[um t,sP p n c,sP p' n' c',sP p2 m2 c2]->C)->C)\/
 (N=n5/\s=1/\ ∀ {w b o x},Q w b o x-> ∀ {C:Prop},(∀ p n c vs,w.cell? (zm b o)=some (sP p n c)->S w vs x->vs=[sP p n c]->C)->C)
section
variable [Mem] {n1 n2 n3 n4 n5 n6 B D:Nat}
def raT:Ra n1 n2 n3 n4 n5 n6 n1 4 (fun w=>He B w (D+1)) (fun w=>Ed B w D):= .inl ⟨rfl,rfl,fun h _ f=>let ⟨_,_,_,a,b,c,d,s⟩:=h.vals;f _ _ _ _ _ _ _ a b c d s rfl⟩
def raA:Ra n1 n2 n3 n4 n5 n6 n2 2 (fun w=>Ep B w (D+1)) (fun w=>Jz B w D):= .inr<|.inl ⟨rfl,rfl,fun h _ f=>let ⟨_,_,_,a,b,s⟩:=h.vals;f _ _ _ _ _ a b s rfl⟩
def raG:Ra n1 n2 n3 n4 n5 n6 n3 9 (fun w=>QK B w (D+1)) (fun w=>TQ B w D):= .inr<|.inr<|.inl ⟨rfl,rfl,fun h _ f=>let ⟨_,_,_,_,_,a,b,c,d,e,g,i,j,k,s⟩:=h.vals;f _ _ _ _ _ _ _ _ _ _ _ _ _ _ a b c d e g i j k s rfl⟩
def raR:Ra n1 n2 n3 n4 n5 n6 n4 4 (fun w=>FJ B w (D+1)) (fun w=>Jy B w D):= .inr<|.inr<|.inr<|.inl ⟨.inl rfl,rfl,fun h _ f=>let ⟨_,_,_,_,_,_,_,a,b,c,d,s⟩:=h.vals;f _ _ _ _ _ _ _ _ _ _ _ a b c d s rfl⟩
def raC:Ra n1 n2 n3 n4 n5 n6 n5 1 (fun w=>Go.W.Rw B w (D+1)) (fun w=>Wi B w D):= .inr<|.inr<|.inr<|.inr ⟨rfl,rfl,fun h _ f=>let ⟨_,_,_,a,s⟩:=h.vals;f _ _ _ _ a s rfl⟩
end
def BG (a:Nat->Addr) (n:Int):Value:=if n=0 then .nilIface else .iface 430 (.pointer<|some<|a<|n.toNat-1)
def JR (a:Nat->Addr):BG a 0= .nilIface:=rfl
def BU (a:Nat->Addr){n:Int}(h:n≠0):BG a n= .iface 430 (.pointer<|some<|a<|n.toNat-1):=xd h
structure Yjd (a:Nat->Addr) (w:Bb):Prop where
 c1:w.cell? (zm 1 0)=some (BG a 1)
 c2:w.cell? (zm 2 0)=some (BG a 2)
 c3:w.cell? (zm 3 0)=some (BG a 3)
 c4:w.cell? (zm 0 0)=some (BG a 4)
 c5:w.cell? (zm 4 0)=some (BG a 5)
 c6:w.cell? (zm 5 0)=some (BG a 6)
 c7:w.cell? (zm 6 0)=some (BG a 7)
 c8:w.cell? (zm 7 0)=some (BG a 8)
 c9:w.cell? (zm 8 0)=some (BG a 9)
 c10:w.cell? (zm 9 0)=some (BG a 10)
 iR:Lib.Utf8Tabs 18 19 w
 syn: ∃ te pe,w.cell? (zm 20 0)=some (.iface te pe)
 rng: ∃ te pe,w.cell? (zm 21 0)=some (.iface te pe)
 ops: ∀ (i:Nat) (s:Ay),(MV:List Ay)[i]?=some s->w.cell? (zm 17 i)=some (um s)
 marks: ∀ (i:Nat) (s:Ay),(Rx:List Ay)[i]?=some s->w.cell? (zm 13 i)=some (um s)
 esc: ∀ (i c:Nat),(xE:Cg)[i]?=some c->w.cell? (zm 14 i)=some (yS (c:Int))
 start: ∀ (i c:Nat),(pU:Cg)[i]?=some c->w.cell? (zm 11 i)=some (Al (c:Int))
 steps: ∀ (i c:Nat),(ZK:Cg)[i]?=some c->w.cell? (zm 15 i)=some (Al (c:Int))
 bits:w.cell? (zm 16 0)=some (yS 0)/\w.cell? (zm 16 1)=some (yS 1)/\w.cell? (zm 16 3)=some (yS 2)
def AZ (a:Nat->Addr) (w:Bb):Prop:= ∃ w0,Yjd a w0/\ ∀ g o,g<24->g<w.heap.size/\w.cell? (zm g o)=w0.cell? (zm g o)
def Wx (h:w.cell? p=some x):p.block<w.heap.size:=by
 rcases Qp p.block w.heap.size with hl | hl
 .exact hl
 .simp[World.cell?,Zj hl]at h
def Cb {u:Bb}(h:w.cell? p=some x)(hb:Bl w u):u.cell? p=some x:=(hb.cell<|Wx h).trans h
section
variable {a:Nat->Addr} {w u:Bb}
def AZ.be (h:AZ a w)(hb:Bl w u):AZ a u:=by
 obtain⟨w0,h0,h1⟩:=h;exact⟨w0,h0,fun g o hg=>⟨BK (h1 g o hg).1 hb.size,(hb.cell (p:=(zm g o)) (h1 g o hg).1).trans (h1 g o hg).2⟩⟩
def AZ.size (h:AZ a w):24<=w.heap.size:=by
 obtain⟨w0,_,h1⟩:=h
 have:=(h1 (24-1) 0 zu).1
 omega
def AZ.c1 (h:AZ a w):w.cell? (zm 1 0)=some (BG a 1):=by obtain⟨_,h0,h1⟩:=h;exact(h1 _ _ zu).2.trans h0.c1
def AZ.c2 (h:AZ a w):w.cell? (zm 2 0)=some (BG a 2):=by obtain⟨_,h0,h1⟩:=h;exact(h1 _ _ zu).2.trans h0.c2
def AZ.c3 (h:AZ a w):w.cell? (zm 3 0)=some (BG a 3):=by obtain⟨_,h0,h1⟩:=h;exact(h1 _ _ zu).2.trans h0.c3
def AZ.c4 (h:AZ a w):w.cell? (zm 0 0)=some (BG a 4):=by obtain⟨_,h0,h1⟩:=h;exact(h1 _ _ zu).2.trans h0.c4
def AZ.c5 (h:AZ a w):w.cell? (zm 4 0)=some (BG a 5):=by obtain⟨_,h0,h1⟩:=h;exact(h1 _ _ zu).2.trans h0.c5
def AZ.c6 (h:AZ a w):w.cell? (zm 5 0)=some (BG a 6):=by obtain⟨_,h0,h1⟩:=h;exact(h1 _ _ zu).2.trans h0.c6
def AZ.c7 (h:AZ a w):w.cell? (zm 6 0)=some (BG a 7):=by obtain⟨_,h0,h1⟩:=h;exact(h1 _ _ zu).2.trans h0.c7
def AZ.c8 (h:AZ a w):w.cell? (zm 7 0)=some (BG a 8):=by obtain⟨_,h0,h1⟩:=h;exact(h1 _ _ zu).2.trans h0.c8
def AZ.c9 (h:AZ a w):w.cell? (zm 8 0)=some (BG a 9):=by obtain⟨_,h0,h1⟩:=h;exact(h1 _ _ zu).2.trans h0.c9
def AZ.c10 (h:AZ a w):w.cell? (zm 9 0)=some (BG a 10):=by obtain⟨_,h0,h1⟩:=h;exact(h1 _ _ zu).2.trans h0.c10
def AZ.iR (h:AZ a w):Lib.Utf8Tabs 18 19 w:=by
 obtain⟨_,h0,h1⟩:=h;exact⟨fun c hc=>(h1 _ _ zu).2.trans (h0.iR.1 c hc),fun i hi=>⟨(h1 _ _ zu).2.trans (h0.iR.2 i hi).1,(h1 _ _ zu).2.trans (h0.iR.2 i hi).2⟩⟩
end
def FT (a:Nat->Addr) (n:Int) (w:Bb) (e:Ending) (w':Bb):Prop:=e=uY (BG a n)/\Bl w w'
def Da (K:Nat):Prop:= ∀ args w,(callFunc K args).run prog w= .ok (.enter K args) w
variable {e:Int}
abbrev By:=List UInt8
def ba (l:By):Ay:=⟨l.toArray⟩
abbrev De (α:Type):=By->Except Int (α×By)
def De.then {α β:Type} (f:De α) (g:α->De β):De β:=fun l=>match f l with
 | .error e=> .error e
 | .ok (x,r)=>g x r
def De.map {α β:Type} (f:De α) (g:α->β):De β:=fun l=>match f l with
 | .error e=> .error e
 | .ok (x,r)=> .ok (g x,r)
def Jt (n:Nat):De By:=fun l=>if l.length<n then .error 6 else .ok (l.take n,l.drop n)
def LY:De Nat:=fun l=>match l with
 | []=> .error 6
 | c::r=> .ok (c.toNat,r)
def P6 (k n:Nat):De Nat:=fun l=>match l with
 | []=> .error 6
 | c::r=>if(k=9/\1<c.toNat)\/(0<k/\c.toNat=0)then .error 7 else if c.toNat<128 then .ok (n+c.toNat*128 ^ k,r)else P6 (k+1) (n+(c.toNat-128)*128 ^ k) r
def Qm:De Nat:=P6 0 0
def Xm:De Ay:=(Qm.then Jt).map ba
def FR {α:Type} (f:De α):Nat->De (List α)
 | 0=>fun l=> .ok ([],l)
 | n+1=>f.then fun x=>(FR f n).map fun r=>x::r
def DF {α:Type} (m:Nat) (f:De α):De (List α):=Qm.then fun n=>if m<n then fun _=> .error 4 else FR f n
def Wj (n:Nat):Int:=if n % 2=0 then(n / 2:Nat)else -((n / 2:Nat):Int)-1
def MO:Nat->De T
 | 0=>LY.then fun k=>if k=2\/k=5 then Qm.map fun n=> .mk k (Wj n) ByteArray.empty []else if k=6 then LY.map fun n=> .mk k n ByteArray.empty []else if k=7 then fun _=> .error 3 else if k=1\/k=3\/k=4 then Xm.map fun t=> .mk k 0 t []else fun _=> .error 7
 | d+1=>LY.then fun k=>if k=2\/k=5 then Qm.map fun n=> .mk k (Wj n) ByteArray.empty []else if k=6 then LY.map fun n=> .mk k n ByteArray.empty []else if k=7 then(DF 6<|MO d).map fun x=> .mk k 0 ByteArray.empty x else if k=1\/k=3\/k=4 then Xm.map fun t=> .mk k 0 t []else fun _=> .error 7
def ZF:De A:=Xm.then fun n=>(DF 6<|MO 3).map fun l=>⟨n,l⟩
def jS:De G:=LY.then fun o=>(MO 3).then fun a=>(MO 3).map fun b=>⟨o,a,b⟩
def Y9:De R:=(DF 4 ZF).then fun l=>(DF 4 jS).map fun g=>⟨⟨ByteArray.empty,[]⟩,l,g⟩
def kJ:De R:=ZF.then fun h=>Y9.map fun b=>⟨h,b.body,b.gu⟩
def jT:De (List R):=DF 4 Y9
def Xp:De Bk:=(DF 24 ZF).then fun f=>(DF 24 kJ).then fun r=>(DF 24 jT).map fun c=>⟨f,r,c⟩
def GZ {α:Type} (f:De α) (l:By):Except Int α:=match f l with
 | .error e=> .error e
 | .ok (x,r)=>if r=[]then .ok x else .error 7
def Qn (l:By):Except Int Bk:=if 4000<l.length then .error 4 else match GZ Xp l with
 | .error e=> .error e
 | .ok x=>if IU x≠0 then .error (IU x)else .ok x
def De.Ae {α β:Type}{f:De α}{g:α->De β}{l:By}(h:f l= .error e):f.then g l= .error e:=by unfold De.then;rw[h]
def De.then_ok {α β:Type}{f:De α}{g:α->De β}{l r:By}{x:α}(h:f l= .ok (x,r)):f.then g l=g x r:=by unfold De.then;rw[h]
def De.Az {α β:Type}{f:De α}{g:α->β}{l:By}(h:f l= .error e):f.map g l= .error e:=by unfold De.map;rw[h]
def De.map_ok {α β:Type}{f:De α}{g:α->β}{l r:By}{x:α}(h:f l= .ok (x,r)):f.map g l= .ok (g x,r):=by unfold De.map;rw[h]
def Yfj (l:By)(n:Nat):(ba l).extract 0 n=ba (l.take n):=by
 apply jy
 rw[Nw,Nw];simp[ba]
def Yfi (l:By)(n:Nat):(ba l).extract n (ba l).size=ba (l.drop n):=by
 apply jy
 rw[Nw,Nw];simp[ba,ByteArray.size];rw[U0 zw]
def Uk (l:By):(ba l).size=l.length:=by simp[ba,ByteArray.size]
variable {b L k B:Nat}{u v w0:Bb}{x0 x1 x2 x3:Value}
structure Ad (b:Nat) (w w':Bb):Prop where
 os:w'.os=w.os
 tape:w'.tape=w.tape
 output:w'.output=w.output
 size:w.heap.size<=w'.heap.size
 block: ∀ k,k<w.heap.size->k≠b->w'.heap[k]?=w.heap[k]?
def Ad.refl (b:Nat)(w:Bb):Ad b w w:=⟨rfl,rfl,rfl,EO _,fun _ _ _=>rfl⟩
def Ad.trans (h:Ad b u v)(k:Ad b v w):Ad b u w:=
 ⟨k.os.trans h.os,k.tape.trans h.tape,k.output.trans h.output,Ab h.size k.size,fun i hi hn=>(k.block i (BK hi h.size) hn).trans (h.block i hi hn)⟩
def Ad.alloc (h:Ad b w0 w)(o:Obj):Ad b w0 (w.alloc o):=
 ⟨h.os,h.tape,h.output,Ab h.size zw,fun k hk hn=>(Ah w o k<|BK hk h.size).trans (h.block k hk hn)⟩
def Ad.Ai (h:Ad b w0 w)(L o:Nat)(v:Value)(hL:w0.heap.size<=L):Ad b w0 (w.setCell (zm L o) v):=
 ⟨h.os,h.tape,h.output,by simpa[World.setCell]using h.size,fun k hk hn=>(Aw w (zm L o) v k (by show k≠L;omega)).trans (h.block k hk hn)⟩
def Ad.set (h:Ad b w0 w)(o:Nat)(v:Value):Ad b w0 (w.setCell (zm b o) v):=
 ⟨h.os,h.tape,h.output,by simpa[World.setCell]using h.size,fun k hk hn=>(Aw w (zm b o) v k hn).trans (h.block k hk hn)⟩
def Z83 (hk:k≠L):(w.setCell (zm L 0) x0).heap[k]?=w.heap[k]?:=Aw _ _ _ _ hk
def uf (hk:k≠L):((w.setCell (zm L 0) x0).setCell (zm L 1) x1).heap[k]?=w.heap[k]?:=by
 rw[Aw _ _ _ _ hk,Aw _ _ _ _ hk]
def Vd (hk:k≠L):(((w.setCell (zm L 0) x0).setCell (zm L 1) x1).setCell (zm L 2) x2).heap[k]?=w.heap[k]?:=by
 rw[Aw _ _ _ _ hk,Aw _ _ _ _ hk,Aw _ _ _ _ hk]
def KY (hk:k≠L):((((w.setCell (zm L 0) x0).setCell (zm L 1) x1).setCell (zm L 2) x2).setCell (zm L 3) x3).heap[k]?=w.heap[k]?:=by
 rw[Aw _ _ _ _ hk,Aw _ _ _ _ hk,Aw _ _ _ _ hk,Aw _ _ _ _ hk]
def Ad.r1 (h:Ad b w0 w)(hL:w0.heap.size<=L):Ad b w0 (w.setCell (zm L 0) x0):=h.Ai _ _ _ hL
def Ad.r2 (h:Ad b w0 w)(hL:w0.heap.size<=L):Ad b w0 ((w.setCell (zm L 0) x0).setCell (zm L 1) x1):=(h.Ai _ _ _ hL).Ai _ _ _ hL
def Ad.r3 (h:Ad b w0 w)(hL:w0.heap.size<=L):Ad b w0 (((w.setCell (zm L 0) x0).setCell (zm L 1) x1).setCell (zm L 2) x2):=(h.r2 hL).Ai _ _ _ hL
def Ad.r4 (h:Ad b w0 w)(hL:w0.heap.size<=L):Ad b w0 ((((w.setCell (zm L 0) x0).setCell (zm L 1) x1).setCell (zm L 2) x2).setCell (zm L 3) x3):=(h.r3 hL).Ai _ _ _ hL
def Ad.dr (h:Ad b w0 w)(n:Nat):Ad b w0 (w.drewN n):=⟨h.os,h.tape,h.output,h.size,h.block⟩
def Ad.drew (h:Ad b w0 w):Ad b w0 w.drew:=⟨h.os,h.tape,h.output,h.size,h.block⟩
def Ad.UW {α:Type}{e:TypeId}{s:Nat}{Q:Du α}{w1:Bb}{xs:List α}{F G:Cg}{y:α}{g cap:Nat}{F':Cg}(h:O7 e s Q B w w1 xs F G y g cap F')(k:Ad b w0 w)(hF: ∀ i,i∈F->w0.heap.size<=i):Ad b w0 w1:=
 ⟨h.os.trans k.os,h.tape.trans k.tape,h.output.trans k.output,Ab k.size h.size,fun i hi hn=>(h.same i (BK hi k.size) fun q=>by have:=hF i q;omega).trans (k.block i hi hn)⟩
def Ad.be (h:Ad b w0 w)(hB:B<=b)(hw:B<=w0.heap.size):Below B w0 w:=⟨h.os,h.tape,h.output,h.size,fun k hk=>h.block k zx zx⟩
def Ad.la {w':Bb}(h:Bl w u)(k:Ad b u w'):Ad b w w':=
 ⟨k.os.trans h.os,k.tape.trans h.tape,k.output.trans h.output,Ab h.size k.size,fun i hi hn=>(k.block i (BK hi h.size) hn).trans (h.block i hi)⟩
def Ad.AU (h:Ad b w u)(k:Bl u v):Ad b w v:=
 ⟨k.os.trans h.os,k.tape.trans h.tape,k.output.trans h.output,Ab h.size k.size,fun i hi hn=>(k.block i<|BK hi h.size).trans (h.block i hi hn)⟩
variable {a:Nat->Addr}{n c:Nat}{l:By}
def Dc (w:Bb) (b:Nat) (l:By):Prop:=AO w b #[.string<|ba l] 349/\l.length<1000000000/\24<=b
def AZ.keeps {u:Bb}(h:AZ a w)(k:Ad b w u)(hb:24<=b):AZ a u:=by
 obtain⟨w0,h0,h1⟩:=h;exact⟨w0,h0,fun g o hg=>⟨BK (h1 g o hg).1 k.size,(A9 (w:=w) (w':=u) (a:=(zm g o))<|k.block g (h1 g o hg).1 zx).trans (h1 g o hg).2⟩⟩
def Z1c (a:Nat->Addr) (n:Int):Ending:= .panicked [{v:= .iface 347<|.agg #[BG a n],recovered:=false}]
def Iw {α:Type} (a:Nat->Addr) (b:Nat) (V:Bb->Value->α->Prop) (w:Bb) (Y:Except Int (α×By)) (e:Ending) (w':Bb):Prop:=
 Ad b w w'/\((∃ n,Y= .error n/\n≠0/\e=Z1c a n)\/ ∃ x r v,Y= .ok (x,r)/\e=uY v/\V w' v x/\Dc w' b r)
def Dc.drew (h:Dc w b l):Dc w.drew b l:=h
def Dc.alloc (h:Dc w b l)(o:Obj):Dc (w.alloc o) b l:=⟨h.1.alloc o,h.2⟩
def Dc.of {w':Bb}(h:Dc w b l)(k:w'.heap[b]?=w.heap[b]?):Dc w' b l:=⟨h.1.of k,h.2⟩
def QL (a:Nat->Addr)(b:Nat)(w:Bb){n:Int}(hn:n≠0):Calls prog 211 #[zq b 0,BG a n] w fun e w'=>e=Z1c a n/\w'=w:=by
 unfold Z1c;rw[BU _ hn];go_in
 go_wp2_with fail
 exact⟨rfl,rfl,rfl⟩
def qJ (Z:AZ a w)(h:Dc w b l)(n:Nat)(hn:n<18446744073709551616):
  Calls prog 212 #[zq b 0,.int .u64 (n:Int)] w (Iw a b (fun _ v x=>v= um (ba x)) w<|Jt n l):=by
 obtain⟨hb,hl,hg⟩:=h;obtain⟨c0,sf⟩:=hb.one;have E1:=AC<|Yfj l n;have E2:=AC<|Yfi l n;have HB:=AC hb;have z6:=Z.c6;have C:=AC<|QL a b w (n:=6) zu;have QU:(ba l).size<1000000000:=by rw[Uk];exact hl
 have HS:=AC<|Uk l;clear Z hb;generalize ba l=s at*;by_cases h:l.length<n
 .have F:AF (Jt n l= .error 6):=⟨xj h⟩;have g:(s.size:Int)<(n:Int):=fw (HS.o)
  go_in
  go_wp2_with fail
  apply mq C.o;rintro w1 rfl;exact⟨rfl,Ad.refl _ _,Or.inl ⟨6,F.o,zu,rfl⟩⟩
 .have F:AF (Jt n l= .ok (l.take n,l.drop n)):=⟨xd h⟩;have g: ¬ (s.size:Int)<(n:Int):=fw (HS.o)
  have g2:n<=s.size:=fw (HS.o)
  clear z6 C;go_in
  go_wp2
  go_ret
  refine⟨(Ad.refl b w).set _ _,Or.inr ⟨_,_,_,F.o,rfl,by simp[E1.o],?_,by rw[List.length_drop];omega,hg⟩⟩;rw[<- E2.o];exact HB.o.set 0 _
def Yh6 (c:UInt8)(r:By)(h:0<(ba<|c::r).size):(ba<|c::r)[0]=c:=rfl
def qN (Z:AZ a w)(h:Dc w b l):
  Calls prog 213 #[zq b 0] w (Iw a b (fun _ v (x:Nat)=>v= yS (x:Int)/\x<256) w<|LY l):=by
 have C:=AC<|qJ Z h 1 zu;go_in
 go_wp2_with fail
 apply C.o.mono;rintro e w1 ⟨hk,⟨n,hy,hn,rfl⟩ | ⟨x,r,v,hy,rfl,rfl,hd⟩⟩
 .have Y:AF (LY l= .error n):=⟨by
   cases l with
   | nil=>simp[Jt]at hy;rw[<- hy];rfl
   | cons c r=>simp[Jt]at hy⟩
  exact⟨rfl,hk,Or.inl ⟨n,Y.o,hn,rfl⟩⟩
 .cases l with
  | nil=>simp[Jt]at hy
  | cons c l'=>
   obtain⟨rfl,rfl⟩:x=[c]/\r=l':=by simp[Jt]at hy;exact⟨hy.1.symm,hy.2.symm⟩
   have h0:0<(ba [c]).size:=by rw[Uk];simp
   have hg:=Yh6 c [] h0;have HD:=AC hd;have HK:=AC hk;have pF:=c.toNat_lt;clear hd hk hy;generalize ba [c]=s at*;go_wp2
   go_ret
   exact⟨HK.o,Or.inr ⟨c.toNat,_,_,rfl,rfl,⟨zw,pF⟩,HD.o⟩⟩
def Yc4 (n c k:Nat)(h:n<128 ^ k):n ||| (c*128 ^ k)=n+c*128 ^ k:=by
 rw[Nat.or_comm];have e:(128:Nat) ^ k=2 ^ (7*k):=by rw[show(128:Nat)=2 ^ 7 by rfl,<- Nat.pow_mul]
 rw[e]at h⊢;rw[nat_join (7*k) (c*2 ^ (7*k)) n (Nat.mul_mod_left _ _) h,Nat.add_comm]
def Yiy (k:Nat):(128:Nat) ^ k=2 ^ (7*k):=by rw[show(128:Nat)=2 ^ 7 by rfl,<- Nat.pow_mul]
def Zyk (hn:n<128 ^ k)(hk:k<=9)(hc:c<128)(h9:k=9->c<=1):n+c*128 ^ k<18446744073709551616:=by
 rcases Qp k 9 with h | h
 .have:(128:Nat) ^ k<=128 ^ 8:=wi zx zx
  have h2:c*128 ^ k<=127*128 ^ k:=Nat.mul_le_mul_right _ zx;have e:(128:Nat) ^ 8=72057594037927936:=zu
  omega
 .obtain rfl:k=9:=zx
  have e:(128:Nat) ^ 9=9223372036854775808:=zu
  rw[e]at hn⊢
  have:=h9 rfl
  omega
def Yiv (hn:n<128 ^ k)(hk:k<=9)(hc:c<128)(h9:k=9->c<=1):bits .or .u64 (n:Int) (IntKind.u64.wrap<|(c:Int)*2 ^ (7*k))=((n+c*128 ^ k:Nat):Int):=by
 have hs:=Zyk hn hk hc h9;have e:(c:Int)*2 ^ (7*k)=((c*128 ^ k:Nat):Int):=by rw[Yiy];simp
 rw[e,IntKind.wrap_u64,show((c*128 ^ k:Nat):Int) % 18446744073709551616=((c*128 ^ k:Nat):Int)by omega,u64_or_nat _ _ zx zx,Yc4 n c k hn]
def Yfe: ∀ X:Fin 256,bits .and .u8 ((X.val:Nat):Int) 127=((X.val % 128:Nat):Int):=zu
def Yh4 (c:Nat)(h:c<256):bits .and .u8 (c:Int) 127=((c % 128:Nat):Int):=Yfe ⟨c,h⟩
def Yjf (a:Nat->Addr) (b:Nat) (w:Bb) (l:By) (nv sv:Value) (wr:Bb):Prop:= ∃ (k n:Nat) (r:By),k<=9/\n<128 ^ k/\nv= .int .u64 (n:Int)/\sv= zo ((7*k:Nat):Int)/\P6 k n r=Qm l/\Dc wr b r/\Ad b w wr/\AZ a wr
def rE (b:Nat) (w:Bb):Nat:=match w.cell? (zm b 0)with
 | some (.string s)=>s.size
 | _=>0
def Z2x (h:Dc w b l):rE b w=l.length:=by
 unfold rE;rw[h.1.one.1];exact Uk l
def Ze (Z:AZ a w)(h:Dc w b l):
  Calls prog 255 #[zq b 0] w (Iw a b (fun _ v (x:Nat)=>v= .int .u64 (x:Int)/\x<18446744073709551616) w<|Qm l):=by
 have hgb:=h.2.2;go_in
 go_wp2
 go_loopw [3,4] (fun nv sv wr=>Yjf a b w l nv sv wr) (fun _ _ wr=>rE b wr)
 .exact⟨0,0,l,zx,zu,rfl,rfl,rfl,h,Ad.refl _ _,Z⟩
 .obtain⟨k,n,r,hk,hn,rfl,rfl,hE,hd,hK,hZ⟩:=hrel;have C:=AC<|qN hZ hd;have HK:=AC hK;have HZ:=AC hZ;have HD:=AC hd;have HE:=AC hE;clear hK hZ hd hE h Z;go_wp2_with fail
  apply C.o.mono;rintro e w1 ⟨AX,⟨m,hy,hm,rfl⟩ | ⟨c,r1,v,hy,rfl,⟨rfl,hc⟩,Bc⟩⟩
  .exact⟨rfl,HK.o.trans AX,Or.inl ⟨m,by
    rw[<- HE.o];cases r with
    | nil=>simp[LY]at hy;subst hy;rfl
    | cons c r=>simp[LY]at hy,hm,rfl⟩⟩
  .have NX:AF (∃ c8:UInt8,r=c8::r1/\c8.toNat=c):=⟨by
    cases r with
    | nil=>simp[LY]at hy
    | cons c' r'=>simp[LY]at hy;exact⟨c',by rw[hy.2],hy.1⟩⟩
   have IY:=AC<|HK.o.trans AX;have HZ1:=AC<|HZ.o.keeps AX hgb;have T9:=AC Bc;clear hy AX Bc HK HZ C;have A1:=Yh4 c hc;have hk9:((7*k:Nat):Int)<=63:=zx
   by_cases bad:(k=9/\1<c)\/(0<k/\c=0)
   .have Y:AF (Qm l= .error 7):=⟨by
     obtain⟨c8,rfl,rfl⟩:=NX.o;rw[<- HE.o,P6,xj bad]⟩
    have z7:=HZ1.o.c7;have CR:=AC<|QL a b w1 (n:=7) zu;have W:((((7*k:Nat):Int)==63)=true/\(1:Int)<c)\/((((7*k:Nat):Int)==63)=true/\decide ((1:Int)<c)=false/\(0:Int)<((7*k:Nat):Int)/\((c:Int)==0)=true)\/((((7*k:Nat):Int)==63)=false/\(0:Int)<((7*k:Nat):Int)/\((c:Int)==0)=true):=by
     simp only[DR,BJ,decide_eq_false_iff_not];omega
    clear bad A1 HD HE NX;generalize 7*k=k7 at*;rcases W with⟨g1,g2⟩ | ⟨g1,g2,g3,g4⟩ | ⟨g1,g2,g3⟩;all_goals
     go_wp2_with fail
     apply mq CR.o;rintro w2 rfl;exact⟨rfl,IY.o,Or.inl ⟨7,Y.o,zu,rfl⟩⟩
   .have h9:k=9->c % 128<=1:=zx
    have hc1:k=9->c<128:=zx
    have OV:AF (bits .or .u64 (n:Int) (IntKind.u64.wrap<|(c:Int) % 128*2 ^ (7*k))=((n+c % 128*128 ^ k:Nat):Int)):=⟨by have:=Yiv hn hk (Nat.mod_lt c zx) h9;rwa [show((c % 128:Nat):Int)=(c:Int) % 128 by omega]at this⟩;have PS:=AC<|Zyk hn hk (Nat.mod_lt c zx) h9;have W:((((7*k:Nat):Int)==63)=true/\decide ((1:Int)<c)=false/\(0:Int)<((7*k:Nat):Int)/\((c:Int)==0)=false/\c<128)\/((((7*k:Nat):Int)==63)=false/\(0:Int)<((7*k:Nat):Int)/\((c:Int)==0)=false)\/((((7*k:Nat):Int)==63)=false/\ ¬ 0<7*k):=by
     simp only[DR,BJ,decide_eq_false_iff_not];by_cases a1:k=9
     .exact Or.inl zx
     .by_cases a2:k=0
      .exact Or.inr<|Or.inr zx
      .exact Or.inr<|Or.inl zx
    have zK:((7*k:Nat):Int)+7=((7*(k+1):Nat):Int):=zx
    have uP:=AC hk;have xP:AF ((c<128->Qm l= .ok (n+c % 128*128 ^ k,r1))/\(128<=c->P6 (k+1) (n+c % 128*128 ^ k) r1=Qm l/\k+1<=9/\n+c % 128*128 ^ k<128 ^ (k+1))):=⟨by
     obtain⟨c8,rfl,rfl⟩:=NX.o;rw[<- HE.o,P6,xd bad];refine⟨fun h=>by rw[xj h,Nat.mod_eq_of_lt h],fun h=>⟨by rw[xd zx,show c8.toNat-128=c8.toNat % 128 by omega],zx,?_⟩⟩
     have:c8.toNat % 128*128 ^ k<=127*128 ^ k:=Nat.mul_le_mul_right _ zx
     rw[Nat.pow_succ]
     omega⟩
    have E7:AF ((7*k:Nat)=7*k):=⟨rfl⟩;generalize h7:7*k=k7 at*;have LEN:AF (rE b w1<rE b wr):=⟨by rw[Z2x T9.o,Z2x HD.o];obtain⟨c8,rfl,_⟩:=NX.o;simp⟩;clear bad h9 hc1 NX HE HD hk hn h7 E7;rcases W with⟨g1,g2,g3,g4,g5⟩ | ⟨g1,g2,g3⟩ | ⟨g1,g2⟩;all_goals
     go_wp2_with fail
     all_goals first
      | (go_ret;exact⟨IY.o,Or.inr ⟨_,_,_,xP.o.1 zx,rfl,⟨by simp only[<- OV.o];rfl,PS.o⟩,T9.o⟩⟩)
      | exact⟨⟨k+1,_,r1,(xP.o.2 zx).2.1,(xP.o.2 zx).2.2,by rw[OV.o],zw,(xP.o.2 zx).1,T9.o,IY.o,HZ1.o⟩,LEN.o⟩
      | trace_state
def AV:U2:=⟨95,64,97,69,134,189⟩
def Z9a:(prog.info? 95).map (fun i=>(i.zero,i.size,i.bytes))=some (some<|.agg #[zo 0,zo 0,sE,zn],4,56):=zt
theorem eL {P:Program}{t e:TypeId}{z:Value}{s y:Nat}(h:(P.info? e).map (fun i=>(i.zero,i.size,i.bytes))=some (some z,s,y))(u:P.underlying t=some (.slice e))(hc:z.cells.size=s:=by rfl)(h0:0<s:=by decide)(h1:y<=1000:=by decide):J3 P t e s y:=by
 obtain⟨i0,hi,hz0,hz1,hz2⟩:=info_parts h;exact⟨i0,_,u,hi,hz0,hz1,hz2,hc,h0,h1⟩
def Zqi:J3 prog 62 95 4 56:=eL Z9a underlying62
def Zq0:(prog.info? 64).map (fun i=>(i.zero,i.size,i.bytes))=some (some<|.agg #[sE,zn],2,40):=zt
def Zxi:J3 prog 32 64 2 40:=eL Zq0 underlying32
def Z5q:(prog.info? 97).map (fun i=>(i.zero,i.size,i.bytes))=some (some<|.agg #[zo 0,zo 0,zo 0,sE,zn,zo 0,zo 0,sE,zn],9,120):=zt
def Ztk:J3 prog 67 97 9 120:=eL Z5q underlying67
def Zq1:(prog.info? 69).map (fun i=>(i.zero,i.size,i.bytes))=some (some<|.agg #[sE,zn,zn,zn],4,88):=zt
def Zxk:J3 prog 35 69 4 88:=eL Zq1 underlying35
def Z5p:(prog.info? 134).map (fun i=>(i.zero,i.size,i.bytes))=some (some<|.agg #[zn],1,24):=zt
def Ztj:J3 prog 36 134 1 24:=eL Z5p underlying36
def Ycj:(prog.info? 189).map (fun i=>(i.zero,i.size,i.bytes))=some (some<|.agg #[.bool false,zn],2,32):=zt
def Ybx:J3 prog 28 189 2 32:=eL Ycj underlying28
def Sh (n1 n2 n3 n4 n5 n6 n7:Nat) {α:Type} (N t e s z:Nat) (Q:Du α):Prop:=(J3 prog t e s z/\Ii Q/\ ∀ w vs x F,Q w vs x F-> ∀ u,u∈vs->u.oneCell'=true)/\
 ((0<n6/\N=n6/\t=28/\s=2/\ ∀ {w vs x F},Q w vs x F-> ∀ {C:Prop},(∀ b p n c,vs=[.bool b,sP p n c]->C)->C)\/
 (0<n7/\N=n7/\t=113/\s=4/\ ∀ {w vs x F},Q w vs x F-> ∀ {C:Prop},(∀ b p n c p' n' c' p2 n2 c2,vs=[um b,sP p n c,sP p' n' c',sP p2 n2 c2]->C)->C)\/
 (N=n1/\t=62/\s=4/\ ∀ {w vs x F},Q w vs x F-> ∀ {C:Prop},(∀ k i b p n c,vs=[zo k,zo i,um b,sP p n c]->C)->C)\/
 (N=n2/\t=32/\s=2/\ ∀ {w vs x F},Q w vs x F-> ∀ {C:Prop},(∀ b p n c,vs=[um b,sP p n c]->C)->C)\/
 (N=n3/\t=67/\s=9/\ ∀ {w vs x F},Q w vs x F-> ∀ {C:Prop},(∀ o k i b p n c k' i' b' p' n' c',vs=[zo o,zo k,zo i,um b,sP p n c,zo k',zo i',um b',sP p' n' c']->C)->C)\/
 (N=n4/\t=35/\s=4/\ ∀ {w vs x F},Q w vs x F-> ∀ {C:Prop},(∀ b p n c p' n' c' p2 n2 c2,vs=[um b,sP p n c,sP p' n' c',sP p2 n2 c2]->C)->C)\/
 (N=n5/\t=36/\s=1/\ ∀ {w vs x F},Q w vs x F-> ∀ {C:Prop},(∀ p n c,vs=[sP p n c]->C)->C))
def Gg:Prop:= ∀ (s:Ay) (w:Bb),s.size<1000000000->Calls prog 116 #[um s] w fun e w'=>e=uY (um s)/\Bl w w'
def Ie {α:Type} (Q:Du α) (N:Nat) (w:Bb) (v:Value) (x:α):Prop:= ∃ vs F,v= .agg vs.toArray/\Q w vs x F/\Ag N w F
def S9 {α:Type} (e:TypeId) (s:Nat) (Q:Du α) (N:Nat) (w:Bb) (v:Value) (xs:List α):Prop:= ∃ F,AQ e s Q w v xs F/\Ag N w F
def Zxf (CL:Gg){a:Nat->Addr}{w:Bb}{b:Nat}{l:By}(Z:AZ a w)(h:Dc w b l):
  Calls prog 290 #[zq b 0] w (Iw a b (fun _ v (x:Ay)=>v= um x/\x.size<1000000000) w<|Xm l):=by
 have C:=AC<|Ze Z h;have ZZ:=AC Z;have hgb:=h.2.2;have hl:=h.2.1;clear Z h;go_in
 go_wp2_with fail
 apply C.o.mono;rintro e w1 ⟨AX,⟨m,hy,hm,rfl⟩ | ⟨n,r1,v,hy,rfl,⟨rfl,hn⟩,Bc⟩⟩
 .exact⟨rfl,AX,Or.inl ⟨m,De.Az<|De.Ae hy,hm,rfl⟩⟩
 .have Y:=AC fun x (h:Jt n r1=x)=>(De.then_ok (g:=Jt) hy).trans h;have HK:=AC AX;have GU:=Bc.2.1;have C2:=AC<|qJ (ZZ.o.keeps AX hgb) Bc n hn;clear AX Bc hy C;go_wp2_with fail
  apply C2.o.mono;rintro e w2 ⟨hk2,⟨m,hy,hm,rfl⟩ | ⟨x,r2,v,hy,rfl,rfl,Cj⟩⟩
  .exact⟨rfl,HK.o.trans hk2,Or.inl ⟨m,De.Az<|Y.o _ hy,hm,rfl⟩⟩
  .have hx:(ba x).size<1000000000:=by
    rw[Uk];unfold Jt at hy;split at hy
    .cases hy
    .injection hy with hy;injection hy with hy _;rw[<- hy,wt];omega
   have Y2:AF (Xm l= .ok (ba x,r2)):=⟨De.map_ok<|Y.o _ hy⟩;have JV:=AC<|HK.o.trans hk2;have HD:=AC Cj;have C3:=AC<|CL (ba x) w2 hx;clear hk2 Cj hy C2 Y HK;generalize ba x=s at*;go_wp2_with fail
   apply mq C3.o;rintro w3 hb3;have hbl:=HD.o.1.lt;go_wp2
   go_ret
   exact⟨JV.o.AU hb3,Or.inr ⟨s,r2,_,Y2.o,rfl,⟨rfl,hx⟩,HD.o.of<|hb3.block b hbl⟩⟩
end Go.W
