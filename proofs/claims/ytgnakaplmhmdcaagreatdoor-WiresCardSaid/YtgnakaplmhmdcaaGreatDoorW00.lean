import Derived.Test.YtgnakaplmhmdcaaGreatDoorV
import Derived.WalkKit
import Derived.Deep.AppendLies
import Derived.Deep.Draws
import Derived.Laws.Append
import Derived.Laws.IdiomStrings
import Derived.Laws.OwnMore
import Derived.Test.YtgnakaplmhmdcaaGreatDoorProg
import Derived.WalkLawsBesides
import Derived.WalkSpells
import Derived.Outline
import Derived.BigQuiet
import Derived.Deep.QuietTactic
import Derived.Handy
import Derived.RangeFuncNested
import Derived.RangeFuncLeaves
import Derived.RangeFuncBound
import Derived.RangeFuncCalls
import Derived.Shelf.RegionOpen
import Derived.OwnWalkIn
import Derived.TacticsInMore
import Derived.LoopNIn
import Derived.LoopIn
import Derived.MapKept
set_option maxRecDepth 100000
set_option maxHeartbeats 8000000
open Go.Proofs Go.RowKit Go.W
namespace Go.W
structure Box (p:Prop):Prop where
 out:p
theorem Zaa {p:Prop}(h:p):Box p:=⟨h⟩
end Go.W
namespace Go.W
variable {s B B':Nat}{v:Value}{w w':World}
inductive T where
 | mk (k i:Int) (t:ByteArray) (l:List T)
def T.k:T->Int | .mk k _ _ _=>k
def T.i:T->Int | .mk _ i _ _=>i
def T.t:T->ByteArray | .mk _ _ t _=>t
def T.l:T->List T | .mk _ _ _ l=>l
structure A where
 name:ByteArray
 terms:List T
structure G where
 op:Int
 a:T
 b:T
structure R where
 head:A
 body:List A
 guards:List G
structure Pol where
 allow:Bool
 either:List R
structure Bk where
 facts:List A
 rules:List R
 checks:List (List R)
def Zk2 (n:Int):Prop:= -9223372036854775808<=n/\n<=9223372036854775807
structure Zao {α:Type} (s:Nat) (Q:Nat->Nat->α->Prop) (p:Option Addr) (xs:List α):Prop where
 len:xs.length < 1000000000
 at_: ∀ i x,xs[i]?=some x-> ∃ b o,p=some ⟨b,o,none⟩/\Q b (o+i*s) x
def Zlr {α:Type} (s:Nat) (Q:Nat->Nat->α->Prop) (v:Value) (xs:List α):Prop:=
 ∃ p cap,v= .slice p xs.length cap/\xs.length<=cap/\Zao s Q p xs
structure Zyw (Q:Nat->Nat->T->Prop) (kv iv tv lv:Value) (x:T):Prop where
 k:kv= .int .i64 x.k
 i:iv= .int .i64 x.i
 t:tv= .string x.t
 kr:Zk2 x.k
 ir:Zk2 x.i
 tr:x.t.size < 1000000000
 l:Zlr 4 Q lv x.l
def Zbl (B:Nat) (w:World):Nat->Nat->Nat->T->Prop
 | 0,_,_,_=>False
 | d+1,b,o,x=>b < B/\ ∃ lv,w.cell? ⟨b,o,none⟩=some (.int .i64 x.k)/\w.cell? ⟨b,o+1,none⟩=some (.int .i64 x.i)/\w.cell? ⟨b,o+2,none⟩=some (.string x.t)/\w.cell? ⟨b,o+3,none⟩=some lv/\
   Zyw (Zbl B w d) (.int .i64 x.k) (.int .i64 x.i) (.string x.t) lv x
def Z2j (B:Nat) (w:World) (d:Nat) (v:Value) (xs:List T):Prop:=Zlr 4 (Zbl B w d) v xs
structure Zbd (B:Nat) (w:World) (d:Nat) (b o:Nat) (x:A):Prop where
 blk:b < B
 name:w.cell? ⟨b,o,none⟩=some (.string x.name)
 size:x.name.size < 1000000000
 terms: ∃ v,w.cell? ⟨b,o+1,none⟩=some v/\Z2j B w d v x.terms
def Z0u (B:Nat) (w:World) (d:Nat) (v:Value) (xs:List A):Prop:=Zlr 2 (Zbd B w d) v xs
structure Zco (B:Nat) (w:World) (d:Nat) (b o:Nat) (x:G):Prop where
 blk:b < B
 op:w.cell? ⟨b,o,none⟩=some (.int .i64 x.op)
 opr:Zk2 x.op
 a:Zbl B w d b (o+1) x.a
 b:Zbl B w d b (o+5) x.b
def Zvf (B:Nat) (w:World) (d:Nat) (v:Value) (xs:List G):Prop:=Zlr 9 (Zco B w d) v xs
structure Zb4 (B:Nat) (w:World) (d:Nat) (b o:Nat) (x:R):Prop where
 blk:b < B
 head:Zbd B w d b o x.head
 body: ∃ v,w.cell? ⟨b,o+2,none⟩=some v/\Z0u B w d v x.body
 guards: ∃ v,w.cell? ⟨b,o+3,none⟩=some v/\Zvf B w d v x.guards
def Zxi (B:Nat) (w:World) (d:Nat) (v:Value) (xs:List R):Prop:=Zlr 4 (Zb4 B w d) v xs
structure Zhg (B:Nat) (w:World) (d:Nat) (b o:Nat) (x:List R):Prop where
 blk:b < B
 either: ∃ v,w.cell? ⟨b,o,none⟩=some v/\Zxi B w d v x
def Zt8 (B:Nat) (w:World) (d:Nat) (v:Value) (xs:List (List R)):Prop:=Zlr 1 (Zhg B w d) v xs
structure Zjs (B:Nat) (w:World) (d:Nat) (b o:Nat) (x:Pol):Prop where
 blk:b < B
 allow:w.cell? ⟨b,o,none⟩=some (.bool x.allow)
 either: ∃ v,w.cell? ⟨b,o+1,none⟩=some v/\Zxi B w d v x.either
structure Zcy (B:Nat) (w:World) (d:Nat) (b o:Nat) (x:Bk):Prop where
 blk:b < B
 facts: ∃ v,w.cell? ⟨b,o,none⟩=some v/\Z0u B w d v x.facts
 rules: ∃ v,w.cell? ⟨b,o+1,none⟩=some v/\Zxi B w d v x.rules
 checks: ∃ v,w.cell? ⟨b,o+2,none⟩=some v/\Zt8 B w d v x.checks
theorem Zlr.imp {α:Type}{Q Q':Nat->Nat->α->Prop}{xs:List α}(h:Zlr s Q v xs)(f: ∀ b o x,x∈xs->Q b o x->Q' b o x):Zlr s Q' v xs:=by
 obtain⟨p,cap,hv,hc,hl,ha⟩:=h;refine⟨p,cap,hv,hc,hl,fun i x hx=>?_⟩;obtain⟨b,o,hp,hq⟩:=ha i x hx;exact⟨b,o,hp,f _ _ _ (Yd8 hx) hq⟩
structure Zcw (B B':Nat) (w w':World):Prop where
 le:B<=B'
 cell: ∀ b o,b < B->w'.cell? ⟨b,o,none⟩=w.cell? ⟨b,o,none⟩
theorem Below.carry (h:Below B w w')(hB:B<=B'):Zcw B B' w w':=⟨hB,fun b o hb=>h.cell (p:=⟨b,o,none⟩) hb⟩
theorem Zcw.up (h:B<=B'):Zcw B B' w w:=⟨h,fun _ _ _=>rfl⟩
theorem Zyw.imp {Q Q':Nat->Nat->T->Prop}{kv iv tv lv:Value}{x:T}(h:Zyw Q kv iv tv lv x)(f: ∀ b o y,Q b o y->Q' b o y):Zyw Q' kv iv tv lv x:=
 ⟨h.k,h.i,h.t,h.kr,h.ir,h.tr,h.l.imp fun b o x _=>f b o x⟩
theorem Zbl.carry (c:Zcw B B' w w'): ∀ {d d' b o x},d<=d'->Zbl B w d b o x->Zbl B' w' d' b o x:=by
 intro d;induction d with
 | zero=>intro d' b o x _ h;exact h.elim
 | succ d ih=>
  intro d' b o x hd h;obtain⟨hb,lv,h0,h1,h2,h3,h4⟩:=h;obtain⟨d',rfl⟩: ∃ e,d'=e+1:=⟨d' - 1,by omega⟩;have cc:=fun o=>c.cell b o hb;exact⟨Ycz hb c.le,lv,by rw[cc];exact h0,by rw[cc];exact h1,by rw[cc];exact h2,by rw[cc];exact h3,h4.imp fun b o y=>ih (by omega)⟩
section
variable {B B':Nat} {w w':World} {d d' b o:Nat}
theorem Z2j.carry {xs:List T}(c:Zcw B B' w w')(hd:d<=d')(h:Z2j B w d v xs):Z2j B' w' d' v xs:=h.imp fun _ _ _ _=>Zbl.carry c hd
theorem Zbd.carry {x:A}(c:Zcw B B' w w')(hd:d<=d')(h:Zbd B w d b o x):Zbd B' w' d' b o x:=by
 obtain⟨hb,h1,h2,v,h3,h4⟩:=h;exact⟨Ycz hb c.le,by rw[c.cell _ _ hb];exact h1,h2,v,by rw[c.cell _ _ hb];exact h3,h4.carry c hd⟩
theorem Z0u.carry {xs:List A}(c:Zcw B B' w w')(hd:d<=d')(h:Z0u B w d v xs):Z0u B' w' d' v xs:=h.imp fun _ _ _ _=>Zbd.carry c hd
theorem Zco.carry {x:G}(c:Zcw B B' w w')(hd:d<=d')(h:Zco B w d b o x):Zco B' w' d' b o x:=by
 obtain⟨hb,h1,h2,h3,h4⟩:=h;exact⟨Ycz hb c.le,by rw[c.cell _ _ hb];exact h1,h2,h3.carry c hd,h4.carry c hd⟩
theorem Zvf.carry {xs:List G}(c:Zcw B B' w w')(hd:d<=d')(h:Zvf B w d v xs):Zvf B' w' d' v xs:=h.imp fun _ _ _ _=>Zco.carry c hd
theorem Zb4.carry {x:R}(c:Zcw B B' w w')(hd:d<=d')(h:Zb4 B w d b o x):Zb4 B' w' d' b o x:=by
 obtain⟨hb,h1,⟨v,h2,h3⟩,u,h4,h5⟩:=h;exact⟨Ycz hb c.le,h1.carry c hd,⟨v,by rw[c.cell _ _ hb];exact h2,h3.carry c hd⟩,u,by rw[c.cell _ _ hb];exact h4,h5.carry c hd⟩
theorem Zxi.carry {xs:List R}(c:Zcw B B' w w')(hd:d<=d')(h:Zxi B w d v xs):Zxi B' w' d' v xs:=h.imp fun _ _ _ _=>Zb4.carry c hd
theorem Zhg.carry {x:List R}(c:Zcw B B' w w')(hd:d<=d')(h:Zhg B w d b o x):Zhg B' w' d' b o x:=by
 obtain⟨hb,v,h2,h3⟩:=h;exact⟨Ycz hb c.le,v,by rw[c.cell _ _ hb];exact h2,h3.carry c hd⟩
theorem Zt8.carry {xs:List (List R)}(c:Zcw B B' w w')(hd:d<=d')(h:Zt8 B w d v xs):Zt8 B' w' d' v xs:=h.imp fun _ _ _ _=>Zhg.carry c hd
theorem Zjs.carry {x:Pol}(c:Zcw B B' w w')(hd:d<=d')(h:Zjs B w d b o x):Zjs B' w' d' b o x:=by
 obtain⟨hb,h1,v,h2,h3⟩:=h;exact⟨Ycz hb c.le,by rw[c.cell _ _ hb];exact h1,v,by rw[c.cell _ _ hb];exact h2,h3.carry c hd⟩
theorem Zcy.carry {x:Bk}(c:Zcw B B' w w')(hd:d<=d')(h:Zcy B w d b o x):Zcy B' w' d' b o x:=by
 obtain⟨hb,⟨v,h2,h3⟩,⟨u,h4,h5⟩,q,h6,h7⟩:=h;exact⟨Ycz hb c.le,⟨v,by rw[c.cell _ _ hb];exact h2,h3.carry c hd⟩,⟨u,by rw[c.cell _ _ hb];exact h4,h5.carry c hd⟩,q,by rw[c.cell _ _ hb];exact h6,h7.carry c hd⟩
end
theorem Zao.get {α:Type}{Q:Nat->Nat->α->Prop}{p:Option Addr}{xs:List α}(h:Zao s Q p xs)(i:Nat)(hi:i < xs.length): ∃ b o,p=some ⟨b,o,none⟩/\Q b (o+i*s) xs[i]:=h.at_ i xs[i] (Yc0 hi)
end Go.W
namespace Go.W
variable {P:Program}{w:World}{t e:TypeId}{size bytes:Nat}{ops:Array Oper}{o:Oper}{a:Act}{Q:Exit->Act->World->Prop}
def Zdp (P:Program) (t e:TypeId) (size bytes:Nat):Prop:=
 ∃ i z,P.underlying t=some (.slice e)/\P.info? e=some i/\i.zero=some z/\i.size=size/\i.bytes=bytes/\z.cells.size=size/\0 < size/\bytes<=1000
structure Zr0 (w w1:World) (B:Nat) (e:TypeId) (size:Nat) (v:Value) (g cap n:Nat) (xs:List Value):Prop where
 own:w1.ownsRow B e size (.slice (some ⟨g,0,none⟩) n cap) n xs
 grown:w.grownBy w1 v.ownBlock
 spot:v.ownBlock=some g\/g=w.heap.size
 lt:g < w1.heap.size
theorem Zvq (E:Zdp P t e size bytes){rest:List Oper}(hgd:o.guard=none)(s x:Operand)
  (ho:o.op= .call {callee:= .builtin .append,args:=#[s,x],argTypes:=#[t,t]}) (B:Nat) (v:Value) (n:Nat) (xs:List Value) (hs:a.eval s=v) (hown:w.ownsRow B e size v n xs)
  (b:Nat) (cs:Array Value) (et:TypeId) (fr:Nat×Nat) (hx:a.eval x= .slice (some ⟨b,0,none⟩) 1 1) (hblk:w.heap[b]?=some (.cells cs et fr)) (hcs:cs.size=size) (h1: ∀ u∈cs.toList,u.oneCell'=true)
  (hn:n < 1000000000) (hB:B<=w.heap.size)
  (h: ∀ g cap w1,Zr0 w w1 B e size v g cap (n+1) (xs++cs.toList)->wpList P ops Q rest (a.put o.dst (.slice (some ⟨g,0,none⟩) (n+1) cap)) w1):wpList P ops Q (o::rest) a w:=by
 obtain⟨i,z,ht,hi,hz,hsize,hby,hzs,hsz,hbb⟩:=E;have hbytes:(n+1)*bytes<=140737488355328:=by
  have h:(n+1)*bytes<=1000000000*1000:=Nat.mul_le_mul (by omega) hbb;omega
 exact wpList_append_lies w hgd s x t ho B e i z size bytes ht hi hz hsize hby hzs hsz v n xs hs hown ⟨b,0,none⟩ 1 1 cs.toList hx (by simp[hcs]) (World.news_of_block hblk) h1 (by omega) (by unfold maxLen;omega) hbytes hB _ rfl
  fun g cap w1 h2 h3 h4 h5=>h g cap w1 ⟨h2,h3,h4,h5⟩
theorem Z34 (E:Zdp P t e size bytes){K:Act->World->Prop}{F:Prop}(hgd:o.guard=none)(s x:Operand)
  (ho:o.op= .call {callee:= .builtin .append,args:=#[s,x],argTypes:=#[t,t]}) (B:Nat) (v:Value) (n:Nat) (xs:List Value) (hs:a.eval s=v) (hown:w.ownsRow B e size v n xs)
  (b:Nat) (cs:Array Value) (et:TypeId) (fr:Nat×Nat) (hx:a.eval x= .slice (some ⟨b,0,none⟩) 1 1) (hblk:w.heap[b]?=some (.cells cs et fr)) (hcs:cs.size=size) (h1: ∀ u∈cs.toList,u.oneCell'=true)
  (hn:n < 1000000000) (hB:B<=w.heap.size)
  (h: ∀ g cap w1,Zr0 w w1 B e size v g cap (n+1) (xs++cs.toList)->K (a.put o.dst (.slice (some ⟨g,0,none⟩) (n+1) cap)) w1):
  if Region.wanted o (yielded ops a.tmps)=true then Oper.wp P o a w K Q else F:=by
 obtain⟨i,z,ht,hi,hz,hsize,hby,hzs,hsz,hbb⟩:=E;have hbytes:(n+1)*bytes<=140737488355328:=by
  have h:(n+1)*bytes<=1000000000*1000:=Nat.mul_le_mul (by omega) hbb;omega
 exact step_append_lies w hgd s x t ho B e i z size bytes ht hi hz hsize hby hzs hsz v n xs hs hown ⟨b,0,none⟩ 1 1 cs.toList hx (by simp[hcs]) (World.news_of_block hblk) h1 (by omega) (by unfold maxLen;omega) hbytes hB _ rfl
  fun g cap w1 h2 h3 h4 h5=>h g cap w1 ⟨h2,h3,h4,h5⟩
theorem Zas (w:World)(o:Obj):(w.alloc o).heap[w.heap.size]?=some o:=heap_alloc_new w o
end Go.W
namespace Go.W
def Zab (s:ByteArray):List Nat:=s.data.toList.map UInt8.toNat
theorem Zhn (s:ByteArray):(Zab s).length=s.size:=by simp[Zab]
theorem Zrj (s:ByteArray): ∀ i,(Zab s).getD i 0 < 256:=by
 intro i;simp only[Zab,List.getD_eq_getElem?_getD,Ydn];cases s.data.toList[i]? with
 | none=>simp
 | some b=>simpa using b.toNat_lt
end Go.W
namespace Go.W
def Zaz (c:Nat):Bool:=decide (48<=c) && decide (c<=57)
def Zce (c:Nat):Bool:=decide (97<=c) && decide (c<=122)
def Zav (c:Nat):Bool:=Zce c || Zaz c || decide (c=95)
def Z47 (bs:List Nat) (i:Nat):Bool:=Zce (bs.getD i 0) || (decide (i≠0) && (Zaz (bs.getD i 0) || decide (bs.getD i 0=95)))
def Zcp (t:ByteArray):Bool:=decide (∀ i,i < t.size->Z47 (Zab t) i=true) && decide (1<=t.size) && decide (t.size<=16)
def Z99:Nat->Nat->List Nat->Option Nat
 | 0,v,_=>some v
 | _+1,_,[]=>none
 | k+1,v,d::r=>if 128<=d/\d<=191 then Z99 k (64*v+(d - 128)) r else none
def Ycd (n:Nat):Option Nat->Nat×Nat
 | none=>(0,0)
 | some v=>if n=3/\(v < 2048\/55296<=v/\v<=57343)\/n=4/\(v < 65536\/1114111 < v)then(0,0)else(n,v)
def Z1w (c:Nat):Nat×Nat:=if c < 128 then(1,c)else if 194<=c/\c<=223 then(2,c - 192)else if 224<=c/\c<=239 then(3,c - 224)else if 240<=c/\c<=244 then(4,c - 240)else(0,0)
def Yaz:List Nat->Nat×Nat
 | []=>(0,0)
 | c::r=>if(Z1w c).1<=1 then Z1w c else Ycd (Z1w c).1 (Z99 ((Z1w c).1 - 1) (Z1w c).2 r)
def Yau:Nat->List Nat->Bool
 | _,[]=>true
 | 0,_::_=>false
 | f+1,c::r=>if(Yaz (c::r)).1=0 then false else Yau f ((c::r).drop (Yaz (c::r)).1)
def Yby (t:ByteArray):Bool:=Yau t.size (Zab t)
def Zax {α:Type} (f:α->Int):List α->Int
 | []=>0
 | x::r=>if f x≠0 then f x else Zax f r
def Z2z (deep:Nat) (k i:Int) (t:ByteArray) (n:Nat):Int:=
 if k < 1\/7 < k then 2
 else if(i≠0/\ ¬ (k=2\/k=5\/k=6))\/(t.size≠0/\ ¬ (k=1\/k=3\/k=4))\/(0 < n/\k≠7)then 2
 else if k=1/\(Zcp t=false\/0 < deep)then 2
 else if k=3/\Yby t=false then 2
 else if k=6/\i≠0/\i≠1 then 2
 else if 64 < t.size\/6 < n then 4
 else if k=7/\deep=3 then 3
 else 0
mutual
def Z7r (deep:Nat):T->Int
 | .mk k i t l=>if Z2z deep k i t l.length≠0 then Z2z deep k i t l.length else Z3j (deep+1) l
def Z3j (deep:Nat):List T->Int
 | []=>0
 | x::r=>if Z7r deep x≠0 then Z7r deep x else Z3j deep r
end
def Z6o (t:T):Bool:=decide (t.k=1)
def b1 (n:Nat):ByteArray:=⟨#[UInt8.ofNat n]⟩
def cat {α:Type} (f:α->ByteArray):List α->ByteArray
 | []=>ByteArray.empty
 | x::r=>f x++cat f r
def Zqx:Nat->Nat->ByteArray
 | 0,n=>b1 n
 | f+1,n=>if 128<=n then b1 (n % 128+128)++Zqx f (n / 128)else b1 n
def Zfi (n:Nat):ByteArray:=Zqx 10 n
def Zdk (t:ByteArray):ByteArray:=Zfi t.size++t
def Zi9 (i:Int):Nat:=if i < 0 then(-2*i - 1).toNat else(2*i).toNat
mutual
def Zd5:T->ByteArray
 | .mk k i t l=>b1 (k % 256).toNat++(if k=2\/k=5 then Zfi (Zi9 i)else if k=6 then b1 (i % 256).toNat else if k=7 then Zfi l.length++Z2q l else Zdk t)
def Z2q:List T->ByteArray
 | []=>ByteArray.empty
 | x::r=>Zd5 x++Z2q r
end
theorem Zyz (l:List T):Z2q l=cat Zd5 l:=by
 induction l with
 | nil=>simp[Z2q,cat]
 | cons x r ih=>simp[Z2q,cat,ih]
def Za4 {α:Type} (f:α->ByteArray) (l:List α):ByteArray:=Zfi l.length++cat f l
theorem Zwu (x:T):Zd5 x=b1 (x.k % 256).toNat++(if x.k=2\/x.k=5 then Zfi (Zi9 x.i)else if x.k=6 then b1 (x.i % 256).toNat else if x.k=7 then Za4 Zd5 x.l else Zdk x.t):=by
 cases x;rw[Zd5,Zyz];rfl
def Zk4 (a:A):ByteArray:=Zdk a.name++Za4 Zd5 a.terms
def Zvg (g:G):ByteArray:=b1 (g.op % 256).toNat++Zd5 g.a++Zd5 g.b
def Zb6 (r:R):ByteArray:=Za4 Zk4 r.body++Za4 Zvg r.guards
def Zvi (r:R):ByteArray:=Zk4 r.head++Zb6 r
def Zdx (b:Bk):ByteArray:=Za4 Zk4 b.facts++Za4 Zvi b.rules++Za4 (Za4 Zb6) b.checks
def Zgc (op:Int):ByteArray:=
 if op=1 then⟨#[61,61]⟩else if op=2 then⟨#[33,61]⟩else if op=3 then⟨#[60]⟩else if op=4 then⟨#[60,61]⟩else if op=5 then⟨#[62]⟩else if op=6 then⟨#[62,61]⟩else if op=7 then⟨#[94,61]⟩else⟨#[]⟩
def Zwn:ByteArray:=⟨#[59,10]⟩
end Go.W
namespace Go.W
structure Tok where
 kind:Nat
 text:ByteArray
 num:Int
 at_:Nat
def Zi3 (c:Nat):Bool:=decide (c=32) || decide (c=9) || decide (c=10) || decide (c=13)
def Zdh (c:Nat):Bool:=Zaz c || (decide (97<=c) && decide (c<=102))
section
variable (bs:List Nat)
def Zj3 (ok:Nat->Bool):Nat->Nat->Nat
 | 0,p=>p
 | f+1,p=>if p < bs.length/\ok (bs.getD p 0)=true then Zj3 ok f (p+1)else p
def Zbv (ok:Nat->Bool) (p:Nat):Nat:=Zj3 bs ok (bs.length - p) p
def Zmg:Nat->Nat->Nat
 | 0,p=>p
 | f+1,p=>if p < bs.length/\Zi3 (bs.getD p 0)=true then Zmg f (p+1)
   else if p+1 < bs.length/\bs.getD p 0=47/\bs.getD (p+1) 0=47 then Zmg f (Zbv bs (fun c=>decide (c≠10)) p)else p
def Zgv (p:Nat):Nat:=Zmg bs (bs.length - p) p
end
section
variable (t:ByteArray)
def Zga:List ByteArray:=[⟨#[60,45]⟩,⟨#[60,61]⟩,⟨#[62,61]⟩,⟨#[61,61]⟩,⟨#[33,61]⟩,⟨#[94,61]⟩,⟨#[60]⟩,⟨#[62]⟩,⟨#[40]⟩,⟨#[41]⟩,⟨#[91]⟩,⟨#[93]⟩,⟨#[44]⟩,⟨#[59]⟩]
def isP (m:ByteArray) (s:Tok×Nat):Bool:=(decide (s.1.kind=109) || decide (s.1.kind=110)) && decide (s.1.text=m)
def Z45 (s:Tok×Nat):Int:=if isP (Zgc 1) s then 1 else if isP (Zgc 2) s then 2 else if isP (Zgc 3) s then 3 else if isP (Zgc 4) s then 4 else if isP (Zgc 5) s then 5 else if isP (Zgc 6) s then 6 else if isP (Zgc 7) s then 7 else 0
end
end Go.W
namespace Go.W
variable {a b c d v:Value}{w w':World}{B B':Nat}{F:List Nat}{x:T}
def Blk (w:World) (L:Nat) (cs:Array Value) (e:TypeId):Prop:=w.heap[L]?=some (.cells cs e (0,0))
section
variable {w w':World} {L:Nat} {cs:Array Value} {e:TypeId}
theorem Blk.lt (h:Blk w L cs e):L < w.heap.size:=(Yc6.1 h).1
theorem Blk.cell (h:Blk w L cs e)(j:Nat):w.cell? ⟨L,j,none⟩=cs[j]?:=cell_of_row w L j cs e (0,0) h
theorem Blk.soft (h:Blk w L cs e)(j:Nat):w.frozen? ⟨L,j,none⟩=false:=by
 unfold Blk at h;simp[World.frozen?,h]
theorem Blk.of (h:Blk w L cs e)(k:w'.heap[L]?=w.heap[L]?):Blk w' L cs e:=k.trans h
theorem Blk.set (h:Blk w L cs e)(j:Nat)(v:Value):Blk (w.setCell ⟨L,j,none⟩ v) L (cs.setIfInBounds j v) e:=heap_setCell_same w L j cs e v h
theorem Blk.away (h:Blk w L cs e)(b o:Nat)(hne:L≠b)(v:Value):Blk (w.setCell ⟨b,o,none⟩ v) L cs e:=h.of (Ycy w _ v L hne)
theorem Blk.alloc (h:Blk w L cs e)(o:Obj):Blk (w.alloc o) L cs e:=h.of (Ycx w o L h.lt)
theorem Blk.new (w:World)(cs:Array Value)(e:TypeId):Blk (w.alloc (.cells cs e)) w.heap.size cs e:=heap_alloc_new w _
theorem Blk.one (h:Blk w L #[a] e):w.cell? ⟨L,0,none⟩=some a/\ ∀ j,w.frozen? ⟨L,j,none⟩=false:=⟨h.cell 0,h.soft⟩
theorem Blk.two (h:Blk w L #[a,b] e):w.cell? ⟨L,0,none⟩=some a/\w.cell? ⟨L,1,none⟩=some b/\ ∀ j,w.frozen? ⟨L,j,none⟩=false:=⟨h.cell 0,h.cell 1,h.soft⟩
theorem Blk.three (h:Blk w L #[a,b,c] e):w.cell? ⟨L,0,none⟩=some a/\w.cell? ⟨L,1,none⟩=some b/\w.cell? ⟨L,2,none⟩=some c/\ ∀ j,w.frozen? ⟨L,j,none⟩=false:=⟨h.cell 0,h.cell 1,h.cell 2,h.soft⟩
theorem Blk.four (h:Blk w L #[a,b,c,d] e):w.cell? ⟨L,0,none⟩=some a/\w.cell? ⟨L,1,none⟩=some b/\w.cell? ⟨L,2,none⟩=some c/\w.cell? ⟨L,3,none⟩=some d/\ ∀ j,w.frozen? ⟨L,j,none⟩=false:=⟨h.cell 0,h.cell 1,h.cell 2,h.cell 3,h.soft⟩
theorem Blk.nine {e1 f g i j:Value}(h:Blk w L #[a,b,c,d,e1,f,g,i,j] e):w.cell? ⟨L,0,none⟩=some a/\w.cell? ⟨L,1,none⟩=some b/\w.cell? ⟨L,2,none⟩=some c/\w.cell? ⟨L,3,none⟩=some d/\w.cell? ⟨L,4,none⟩=some e1/\w.cell? ⟨L,5,none⟩=some f/\w.cell? ⟨L,6,none⟩=some g/\w.cell? ⟨L,7,none⟩=some i/\w.cell? ⟨L,8,none⟩=some j/\ ∀ j,w.frozen? ⟨L,j,none⟩=false:=
 ⟨h.cell 0,h.cell 1,h.cell 2,h.cell 3,h.cell 4,h.cell 5,h.cell 6,h.cell 7,h.cell 8,h.soft⟩
theorem Blk.dr (h:Blk w L cs e)(n:Nat):Blk (w.drewN n) L cs e:=h
end
structure Tys where
 term:TypeId
 atom:TypeId
 guard:TypeId
 rule:TypeId
 check:TypeId
 pol:TypeId
abbrev Zgk (α:Type):=World->List Value->α->List Nat->Prop
def Zcx {α:Type} (Q:Zgk α):Prop:= ∀ w w' vs x F,Q w vs x F->(∀ k,k∈F->w'.heap[k]?=w.heap[k]?)->Q w' vs x F
def Zag {α:Type} (e:TypeId) (s:Nat) (Q:Zgk α) (w:World) (v:Value) (xs:List α) (F:List Nat):Prop:=
 ∃ zs:List (List Value×α×List Nat),w.ownsRow 0 e s v zs.length (zs.map (·.1)).flatten/\(∀ z,z∈zs->z.1.length=s/\Q w z.1 z.2.1 z.2.2)/\xs=zs.map (·.2.1)/\F=v.ownBlock.toList++(zs.map (·.2.2)).flatten/\zs.length < 1000000000
section
variable {α:Type} {e:TypeId} {s:Nat} {Q:Zgk α} {w w':World} {v:Value} {xs:List α} {F:List Nat}
theorem Zag.nil:Zag e s Q w (.slice none 0 0) [] []:=⟨[],World.ownsRow_nil w 0 e s,fun _ h=>(by cases h),rfl,rfl,by simp⟩
theorem Zag.form (h:Zag e s Q w v xs F): ∃ p cap,v= .slice p xs.length cap:=by
 obtain⟨zs,ho,_,rfl,_,_⟩:=h;rcases ho.2 with⟨rfl,h0⟩ | ⟨g,cap,cur,rfl,_⟩
 ·exact⟨none,0,by simp[h0]⟩
 ·exact⟨some ⟨g,0,none⟩,cap,by simp⟩
theorem Zag.one (h:Zag e s Q w v xs F):v.oneCell'=true:=by
 obtain⟨p,cap,rfl⟩:=h.form;rfl
theorem Z1i {n:Nat}{vs:List Value}(h:w.ownsRow B e s v n vs)(hb: ∀ k,v.ownBlock=some k->w'.heap[k]?=w.heap[k]?):w'.ownsRow B e s v n vs:=by
 refine⟨h.1,?_⟩;rcases h.2 with h2 | ⟨g,cap,cur,rfl,h1,h2,h3⟩
 ·exact .inl h2
 ·exact .inr ⟨g,cap,cur,rfl,h1,by rw[hb g rfl];exact h2,h3⟩
theorem Zag.keep {Q':Zgk α}(h:Zag e s Q w v xs F)(hb: ∀ k,k∈F->w'.heap[k]?=w.heap[k]?)(f: ∀ vs x G,(∀ k,k∈G->k∈F)->x∈xs->Q w vs x G->Q' w' vs x G):Zag e s Q' w' v xs F:=by
 obtain⟨zs,ho,hz,rfl,rfl,hl⟩:=h;refine⟨zs,Z1i ho (fun k hk=>hb k (by simp[hk])),fun z hm=>⟨(hz z hm).1,f _ _ _ (fun k hk=>?_) (List.mem_map.2 ⟨z,hm,rfl⟩) (hz z hm).2⟩,rfl,rfl,hl⟩;exact Ydv _ (List.mem_flatten.2 ⟨z.2.2,List.mem_map.2 ⟨z,hm,rfl⟩,hk⟩)
theorem Zag.stable (hQ:Zcx Q): ∀ w w' v xs F,Zag e s Q w v xs F->(∀ k,k∈F->w'.heap[k]?=w.heap[k]?)->Zag e s Q w' v xs F:=by
 intro w w' v xs F h hb;exact h.keep hb fun vs x G hG _ hq=>hQ w w' vs x G hq fun k hk=>hb k (hG k hk)
end
structure Za9 (B:Nat) (w:World) (F:List Nat):Prop where
 once:F.Nodup
 ge: ∀ k,k∈F->B<=k
 lt: ∀ k,k∈F->k < w.heap.size
theorem Za9.nil (B:Nat)(w:World):Za9 B w []:=⟨List.nodup_nil,fun _ h=>(by cases h),fun _ h=>(by cases h)⟩
theorem Za9.later (h:Za9 B w F)(hB:B'<=B)(hs:w.heap.size<=w'.heap.size):Za9 B' w' F:=⟨h.once,fun k hk=>Ycu hB (h.ge k hk),fun k hk=>Ycz (h.lt k hk) hs⟩
theorem Za9.append {G:List Nat}(h:Za9 B w F)(k:Za9 B' w' G)(hB:B<=B')(hs:w.heap.size<=B')(hw:w.heap.size<=w'.heap.size):Za9 B w' (F++G):=
 ⟨Yd4.2 ⟨h.once,k.once,fun a ha b hb e=>by have:=h.lt a ha;have:=k.ge b hb;omega⟩,
  fun a ha=>(Yc2.1 ha).elim (h.ge a) fun q=>Ycu hB (k.ge a q),fun a ha=>(Yc2.1 ha).elim (fun q=>Ycz (h.lt a q) hw) (k.lt a)⟩
section
variable (ty:Tys)
def Za3:Nat->Zgk T
 | 0=>fun _ _ _ _=>False
 | d+1=>fun w vs x F=> ∃ lv,vs=[.int .i64 x.k,.int .i64 x.i,.string x.t,lv]/\Zk2 x.k/\Zk2 x.i/\x.t.size < 1000000000/\Zag ty.term 4 (Za3 d) w lv x.l F
def Zkt (d:Nat):World->Value->List T->List Nat->Prop:=Zag ty.term 4 (Za3 ty d)
def Zbj (d:Nat):Zgk A:=fun w vs x F=> ∃ tv,vs=[.string x.name,tv]/\x.name.size < 1000000000/\Zkt ty d w tv x.terms F
def Zej (d:Nat):World->Value->List A->List Nat->Prop:=Zag ty.atom 2 (Zbj ty d)
def Zbr (d:Nat):Zgk G:=fun w vs x F=> ∃ va vb Fa Fb,vs= .int .i64 x.op::(va++vb)/\Zk2 x.op/\Za3 ty d w va x.a Fa/\Za3 ty d w vb x.b Fb/\F=Fa++Fb
def Zfq (d:Nat):World->Value->List G->List Nat->Prop:=Zag ty.guard 9 (Zbr ty d)
def Zbq (d:Nat):Zgk R:=fun w vs x F=> ∃ hv bv gv Fh Fb Fg,vs=hv++[bv,gv]/\Zbj ty d w hv x.head Fh/\Zej ty d w bv x.body Fb/\Zfq ty d w gv x.guards Fg/\F=Fh++(Fb++Fg)
def Zhw (d:Nat):World->Value->List R->List Nat->Prop:=Zag ty.rule 4 (Zbq ty d)
def Zbu (d:Nat):Zgk (List R):=fun w vs x F=> ∃ v,vs=[v]/\Zhw ty d w v x F
def Zip (d:Nat):World->Value->List (List R)->List Nat->Prop:=Zag ty.check 1 (Zbu ty d)
def Zg9 (d:Nat):Zgk Pol:=fun w vs x F=> ∃ v,vs=[.bool x.allow,v]/\Zhw ty d w v x.either F
def Zba (d:Nat):Zgk Bk:=fun w vs x F=> ∃ fv rv cv F1 F2 F3,vs=[fv,rv,cv]/\Zej ty d w fv x.facts F1/\Zhw ty d w rv x.rules F2/\Zip ty d w cv x.checks F3/\F=F1++(F2++F3)
end
section
variable {ty:Tys} {d d':Nat} {w w':World} {vs:List Value} {F:List Nat}
theorem Za3.stable: ∀ d,Zcx (Za3 ty d):=by
 intro d;induction d with
 | zero=>intro w w' vs x F h;exact h.elim
 | succ d ih=>
  intro w w' vs x F h hb;obtain⟨lv,h1,h2,h3,h4,h5⟩:=h;exact⟨lv,h1,h2,h3,h4,Zag.stable ih _ _ _ _ _ h5 hb⟩
theorem Zkt.stable {xs:List T}(h:Zkt ty d w v xs F)(hb: ∀ k,k∈F->w'.heap[k]?=w.heap[k]?):Zkt ty d w' v xs F:=Zag.stable (Za3.stable d) _ _ _ _ _ h hb
theorem Zbj.stable (d:Nat):Zcx (Zbj ty d):=by
 intro w w' vs x F h hb;obtain⟨tv,h1,h2,h3⟩:=h;exact⟨tv,h1,h2,h3.stable hb⟩
theorem Zej.stable {xs:List A}(h:Zej ty d w v xs F)(hb: ∀ k,k∈F->w'.heap[k]?=w.heap[k]?):Zej ty d w' v xs F:=Zag.stable (Zbj.stable d) _ _ _ _ _ h hb
theorem Zbr.stable (d:Nat):Zcx (Zbr ty d):=by
 intro w w' vs x F h hb;obtain⟨va,vb,Fa,Fb,h1,h2,h3,h4,rfl⟩:=h;exact⟨va,vb,Fa,Fb,h1,h2,Za3.stable d _ _ _ _ _ h3 fun k hk=>hb k (Yd0 _ hk),Za3.stable d _ _ _ _ _ h4 fun k hk=>hb k (Ydv _ hk),rfl⟩
theorem Zfq.stable {xs:List G}(h:Zfq ty d w v xs F)(hb: ∀ k,k∈F->w'.heap[k]?=w.heap[k]?):Zfq ty d w' v xs F:=Zag.stable (Zbr.stable d) _ _ _ _ _ h hb
theorem Zbq.stable (d:Nat):Zcx (Zbq ty d):=by
 intro w w' vs x F h hb;obtain⟨hv,bv,gv,Fh,Fb,Fg,h1,h2,h3,h4,rfl⟩:=h;exact⟨hv,bv,gv,Fh,Fb,Fg,h1,Zbj.stable d _ _ _ _ _ h2 fun k hk=>hb k (by simp[hk]),h3.stable fun k hk=>hb k (by simp[hk]),h4.stable fun k hk=>hb k (by simp[hk]),rfl⟩
theorem Zhw.stable {xs:List R}(h:Zhw ty d w v xs F)(hb: ∀ k,k∈F->w'.heap[k]?=w.heap[k]?):Zhw ty d w' v xs F:=Zag.stable (Zbq.stable d) _ _ _ _ _ h hb
theorem Zbu.stable (d:Nat):Zcx (Zbu ty d):=by
 intro w w' vs x F h hb;obtain⟨v,h1,h2⟩:=h;exact⟨v,h1,h2.stable hb⟩
theorem Zip.stable {xs:List (List R)}(h:Zip ty d w v xs F)(hb: ∀ k,k∈F->w'.heap[k]?=w.heap[k]?):Zip ty d w' v xs F:=Zag.stable (Zbu.stable d) _ _ _ _ _ h hb
theorem Zg9.stable (d:Nat):Zcx (Zg9 ty d):=by
 intro w w' vs x F h hb;obtain⟨v,h1,h2⟩:=h;exact⟨v,h1,h2.stable hb⟩
theorem Zba.stable (d:Nat):Zcx (Zba ty d):=by
 intro w w' vs x F h hb;obtain⟨fv,rv,cv,F1,F2,F3,h1,h2,h3,h4,rfl⟩:=h;exact⟨fv,rv,cv,F1,F2,F3,h1,h2.stable fun k hk=>hb k (by simp[hk]),h3.stable fun k hk=>hb k (by simp[hk]),h4.stable fun k hk=>hb k (by simp[hk]),rfl⟩
theorem Za3.len (h:Za3 ty d w vs x F):vs.length=4:=by
 cases d with
 | zero=>exact h.elim
 | succ d=>obtain⟨lv,rfl,_⟩:=h;rfl
theorem Za3.one (h:Za3 ty d w vs x F): ∀ u,u∈vs->u.oneCell'=true:=by
 cases d with
 | zero=>exact h.elim
 | succ d=>
  obtain⟨lv,rfl,_,_,_,h5⟩:=h
  have:=h5.one
  intro u hu;simp only[Yc1,Yec,or_false]at hu;rcases hu with rfl | rfl | rfl | rfl <;> first | rfl | exact this
theorem Zbj.one {x:A}(h:Zbj ty d w vs x F): ∀ u,u∈vs->u.oneCell'=true:=by
 obtain⟨tv,rfl,_,h3⟩:=h
 have:=Zag.one h3
 intro u hu;simp only[Yc1,Yec,or_false]at hu;rcases hu with rfl | rfl <;> first | rfl | exact this
theorem Zbr.one {x:G}(h:Zbr ty d w vs x F): ∀ u,u∈vs->u.oneCell'=true:=by
 obtain⟨va,vb,Fa,Fb,rfl,_,h3,h4,_⟩:=h;intro u hu;simp only[Yc1,Yc2]at hu;rcases hu with rfl | hu | hu
 ·rfl
 ·exact h3.one u hu
 ·exact h4.one u hu
theorem Zbq.one {x:R}(h:Zbq ty d w vs x F): ∀ u,u∈vs->u.oneCell'=true:=by
 obtain⟨hv,bv,gv,Fh,Fb,Fg,rfl,h2,h3,h4,_⟩:=h;have a3:=Zag.one h3;have a4:=Zag.one h4;intro u hu;simp only[Yc2,Yc1,Yec,or_false]at hu;rcases hu with hu | rfl | rfl
 ·exact h2.one u hu
 ·exact a3
 ·exact a4
theorem Zbu.one {x:List R}(h:Zbu ty d w vs x F): ∀ u,u∈vs->u.oneCell'=true:=by
 obtain⟨v,rfl,h2⟩:=h
 have:=Zag.one h2
 intro u hu;simp only[Yc1,Yec,or_false]at hu;rw[hu];exact this
theorem Zg9.one {x:Pol}(h:Zg9 ty d w vs x F): ∀ u,u∈vs->u.oneCell'=true:=by
 obtain⟨v,rfl,h2⟩:=h
 have:=Zag.one h2
 intro u hu;simp only[Yc1,Yec,or_false]at hu;rcases hu with rfl | rfl
 ·rfl
 ·exact this
end
end Go.W
namespace Go.W
variable {B d b o s:Nat}{v:Value}{F:List Nat}{vs:List Value}{x:A}{e:TypeId}{w:World}
theorem Z75 {α:Type}(s:Nat): ∀ (zs:List (List Value×α×List Nat)) (_: ∀ z,z∈zs->z.1.length=s) (i:Nat) (z:List Value×α×List Nat) (_:zs[i]?=some z) (j:Nat) (_:j < s),((zs.map (·.1)).flatten)[i*s+j]?=z.1[j]?:=by
 intro zs;induction zs with
 | nil=>intro _ i z hz;simp at hz
 | cons y r ih=>
  intro hl i z hz j hj;have hy:=hl y (List.mem_cons_self ..);simp only[List.map_cons,List.flatten_cons];cases i with
  | zero=>
   simp at hz;subst hz;rw[Yef,Ydp,Ydm (by omega)]
  | succ i=>
   rw[Ydj (by rw[Nat.succ_mul];omega),hy,show(i+1)*s+j - s=i*s+j from by rw[Nat.succ_mul];omega];exact ih (fun z hz=>hl z (List.mem_cons_of_mem _ hz)) i z (by simpa using hz) j hj
section
variable {α:Type} {e:TypeId} {s:Nat} {Q:Zgk α} {w w':World} {v:Value} {xs:List α} {F:List Nat}
theorem Zag.rowOf {Q':Nat->Nat->α->Prop}(h:Zag e s Q w v xs F)(hF: ∀ k,k∈F->k < B)
  (f: ∀ b o vs x G,(∀ j,j < s->w.cell? ⟨b,o+j,none⟩=vs[j]?)->b < B->(∀ k,k∈G->k < B)->Q w vs x G->Q' b o x):Zlr s Q' v xs:=by
 obtain⟨zs,ho,hz,rfl,rfl,hl⟩:=h;rcases ho.2 with⟨rfl,h0⟩ | ⟨g,cap,cur,rfl,_,hg,hle,_⟩
 ·have:zs=[]:=List.length_eq_zero_iff.1 h0
  subst this;exact⟨none,0,rfl,Ydu _,by simp,fun i x hx=>by simp at hx⟩
 ·refine⟨some ⟨g,0,none⟩,cap,by simp,by simpa using hle,by simpa using hl,fun i x hx=>?_⟩;rw[Ydn]at hx;obtain⟨z,hzi,rfl⟩:=Ydi.1 hx;have hm:=Yd8 hzi;have hi:=(Yc3.1 hzi).1;refine⟨g,0,rfl,f g (0+i*s) z.1 z.2.1 z.2.2 (fun j hj=>?_) (hF g (by simp[Value.ownBlock])) (fun k hk=>hF k (Ydv _ (List.mem_flatten.2 ⟨z.2.2,List.mem_map.2 ⟨z,hm,rfl⟩,hk⟩))) (hz z hm).2⟩;have hb:i*s+j < zs.length*s:=by
   have:(i+1)*s<=zs.length*s:=Nat.mul_le_mul_right s (by omega)
   rw[Nat.succ_mul]at this;omega
  rw[Ydp,ho.cellAt (i*s+j) hb];exact Z75 s zs (fun z hz'=>(hz z hz').1) i z hzi j hj
end
section
variable {ty:Tys} {w:World} {B:Nat}
theorem Za3.at_: ∀ {d:Nat} {vs x F b o},Za3 ty d w vs x F->(∀ k,k∈F->k < B)->b < B->(∀ j,j < 4->w.cell? ⟨b,o+j,none⟩=vs[j]?)->Zbl B w d b o x:=by
 intro d;induction d with
 | zero=>intro vs x F b o h;exact h.elim
 | succ d ih=>
  intro vs x F b o h hF hb hc;obtain⟨lv,rfl,h2,h3,h4,h5⟩:=h;exact⟨hb,lv,hc 0 (by omega),hc 1 (by omega),hc 2 (by omega),hc 3 (by omega),rfl,rfl,rfl,h2,h3,h4,h5.rowOf hF fun _ _ _ _ _ hcc hbb hG q=>ih q hG hbb hcc⟩
theorem Zkt.rep {xs:List T}(h:Zkt ty d w v xs F)(hF: ∀ k,k∈F->k < B):Z2j B w d v xs:=
 Zag.rowOf h hF fun _ _ _ _ _ hcc hbb hG q=>Za3.at_ q hG hbb hcc
theorem Zbj.at_ (h:Zbj ty d w vs x F)(hF: ∀ k,k∈F->k < B)(hb:b < B)(hc: ∀ j,j < 2->w.cell? ⟨b,o+j,none⟩=vs[j]?):Zbd B w d b o x:=by
 obtain⟨tv,rfl,h2,h3⟩:=h;exact⟨hb,hc 0 (by omega),h2,tv,hc 1 (by omega),h3.rep hF⟩
theorem Zej.rep {xs:List A}(h:Zej ty d w v xs F)(hF: ∀ k,k∈F->k < B):Z0u B w d v xs:=
 Zag.rowOf h hF fun _ _ _ _ _ hcc hbb hG q=>Zbj.at_ q hG hbb hcc
theorem Zbr.at_ {x:G}(h:Zbr ty d w vs x F)(hF: ∀ k,k∈F->k < B)(hb:b < B)(hc: ∀ j,j < 9->w.cell? ⟨b,o+j,none⟩=vs[j]?):Zco B w d b o x:=by
 obtain⟨va,vb,Fa,Fb,rfl,h2,h3,h4,rfl⟩:=h;have la:=h3.len;have lb:=h4.len;refine⟨hb,hc 0 (by omega),h2,h3.at_ (fun k hk=>hF k (by simp[hk])) hb fun j hj=>?_,h4.at_ (fun k hk=>hF k (by simp[hk])) hb fun j hj=>?_⟩
 ·rw[show o+1+j=o+(1+j)from by omega,hc (1+j) (by omega),show 1+j=j+1 from by omega,List.getElem?_cons_succ,Ydm (by omega)]
 ·rw[show o+5+j=o+(5+j)from by omega,hc (5+j) (by omega),show 5+j=4+j+1 from by omega,List.getElem?_cons_succ,Ydj (by omega),la,show 4+j - 4=j from by omega]
theorem Zfq.rep {xs:List G}(h:Zfq ty d w v xs F)(hF: ∀ k,k∈F->k < B):Zvf B w d v xs:=
 Zag.rowOf h hF fun _ _ _ _ _ hcc hbb hG q=>Zbr.at_ q hG hbb hcc
theorem Zbj.len (h:Zbj ty d w vs x F):vs.length=2:=by
 obtain⟨tv,rfl,_⟩:=h;rfl
theorem Zbq.at_ {x:R}(h:Zbq ty d w vs x F)(hF: ∀ k,k∈F->k < B)(hb:b < B)(hc: ∀ j,j < 4->w.cell? ⟨b,o+j,none⟩=vs[j]?):Zb4 B w d b o x:=by
 obtain⟨hv,bv,gv,Fh,Fb,Fg,rfl,h2,h3,h4,rfl⟩:=h;have lh:=h2.len;refine⟨hb,h2.at_ (fun k hk=>hF k (by simp[hk])) hb fun j hj=>?_,⟨bv,?_,h3.rep fun k hk=>hF k (by simp[hk])⟩,gv,?_,h4.rep fun k hk=>hF k (by simp[hk])⟩
 ·rw[hc j (by omega),Ydm (by omega)]
 ·rw[hc 2 (by omega),Ydj (by omega),lh];rfl
 ·rw[hc 3 (by omega),Ydj (by omega),lh];rfl
theorem Zhw.rep {xs:List R}(h:Zhw ty d w v xs F)(hF: ∀ k,k∈F->k < B):Zxi B w d v xs:=
 Zag.rowOf h hF fun _ _ _ _ _ hcc hbb hG q=>Zbq.at_ q hG hbb hcc
theorem Zbu.at_ {x:List R}(h:Zbu ty d w vs x F)(hF: ∀ k,k∈F->k < B)(hb:b < B)(hc: ∀ j,j < 1->w.cell? ⟨b,o+j,none⟩=vs[j]?):Zhg B w d b o x:=by
 obtain⟨v,rfl,h2⟩:=h;exact⟨hb,v,hc 0 (by omega),h2.rep hF⟩
theorem Zip.rep {xs:List (List R)}(h:Zip ty d w v xs F)(hF: ∀ k,k∈F->k < B):Zt8 B w d v xs:=
 Zag.rowOf h hF fun _ _ _ _ _ hcc hbb hG q=>Zbu.at_ q hG hbb hcc
theorem Zg9.at_ {x:Pol}(h:Zg9 ty d w vs x F)(hF: ∀ k,k∈F->k < B)(hb:b < B)(hc: ∀ j,j < 2->w.cell? ⟨b,o+j,none⟩=vs[j]?):Zjs B w d b o x:=by
 obtain⟨v,rfl,h2⟩:=h;exact⟨hb,hc 0 (by omega),v,hc 1 (by omega),h2.rep hF⟩
theorem Zba.at_ {x:Bk}(h:Zba ty d w vs x F)(hF: ∀ k,k∈F->k < B)(hb:b < B)(hc: ∀ j,j < 3->w.cell? ⟨b,o+j,none⟩=vs[j]?):Zcy B w d b o x:=by
 obtain⟨fv,rv,cv,F1,F2,F3,rfl,h2,h3,h4,rfl⟩:=h;exact⟨hb,⟨fv,hc 0 (by omega),h2.rep fun k hk=>hF k (by simp[hk])⟩,⟨rv,hc 1 (by omega),h3.rep fun k hk=>hF k (by simp[hk])⟩,cv,hc 2 (by omega),h4.rep fun k hk=>hF k (by simp[hk])⟩
end
structure Zsv {α:Type} (e:TypeId) (s:Nat) (Q:Zgk α) (B:Nat) (w w1:World) (xs:List α) (F G:List Nat) (y:α) (g cap:Nat) (F':List Nat):Prop where
 row:Zag e s Q w1 (.slice (some ⟨g,0,none⟩) (xs.length+1) cap) (xs++[y]) F'
 new:Za9 B w1 F'
 sub: ∀ k,k∈F'->k∈F\/k∈G\/w.heap.size<=k
 os:w1.os=w.os
 tape:w1.tape=w.tape
 output:w1.output=w.output
 size:w.heap.size<=w1.heap.size
 same: ∀ k,k < w.heap.size->k∉F->w1.heap[k]?=w.heap[k]?
theorem Z21 {α:Type}{Q:Zgk α}{w1:World}{zs:List (List Value×α×List Nat)}{g cap:Nat}{cs:Array Value}{y:α}{G:List Nat}(hQ:Zcx Q)
  (hz: ∀ z,z∈zs->z.1.length=s/\Q w z.1 z.2.1 z.2.2) (hcs:cs.size=s) (hq:Q w cs.toList y G) (hl:zs.length+1 < 1000000000)
  (nF:Za9 B w (v.ownBlock.toList++(zs.map (·.2.2)).flatten)) (nG:Za9 B w G) (hd: ∀ k,k∈v.ownBlock.toList++(zs.map (·.2.2)).flatten->k∉G) (hB:B<=w.heap.size)
  (ha:Zr0 w w1 0 e s v g cap (zs.length+1) ((zs.map (·.1)).flatten++cs.toList)):
  Zsv e s Q B w w1 (zs.map (·.2.1)) (v.ownBlock.toList++(zs.map (·.2.2)).flatten) G y g cap (g::((zs.map (·.2.2)).flatten++G)):=by
 have hsame: ∀ k,k < w.heap.size->some k≠v.ownBlock->w1.heap[k]?=w.heap[k]?:=fun k hk hn=>ha.grown.block k hk hn;have nd:=Yd4.1 nF.once;have inF: ∀ k,k∈(zs.map (·.2.2)).flatten->k < w.heap.size/\some k≠v.ownBlock/\k≠g:=by
  intro k hk;have h1:=nF.lt k (Ydv _ hk);have h2:some k≠v.ownBlock:=fun q=>nd.2.2 k (by simp[<- q]) k hk rfl;refine⟨h1,h2,?_⟩;rcases ha.spot with hs | hs
  ·rintro rfl;exact h2 hs.symm
  ·omega
 have inG: ∀ k,k∈G->k < w.heap.size/\some k≠v.ownBlock/\k≠g:=by
  intro k hk;have h1:=nG.lt k hk;have h2:some k≠v.ownBlock:=fun q=>hd k (Yd0 _ (by simp[<- q])) hk;refine⟨h1,h2,?_⟩;rcases ha.spot with hs | hs
  ·rintro rfl;exact h2 hs.symm
  ·omega
 refine⟨⟨zs++[(cs.toList,y,G)],?_,?_,by simp,by simp[Value.ownBlock],by simpa using hl⟩,⟨?_,?_,?_⟩,?_,ha.grown.os,ha.grown.tape,ha.grown.output,ha.grown.size,?_⟩
 ·have:=ha.own
  simpa using this
 ·intro z hm;rcases Yc2.1 hm with hm | hm
  ·refine⟨(hz z hm).1,hQ _ _ _ _ _ (hz z hm).2 fun k hk=>?_⟩
   have:=inF k (List.mem_flatten.2 ⟨z.2.2,List.mem_map.2 ⟨z,hm,rfl⟩,hk⟩)
   exact hsame k this.1 this.2.1
  ·rw[Ydt.1 hm];exact⟨by simpa using hcs,hQ _ _ _ _ _ hq fun k hk=>hsame k (inG k hk).1 (inG k hk).2.1⟩
 ·refine List.nodup_cons.2 ⟨fun hm=>?_,Yd4.2 ⟨nd.2.1,nG.once,fun a ha' b hb q=>hd a (Ydv _ ha') (q▸hb)⟩⟩;rcases Yc2.1 hm with hm | hm
  ·exact(inF g hm).2.2 rfl
  ·exact(inG g hm).2.2 rfl
 ·intro k hk;rcases Yc1.1 hk with rfl | hk
  ·rcases ha.spot with hs | hs
   ·exact nF.ge k (Yd0 _ (by simp[hs]))
   ·omega
  ·rcases Yc2.1 hk with hk | hk
   ·exact nF.ge k (Ydv _ hk)
   ·exact nG.ge k hk
 ·intro k hk
  have:=ha.grown.size
  rcases Yc1.1 hk with rfl | hk
  ·exact ha.lt
  ·rcases Yc2.1 hk with hk | hk
   ·exact Ycz (inF k hk).1 this
   ·exact Ycz (inG k hk).1 this
 ·intro k hk;rcases Yc1.1 hk with rfl | hk
  ·rcases ha.spot with hs | hs
   ·exact Or.inl (Yd0 _ (by simp[hs]))
   ·exact Or.inr (Or.inr (by omega))
  ·rcases Yc2.1 hk with hk | hk
   ·exact Or.inl (Ydv _ hk)
   ·exact Or.inr (Or.inl hk)
 ·intro k hk hn;exact hsame k hk fun q=>hn (Yd0 _ (by simp[<- q]))
theorem Za7 {α:Type}{P:Program}{t:TypeId}{bytes:Nat}(E:Zdp P t e s bytes){ops:Array Oper}{rest:List Oper}{o:Oper}{a:Act}{K:Exit->Act->World->Prop}(hgd:o.guard=none)(sl x:Operand)
  (ho:o.op= .call {callee:= .builtin .append,args:=#[sl,x],argTypes:=#[t,t]}) {Q:Zgk α} (hQ:Zcx Q) (hone: ∀ w vs x F,Q w vs x F-> ∀ u,u∈vs->u.oneCell'=true) (B:Nat) (v:Value) (xs:List α) (F:List Nat) (hs:a.eval sl=v) (hrow:Zag e s Q w v xs F)
  (b:Nat) (cs:Array Value) (et:TypeId) (fr:Nat×Nat) (y:α) (G:List Nat) (hx:a.eval x= .slice (some ⟨b,0,none⟩) 1 1) (hblk:w.heap[b]?=some (.cells cs et fr)) (hcs:cs.size=s) (hq:Q w cs.toList y G)
  (hn:xs.length < 100000000) (hB:B<=w.heap.size) (nF:Za9 B w F) (nG:Za9 B w G) (hd: ∀ k,k∈F->k∉G)
  (h: ∀ g cap w1 F',Zsv e s Q B w w1 xs F G y g cap F'->wpList P ops K rest (a.put o.dst (.slice (some ⟨g,0,none⟩) (xs.length+1) cap)) w1):wpList P ops K (o::rest) a w:=by
 obtain⟨zs,hown,hz,rfl,rfl,hl⟩:=hrow;refine Zvq E hgd sl x ho 0 v zs.length _ hs hown b cs et fr hx hblk hcs (hone w _ _ _ hq) (by simpa using hl) (Yd1 _) fun g cap w1 ha=>?_
 have:=Z21 (cs:=cs) (y:=y) (G:=G) hQ hz hcs hq (by simp at hn;omega) nF nG hd hB ha
 have h2:=h g cap w1 _ this;simpa using h2
end Go.W
namespace Go.W
theorem Zb3 {a b:Bool}(h:a=b):Ending.returned (.bool a)= .returned (.bool b):=by rw[h]
theorem Z28 {k:IntKind}{a b:Int}(h:a=b):Ending.returned (.int k a)= .returned (.int k b):=by rw[h]
theorem Zhp (t:ByteArray)(q:Nat)(h:q < t.size):(t[q]).toNat=(Zab t).getD q 0:=by
 simp only[Zab,List.getD_eq_getElem?_getD,Ydn,Ydw];rw[Array.getElem?_eq_getElem h];rfl
theorem Zdy (t:ByteArray):t.toList.length=t.size:=by rw[Ydl];rfl
theorem Zgl {a b:ByteArray}(h:a.toList=b.toList):a=b:=by
 rw[Ydl,Ydl]at h;cases a;cases b;simp at h;simp[h]
theorem Zi7 (a b:ByteArray):(a.toList==b.toList)=decide (a=b):=by
 by_cases h:a=b
 ·subst h;simp
 ·rw[decide_eq_false h,beq_eq_false_iff_ne];exact fun q=>h (Zgl q)
theorem Zd0 (t:ByteArray):(t.toList==[])=decide (t.size=0):=by
 rw[Ydl];have h:t.size=t.data.toList.length:=rfl;rw[h];cases t.data.toList <;> simp
theorem Z25 (a b:Int):(a==b)=decide (a=b):=by
 rw[Bool.eq_iff_iff,beq_iff_eq,decide_eq_true_iff]
theorem Z5n (n:Nat):((n:Int)=0)=(n=0):=by simp
theorem Zi1 (w:World)(t:ByteArray)(q:Nat):Below w.heap.size w (w.iter t q):=(Yct _ _).alloc lr _
theorem Zb2 {B n:Nat}{a w:World}(h:Below B a w):Below B a (w.drewN n):=⟨h.os,h.tape,h.output,h.size,h.block⟩
theorem Ze4 {α:Type}(f:α->Int){l:List α}{q:Nat}(h:q < l.length):Zax f (l.drop q)=if f l[q]≠0 then f l[q]else Zax f (l.drop (q+1)):=by
 rw[List.drop_eq_getElem_cons h,Zax]
theorem Zak {P:Program}{f:FuncId}{fn:Func}{c:Code}(hf:P.funcs[f]?=some fn)(hn:(fn.name== "runtime.NumGoroutine")=false)(hb:fn.body=some c)(args:Array Value)(w:World):(callFunc f args).run P w= .ok (.enter f args) w:=by
 have h1:fn.name≠ "runtime.NumGoroutine" :=by simpa using hn
 simp[callFunc,hf,h1,hb]
end Go.W
namespace Go.W
variable {w:World}
structure Off (F:List Nat) (w w':World):Prop where
 os:w'.os=w.os
 tape:w'.tape=w.tape
 output:w'.output=w.output
 size:w.heap.size<=w'.heap.size
 block: ∀ k,k < w.heap.size->k∉F->w'.heap[k]?=w.heap[k]?
section
variable {F G:List Nat} {u v w:World}
theorem Off.refl (F:List Nat)(w:World):Off F w w:=⟨rfl,rfl,rfl,Ydu _,fun _ _ _=>rfl⟩
theorem Off.trans (h:Off F u v)(k:Off G v w)(hG: ∀ i,i∈G->i∈F\/u.heap.size<=i):Off F u w:=
 ⟨k.os.trans h.os,k.tape.trans h.tape,k.output.trans h.output,Ycu h.size k.size,fun i hi hn=>(k.block i (Ycz hi h.size) fun q=>(hG i q).elim hn (by omega)).trans (h.block i hi hn)⟩
theorem Off.of (h:Below u.heap.size u v):Off F u v:=⟨h.os,h.tape,h.output,h.size,fun i hi _=>h.block i hi⟩
theorem Off.mono (h:Off F u v)(hF: ∀ i,i∈F->i∈G):Off G u v:=⟨h.os,h.tape,h.output,h.size,fun i hi hn=>h.block i hi fun q=>hn (hF i q)⟩
theorem Off.below (h:Off F u v){B:Nat}(hF: ∀ i,i∈F->B<=i)(hB:B<=u.heap.size):Below B u v:=⟨h.os,h.tape,h.output,h.size,fun i hi=>h.block i (by omega) fun q=>by have:=hF i q;omega⟩
theorem Off.alloc (h:Off F u v)(o:Obj):Off F u (v.alloc o):=h.trans (Off.of (F:=[]) ((Yct _ v).alloc lr o)) fun _ q=>(by cases q)
theorem Off.drew (h:Off F u v):Off F u v.drew:=⟨h.os,h.tape,h.output,h.size,h.block⟩
theorem Off.set (h:Off F u v)(b o:Nat)(x:Value)(hb:b∈F\/u.heap.size<=b):Off F u (v.setCell ⟨b,o,none⟩ x):=
 ⟨h.os,h.tape,h.output,by simpa[World.setCell]using h.size,fun k hk hn=>(Ycy v ⟨b,o,none⟩ x k fun e=>by have e:k=b:=e;subst e;exact hb.elim hn (by omega)).trans (h.block k hk hn)⟩
theorem Off.put (h:Off F u v)(b:Nat)(x:Obj)(hb:b∈F\/u.heap.size<=b):Off F u {v with heap:=v.heap.setIfInBounds b x}:=
 ⟨h.os,h.tape,h.output,by simpa using h.size,fun k hk hn=>by
  have:k≠b:=fun e=>by subst e;exact hb.elim hn (by omega)
  show(v.heap.setIfInBounds b x)[k]?=_;rw[Array.getElem?_setIfInBounds_ne (Ne.symm this)];exact h.block k hk hn⟩
end
def Z7v (n:Nat) (P:Program) (K s:Nat) (xs:List Nat) (Z:World->Prop):Prop:=
 ∀ (l:Nat) (J Jx:List Nat->World->Prop) (W:World),(∀ pre W1,J pre W1->Z W1)->(∀ (pre:List Nat) (x:Nat) (rest:List Nat) (W1:World),xs=pre++x::rest->J pre W1->YieldAt Fence.wide (n - 1) P l #[.int .i64 (x:Int)] W1 fun e W'=>(e= .returned (.bool true)/\J (pre++[x]) W')\/(e= .returned (.bool false)/\Jx (pre++[x]) W'))->J [] W->
  CallsIn Fence.wide n P K #[.int .u64 (s:Int),.func (.yield l) #[] #[]] W fun e W'=>(∃ v,e= .returned v)/\(J xs W'\/ ∃ pre,Jx pre W')
def Zw6 (B:Nat) (W W':World):Prop:=W'.heap[B]?=W.heap[B]?/\W'.heap[B+1]?=W.heap[B+1]?
def Z6m (B:Nat) (I Ix:List Nat->World->Prop) (xs:List Nat) (W:World):Exit->Act->World->Prop
 | .normal,_,W'=>Zw6 B W W'/\I xs W'
 | .ret,_,W'=>Zw6 B W W'/\Ix xs W'
 | _,_,_=>False
theorem Off.putObj {F:List Nat}{l:Nat}(o:Obj)(hl:l∈F):Off F w (w.putObj l o):=
 ⟨rfl,rfl,rfl,by simp[World.putObj],fun k _ hn=>World.putObj_heap_other (fun e=>hn (by rw[e];exact hl))⟩
theorem Zfp {n:Nat}{P:Program}{g:Operand}{ps:Array Tmp}{assign body:Code}{Q:Exit->Act->World->Prop}{a:Act}{K s:Nat}{xs:List Nat}{Z:World->Prop}
  (hg:a.eval g= .func (.func K) #[.int .u64 (s:Int)] #[]) (eg: ∀ args w,(callFunc K args).run P w= .ok (.enter K args) w) (hseq:Z7v (n - 1) P K s xs Z) (hps:ps.size=1)
  (I Ix:List Nat->World->Prop) (hZ: ∀ pre W,I pre W->Z W) (hI: ∀ pre W W',I pre W->Off [w.heap.size,w.heap.size+1] W W'->I pre W') (hIx: ∀ pre W W',Ix pre W->Off [w.heap.size,w.heap.size+1] W W'->Ix pre W') (h0:I [] w) (a₁:Nat->Act)
  (hassign: ∀ (l x:Nat) (W:World) (K:Act->World->Prop),K (a₁ x) W->assign.wpIn (Fence.wide.inRound l) (n - 1 - 1) P (Exit.then K (fun _ _ _=>False)) {tmps:=(ps.zip #[.int .i64 (x:Int)]).foldl (fun t (p,v)=>t.setIfInBounds p v) a.tmps,defers:=[]} W)
  (hbody: ∀ (l:Nat) (pre:List Nat) (x:Nat) (rest:List Nat) (W:World),xs=pre++x::rest->I pre W->w.heap.size+2<=W.heap.size->body.wpIn (Fence.wide.inRound l) (n - 1 - 1) P (Z6m w.heap.size I Ix (pre++[x]) W) (a₁ x) W)
  (hdone: ∀ W,I xs W->W.heap[w.heap.size]?=some (.deferred (some []))->Q .normal {a with defers:={target:= .collected w.heap.size,args:=#[]}::a.defers} W)
  (hstop: ∀ pre W,Ix pre W->W.heap[w.heap.size]?=some (.deferred (some []))->Code.ret.wpIn Fence.wide n P Q {a with defers:={target:= .collected w.heap.size,args:=#[]}::a.defers} W):
  (Code.rangeFunc g ps assign body).wpIn Fence.wide n P Q a w:=by
 refine wpIn_rangeFunc fun fn hfn=>?_;obtain⟨rc,hrc⟩: ∃ rc:LoopState->Option Code->Loop,rc=fun st pe=>{state:=st,pending:=pe,fn,tmps:=a.tmps,params:=ps,assign,body,defers:=w.heap.size}:=⟨_,rfl⟩;obtain⟨W1,hW1⟩: ∃ W1,(w.alloc (.deferred (some []))).alloc (.loop (rc .ready none))=W1:=⟨_,rfl⟩;have hL:W1.heap[w.heap.size+1]?=some (.loop (rc .ready none)):=by
  rw[<- hW1];have:=World.alloc_heap_new (w.alloc (.deferred (some []))) (.loop (rc .ready none));rwa [Yc4]at this
 have hD:W1.heap[w.heap.size]?=some (.deferred (some [])):=by
  rw[<- hW1];exact(Ycx _ _ _ (by simp)).trans (World.alloc_heap_new w _)
 have hI1:I [] W1:=hI _ w _ h0 (by rw[<- hW1];exact((Off.refl _ w).alloc _).alloc _);have hin:w.heap.size+1∈[w.heap.size,w.heap.size+1]:=by simp
 refine⟨w.heap.size+1,[{target:= .collected w.heap.size,args:=#[]}],W1,{target:= .fn (.func K) #[],args:=#[.int .u64 (s:Int),.func (.yield (w.heap.size+1)) #[] #[]]},W1,K,#[.int .u64 (s:Int),.func (.yield (w.heap.size+1)) #[] #[]],W1,?_,?_,fun _ _=>trivial,?_,fun h=>(by cases h),?_⟩
 ·rw[<- hW1,hrc];exact run_enterLoop_outer _ _ _ _ _
 ·simp only[resolve,hg];simp[go_sem]
 ·simp[invoke,go_sem,eg]
 refine(hseq (w.heap.size+1) (fun pre W=>I pre W/\W.heap[w.heap.size+1]?=some (.loop (rc .ready none))/\W.heap[w.heap.size]?=some (.deferred (some []))) (fun pre W=>Ix pre W/\W.heap[w.heap.size+1]?=some (.loop (rc .done (some .ret)))/\W.heap[w.heap.size]?=some (.deferred (some []))) W1 (fun pre W1 h=>hZ pre W1 h.1) ?_ ⟨hI1,hL,hD⟩).mono ?_
 ·rintro pre x rest W hx ⟨hi,hl,hk⟩;have hlt:=(Yc6.1 hl).1;have hy:=run_yield (P:=P) (args:=#[.int .i64 (x:Int)]) hl (by rw[hrc];exact hps.symm);rw[hrc]at hy;refine⟨fn,_,assign,body,hy,roundIn_of_wpIn hfn (hassign _ x W _ ⟨_,run_beginRound hl (by rw[hrc]),?_⟩)⟩;obtain⟨W2,hW2⟩: ∃ W2,W.putObj (w.heap.size+1) (.loop {rc .ready none with state:= .busy})=W2:=⟨_,rfl⟩;have hl2:W2.heap[w.heap.size+1]?=some (.loop {rc .ready none with state:= .busy}):=by rw[<- hW2];exact World.putObj_heap_same hlt
  have hk2:W2.heap[w.heap.size]?=some (.deferred (some [])):=by rw[<- hW2];exact(World.putObj_heap_other (by omega)).trans hk
  have hi2:I pre W2:=hI _ _ _ hi (by rw[<- hW2];exact Off.putObj _ hin);rw[hW2];refine wpIn_mono (hbody _ pre x rest W2 hx hi2 (Yc6.1 hl2).1) ?_;rintro e a3 W3 hp;cases e with
  | normal=>
   obtain⟨⟨k1,k2⟩,hi3⟩:=hp;have hl3:=k2.trans hl2;have hr:=run_endRound (P:=P) none hl3;rw[hrc]at hr;refine⟨_,_,hr,.inl ⟨rfl,hI _ _ _ hi3 (Off.putObj _ hin),?_,(World.putObj_heap_other (by omega)).trans (k1.trans hk2)⟩⟩;rw[hrc];exact World.putObj_heap_same (Yc6.1 hl3).1
  | ret=>
   obtain⟨⟨k1,k2⟩,hi3⟩:=hp;have hl3:=k2.trans hl2;have hr:=run_endRound (P:=P) (some .ret) hl3;rw[hrc]at hr;refine⟨_,_,hr,.inr ⟨rfl,hIx _ _ _ hi3 (Off.putObj _ hin),?_,(World.putObj_heap_other (by omega)).trans (k1.trans hk2)⟩⟩;rw[hrc];exact World.putObj_heap_same (Yc6.1 hl3).1
  | exit id=>exact hp.elim
  | goto t=>exact hp.elim
  | panic ch=>exact hp.elim
  | outgrown=>exact hp.elim
 ·rintro e W2 ⟨⟨v,rfl⟩,⟨hi,hl,hk⟩ | ⟨pre,hi,hl,hk⟩⟩
  ·refine⟨none,_,by have:=run_endLoop (P:=P) hl (by rw[hrc];simp);rw[hrc]at this;exact this,hdone _ (hI _ _ _ hi (Off.putObj _ hin)) ((World.putObj_heap_other (by omega)).trans hk)⟩
  ·refine⟨some .ret,_,by have:=run_endLoop (P:=P) hl (by rw[hrc];simp);rw[hrc]at this;exact this,hstop pre _ (hIx _ _ _ hi (Off.putObj _ hin)) ((World.putObj_heap_other (by omega)).trans hk)⟩
end Go.W
namespace Go.W
def Ybo (t:Nat):Nat:=if t % 2=1 then 0 else if t % 4=2 then 1 else 2
def Za5 (s:Nat):List Nat:=[0,1,2].filter fun i=>s.testBit i
end Go.W
namespace Go.P
open Go.RowKit Go.W Go.Shelf
attribute [local go_sem] Yds
def Z43 (w:World):Prop:=w.cell? ⟨20,0,none⟩=some (.int .u8 0)/\w.cell? ⟨20,1,none⟩=some (.int .u8 1)/\w.cell? ⟨20,3,none⟩=some (.int .u8 2)
theorem Zjp (t k j m:Nat)(w:World)(ne:((t:Int)==0)=false)(e1:bits BinOp.and IntKind.u64 (t:Int) (IntKind.u64.wrap (-(t:Int)))=(k:Int))(e2:IntKind.u64.wrap ((k:Int)*285870213051353865) / 288230376151711744=(j:Int))(hj:j < 64)(hm:m < 8)(hc:w.cell? ⟨20,j,none⟩=some (.int .u8 (m:Int))):Calls Tryz.prog 262 #[.int .u64 (t:Int)] w fun e w'=>e= .returned (.int .i64 (m:Int))/\w'=w:=by
 have hj':(j:Int) < 64:=by omega
 go_enter Tryz.func262,Tryz.ntmps262
 go_wp2_with fail
 go_ret
 exact⟨rfl,rfl⟩
theorem Yai (t:Nat)(h0:0 < t)(h8:t < 8)(w:World)(hb:Z43 w):Calls Tryz.prog 262 #[.int .u64 (t:Int)] w fun e w'=>e= .returned (.int .i64 (Ybo t:Int))/\w'=w:=by
 obtain⟨b0,b1,b3⟩:=hb;have hc:t=1\/t=2\/t=3\/t=4\/t=5\/t=6\/t=7:=by omega
 rcases hc with rfl | rfl | rfl | rfl | rfl | rfl | rfl
 ·exact Zjp 1 1 0 0 w rfl (by kernel_rfl) (by kernel_rfl) (by decide) (by decide) b0
 ·exact Zjp 2 2 1 1 w rfl (by kernel_rfl) (by kernel_rfl) (by decide) (by decide) b1
 ·exact Zjp 3 1 0 0 w rfl (by kernel_rfl) (by kernel_rfl) (by decide) (by decide) b0
 ·exact Zjp 4 4 3 2 w rfl (by kernel_rfl) (by kernel_rfl) (by decide) (by decide) b3
 ·exact Zjp 5 1 0 0 w rfl (by kernel_rfl) (by kernel_rfl) (by decide) (by decide) b0
 ·exact Zjp 6 2 1 1 w rfl (by kernel_rfl) (by kernel_rfl) (by decide) (by decide) b1
 ·exact Zjp 7 1 0 0 w rfl (by kernel_rfl) (by kernel_rfl) (by decide) (by decide) b0
theorem Ycn (t:Nat)(h8:t < 8)(h0:0 < t):bits BinOp.and IntKind.u64 (t:Int) ((t:Int) - 1)=((t &&& (t - 1):Nat):Int):=by
 have hc:t=1\/t=2\/t=3\/t=4\/t=5\/t=6\/t=7:=by omega
 rcases hc with rfl | rfl | rfl | rfl | rfl | rfl | rfl <;> rfl
theorem Zjv (n s:Nat)(h8:s < 8):Z7v n Tryz.prog 245 s (Za5 s) Z43:=fun l J Jx W hJ hY h0=>by
 have CT:=Zaa Yai;refine callsIn_of_wp Tryz.func245 rfl trivial ?_ rfl;simp only[Tryz.ntmps245,Yc5,Yc7,Ydb,Nat.reduceAdd,Nat.reduceSub,Ydf,Yde,Ydk,Ydh,Ydg,Ydd];have hlow: ∀ t,t < 8->0 < t->Za5 t=Ybo t::Za5 (t &&& (t - 1))/\(t &&& (t - 1)) < t:=by decide
 gi_wp2
 gi_loopw [0] (fun sv wr=> ∃ (t:Nat) (pre:List Nat),t < 8/\sv= .int .u64 (t:Int)/\Za5 s=pre++Za5 t/\J pre wr) (fun sv _=>(intOf sv).toNat)
 case atStart=>exact⟨s,[],h8,rfl,rfl,h0⟩
 case round=>
  obtain⟨t,pre,h8t,rfl,hx,hJs⟩:=hrel;by_cases ht:t=0
  ·subst ht;gi_wp2
   go_end0
   refine⟨⟨_,rfl⟩,.inl ?_⟩;rw[hx,show Za5 0=[]from rfl,List.append_nil];exact hJs
  ·have hn0:((t:Int)==0)=false:=by rw[beq_eq_false_iff_ne];omega
   obtain⟨e1,hlt⟩:=hlow t h8t (by omega);rw[e1]at hx;obtain⟨fn,tmps,assign,body,hy,hR⟩:=hY pre (Ybo t) _ wr hx hJs;have C1:=Zaa (CT.out t (by omega) h8t wr (hJ _ _ hJs));obtain⟨u,hu⟩: ∃ u,t &&& (t - 1)=u:=⟨_,rfl⟩;have e2:bits BinOp.and IntKind.u64 (t:Int) ((t:Int) - 1)=(u:Int):=by rw[<- hu];exact Ycn t h8t (by omega)
   rw[hu]at hlt hx;clear CT hlow;gi_wp2_with (refine⟨trivial,fun h=>(by cases h),?_⟩;refine(callsIn_wide.2 C1.out).mono ?_;rintro e w' ⟨rfl,rfl⟩)
   refine⟨fun h=>(by cases h),hR.mono ?_⟩;rintro e W3 (⟨rfl,hJ3⟩ | ⟨rfl,hJx3⟩)
   ·gi_wp2
    go_roundw
    case rel=>exact⟨u,pre++[Ybo t],by omega,rfl,by rw[hx,Yc8];rfl,hJ3⟩
    case measure=>simp[intOf];omega
   ·gi_wp2
    refine bodyPost_ret (results_none rfl _ _ _) rfl ?_;exact⟨⟨_,rfl⟩,.inr ⟨_,hJx3⟩⟩
end Go.P
namespace Go.W
variable {w:World}
def Zfs (w:World) (m:Nat) (xs:List (ByteArray×Nat)):Prop:= ∃ es clock,w.heap[m]?=some (.map es clock)/\es.toList.map (fun e=>(e.key,e.val))=xs.map fun x=>(Value.string x.1,Value.int .i64 (x.2:Int))
def Zhh (w:World) (v:Value) (xs:List (ByteArray×Nat)):Prop:=(v= .map none/\xs=[])\/ ∃ m,v= .map (some m)/\Zfs w m xs
theorem Zhh.of {w':World}{v:Value}{xs:List (ByteArray×Nat)}(h:Zhh w v xs)(hb: ∀ m,v= .map (some m)->w'.heap[m]?=w.heap[m]?):Zhh w' v xs:=by
 rcases h with h | ⟨m,rfl,es,c,h1,h2⟩
 ·exact .inl h
 ·exact .inr ⟨m,rfl,es,c,(hb m rfl).trans h1,h2⟩
def Zgj (s:ByteArray):List (ByteArray×Nat)->Nat->Option (Nat×Nat)
 | [],_=>none
 | b::bs,i=>if s=b.1 then some (i,b.2)else Zgj s bs (i+1)
theorem Zgb (s:ByteArray): ∀ (l:List MapEntry) (xs:List (ByteArray×Nat)) (i:Nat),l.map (fun e=>(e.key,e.val))=xs.map (fun x=>(Value.string x.1,Value.int .i64 (x.2:Int)))->Instr.findNow .string (.string s) l i=some ((Zgj s xs i).map fun k=>(k.1,Value.int .i64 (k.2:Int)))
 | [],xs,i,h=>by
  have:xs=[]:=by simpa using h.symm
  subst this;rfl
 | e::l,[],i,h=>by simp at h
 | e::l,b::xs,i,h=>by
  rw[List.map_cons,List.map_cons]at h;injection h with h1 h2;injection h1 with hk hv;have ih:=Zgb s l xs (i+1) h2;obtain⟨r,hr,hiff⟩:=Go.MapKept.sameNow_of_keys (d:= .string) (a:= .string s) (b:= .string b.1) trivial trivial;unfold Instr.findNow Zgj;rw[hk,hr];cases r with
  | true=>
   obtain rfl:s=b.1:=by injection hiff.1 rfl
   rw[if_pos rfl,hv];simp
  | false=>
   rw[if_neg (fun e=>by have:=hiff.2 (by rw[e]);cases this)];exact ih
def Zvh:Zgk ByteArray:=fun _ vs x F=>F=[]/\vs=[.string x]
theorem Zvh.stable:Zcx Zvh:=fun _ _ _ _ _ h _=>h
theorem Zvh.one {vs:List Value}{x:ByteArray}{F:List Nat}(h:Zvh w vs x F): ∀ u,u∈vs->u.oneCell'=true:=by
 obtain⟨_,rfl⟩:=h;intro u hu;simp at hu;rw[hu];rfl
def Zbm (xs:List (ByteArray×Nat)) (s:ByteArray×Nat):Nat×Bool:=if s.1.size=0 then(s.2,true)else((((Zgj s.1 xs 0).map (·.2)).getD 0),(Zgj s.1 xs 0).isSome)
end Go.W
namespace Go.P
variable {w:World}{v:Value}{xs:List (ByteArray×Nat)}{r:Nat}
theorem Zxn (h:Zhh w v xs)(s:ByteArray):(Instr.lookup 311 v (.string s) true).run Tryz.prog w= .ok (.tuple #[.int .i64 ((((Zgj s xs 0).map (·.2)).getD 0:Nat):Int),.bool (Zgj s xs 0).isSome]) w:=by
 have hz:(zeroValue 3).run Tryz.prog w= .ok (.int .i64 0) w:=by kernel_rfl
 rcases h with⟨rfl,rfl⟩ | ⟨r,rfl,es,clock,hb,hm⟩
 ·have hck:=Go.MapKept.run_checkKey (P:=Tryz.prog) (w:=w) Tryz.underlying9 (k:= .string s) trivial true 9999;replace hck:(Instr.checkKey true 10000 9 (.string s)).run Tryz.prog w= .ok () w:=hck
  have hfk:=Go.MapKept.run_findKey (P:=Tryz.prog) (w:=w) (k:= .string s) (l:=[]) (a:=none) Tryz.underlying9 rfl;simp[Instr.lookup,run_underlying Tryz.underlying311,hfk,hz,hck,Zgj]
 have hf:=Zgb s es.toList xs 0 hm;have hck:=Go.MapKept.run_checkKey (P:=Tryz.prog) (w:=w) Tryz.underlying9 (k:= .string s) trivial es.isEmpty 9999;have hgo:=Ydx (P:=Tryz.prog) hb;have hfk:=Go.MapKept.run_findKey (P:=Tryz.prog) (w:=w) Tryz.underlying9 hf;have hck:(Instr.checkKey es.isEmpty 10000 9 (.string s)).run Tryz.prog w= .ok () w:=hck;cases hp:Zgj s xs 0 with
 | none=>
  rw[hp]at hfk;simp only[Option.map_none]at hfk;simp[Instr.lookup,run_underlying Tryz.underlying311,hgo,hfk,hz,hck]
 | some k=>
  rw[hp]at hfk;simp only[Option.map_some]at hfk;simp[Instr.lookup,run_underlying Tryz.underlying311,hgo,hfk,hck]
theorem Zwi (h:Zfs w r xs)(s:ByteArray)(v:Nat)(hp:Zgj s xs 0=none): ∃ o,(Instr.mapUpdate 311 (.map (some r)) (.string s) (.int .i64 (v:Int))).run Tryz.prog w= .ok () {w with heap:=w.heap.setIfInBounds r o}/\Zfs {w with heap:=w.heap.setIfInBounds r o} r (xs++[(s,v)]):=by
 obtain⟨es,clock,hb,hm⟩:=h;have hf:=Zgb s es.toList xs 0 hm;rw[hp]at hf;have hck:=Go.MapKept.run_checkKey (P:=Tryz.prog) (w:=w) Tryz.underlying9 (k:= .string s) trivial false 9999;replace hck:(Instr.checkKey false 10000 9 (.string s)).run Tryz.prog w= .ok () w:=hck
 have hgo:=Ydx (P:=Tryz.prog) hb;have hfk:=Go.MapKept.run_findKey (P:=Tryz.prog) (w:=w) Tryz.underlying9 hf;simp only[Option.map_none]at hfk;have hso:=Go.MapKept.run_setObj_map (P:=Tryz.prog) (.map (es.push {key:= .string s,val:= .int .i64 (v:Int),born:=clock}) (clock+1)) hb;refine⟨.map (es.push {key:= .string s,val:= .int .i64 (v:Int),born:=clock}) (clock+1),?_,es.push {key:= .string s,val:= .int .i64 (v:Int),born:=clock},clock+1,(Go.MapKept.heap_set hb).1,?_⟩
 ·simp[Instr.mapUpdate,run_underlying Tryz.underlying311,hgo,hck,hfk,hso]
 ·simp[hm]
theorem Zxe {s:ByteArray}{v:Nat}(h:Zfs w r [(s,v)]): ∃ o,(∀ ty,(Builtin.delete_ #[311,9] ty #[.map (some r),.string s]).run Tryz.prog w= .ok (.tuple #[]) {w with heap:=w.heap.setIfInBounds r o})/\Zfs {w with heap:=w.heap.setIfInBounds r o} r []:=by
 obtain⟨es,clock,hb,hm⟩:=h;have hf:=Zgb s es.toList [(s,v)] 0 hm;have hl:Zgj s [(s,v)] 0=some (0,v):=by simp[Zgj]
 rw[hl]at hf;have hlen:es.toList.length=1:=by have:=congrArg List.length hm;simpa using this
 obtain⟨e,he⟩: ∃ e,es=#[e]:=by
  obtain⟨l⟩:=es;match l,hlen with
  | [e],_=>exact⟨e,rfl⟩
 subst he;have hck:=Go.MapKept.run_checkKey (P:=Tryz.prog) (w:=w) Tryz.underlying9 (k:= .string s) trivial false 9999;replace hck:(Instr.checkKey false 10000 9 (.string s)).run Tryz.prog w= .ok () w:=hck
 have hgo:=Ydx (P:=Tryz.prog) hb;have hfk:=Go.MapKept.run_findKey (P:=Tryz.prog) (w:=w) Tryz.underlying9 hf;simp only[Option.map_some]at hfk;have hso:=Go.MapKept.run_setObj_map (P:=Tryz.prog) (.map #[] clock) hb;refine⟨.map #[] clock,fun ty=>?_,#[],clock,(Go.MapKept.heap_set hb).1,rfl⟩;unfold Builtin.delete_;simp only[Yek,Ydq,List.getElem?_cons_zero,List.getElem?_cons_succ,run_underlying Tryz.underlying311,Yd9,hgo,Array.isEmpty];rw[show decide (#[e].size=0)=false from rfl,hck];simp only[Yd9];rw[hfk];simp[hso]
theorem Zv6 {q o:Nat}(h:Zhh w v xs)(c0:w.cell? ⟨q,o,none⟩=some v)(hq:q < w.heap.size)(hv: ∀ m,v= .map (some m)->m < w.heap.size)(s:ByteArray×Nat)(hs:s.1.size < 1000000000):
  Calls Tryz.prog 240 #[.pointer (some ⟨q,o,none⟩),.agg #[.string s.1,.int .i64 (s.2:Int)]] w fun e w'=>e= .returned (.tuple #[.int .i64 ((Zbm xs s).1:Int),.bool (Zbm xs s).2])/\Below w.heap.size w w':=by
 have hl:=fun o n=>Zxn (w:=(w.alloc o).drewN n) (h.of fun m hm=>Ycx _ _ _ (hv m hm)) s.1;obtain⟨x,n⟩:=s;dsimp only at hs hl⊢;have B0:=fun o=>(Yct w.heap.size w).alloc lr o;by_cases h0:x.size=0
 ·have E:Box (Zbm xs (x,n)=(n,true)):=⟨if_pos h0⟩;rw[E.out];have g:(x.toList==[])=true:=by rw[Zd0];simp[h0]
  clear hl;go_enter Tryz.func240,Tryz.ntmps240
  go_wp2_with fail
  go_ret2
  exact⟨rfl,B0 _⟩
 ·have E:Box (Zbm xs (x,n)=((((Zgj x xs 0).map (·.2)).getD 0),(Zgj x xs 0).isSome)):=⟨if_neg h0⟩;rw[E.out];have g:(x.toList==[])=false:=by rw[Zd0];simp[h0]
  generalize ((Zgj x xs 0).map (·.2)).getD 0=k at*;generalize (Zgj x xs 0).isSome=kn at*;have c0':=fun ob=>(Ycx w ob q hq);have c1: ∀ ob,(w.alloc ob).cell? ⟨q,o,none⟩=some v:=fun ob=>(Ycw (a:=⟨q,o,none⟩) (c0' ob)).trans c0;clear c0' c0;go_enter Tryz.func240,Tryz.ntmps240
  go_wp2_with fail
  go_quiet (fail)
  go_wp2_with fail
  go_ret2
  exact⟨rfl,Zb2 (B0 _)⟩
end Go.P
namespace Go.W
variable {w:World}{m:Nat}{xs:List (ByteArray×Nat)}
theorem Zfs.lt (h:Zfs w m xs):m < w.heap.size:=by
 obtain⟨es,c,h,_⟩:=h;exact(Yc6.1 h).1
theorem Zfs.of {w':World}(h:Zfs w m xs)(hb:w'.heap[m]?=w.heap[m]?):Zfs w' m xs:=by
 obtain⟨es,c,h,h2⟩:=h;exact⟨es,c,hb.trans h,h2⟩
end Go.W
namespace Go.P
variable {w:World}{q o m:Nat}{cs:Array Value}{xs:List (ByteArray×Nat)}{ov:Value}{Fo:List Nat}{x:ByteArray}
structure Bd (w:World) (q:Nat) (T:TypeId) (o m:Nat) (cs:Array Value) (xs:List (ByteArray×Nat)) (ov:Value) (Fo:List Nat):Prop where
 blk:Blk w q (cs.setIfInBounds (o+1) ov) T
 c0:cs[o]?=some (.map (some m))
 sz:o+1 < cs.size
 row:Zag 9 1 Zvh w ov (xs.map (·.1)) Fo
 map:Zfs w m xs
 ne:q≠m
 new:Za9 0 w Fo
 qF:q∉Fo
 mF:m∉Fo
section
variable {w w':World} {q o m:Nat} {T:TypeId} {cs:Array Value} {xs:List (ByteArray×Nat)} {ov:Value} {Fo G:List Nat}
theorem Bd.of (h:Bd w q T o m cs xs ov Fo)(hs:w.heap.size<=w'.heap.size)(hb: ∀ k,k∈q::m::Fo->w'.heap[k]?=w.heap[k]?):Bd w' q T o m cs xs ov Fo:=
 ⟨h.blk.of (hb _ (by simp)),h.c0,h.sz,Zag.stable Zvh.stable _ _ _ _ _ h.row fun j hj=>hb j (by simp[hj]),h.map.of (hb _ (by simp)),h.ne,h.new.later lr hs,h.qF,h.mF⟩
theorem Bd.lt (h:Bd w q T o m cs xs ov Fo): ∀ k,k∈q::m::Fo->k < w.heap.size:=by
 intro k hk;simp at hk;rcases hk with rfl | rfl | hk
 ·exact h.blk.lt
 ·exact h.map.lt
 ·exact h.new.lt k hk
theorem Bd.off (h:Bd w q T o m cs xs ov Fo)(k:Off G w w')(hd: ∀ j,j∈q::m::Fo->j∉G):Bd w' q T o m cs xs ov Fo:=
 h.of k.size fun j hj=>k.block j (h.lt j hj) (hd j hj)
theorem Bd.cells (h:Bd w q T o m cs xs ov Fo):w.cell? ⟨q,o,none⟩=some (.map (some m))/\w.cell? ⟨q,o+1,none⟩=some ov/\ ∀ j,w.frozen? ⟨q,j,none⟩=false:=by
 refine⟨?_,?_,h.blk.soft⟩
 ·rw[h.blk.cell];simp only[Ycv];rw[if_neg (by omega)];exact h.c0
 ·rw[h.blk.cell];simp[h.sz]
end
theorem Z70:Zdp Tryz.prog 29 9 1 16:=by
 obtain⟨i0,hi,hz0,hz1,hz2⟩:=info_parts (by kernel_rfl:(Tryz.prog.info? 9).map (fun i=>(i.zero,i.size,i.bytes))=some (some (.string ⟨#[]⟩),1,16));exact⟨i0,_,Tryz.underlying29,hi,hz0,hz1,hz2,rfl,by decide,by decide⟩
theorem Zx3 {T:TypeId}(h:Bd w q T o m cs xs ov Fo)(x:ByteArray)(k:Nat)(hx:Zgj x xs 0=none)(hl:xs.length < 1000):
  Calls Tryz.prog 265 #[.pointer (some ⟨q,o,none⟩),.string x,.int .i64 (k:Int)] w fun e w'=>e= .returned (.tuple #[])/\ ∃ ov' Fo',Bd w' q T o m cs (xs++[(x,k)]) ov' Fo'/\Off (q::m::Fo) w w'/\ ∀ i,i∈Fo'->i∈Fo\/w.heap.size<=i:=by
 obtain⟨c0,c1,sf⟩:=h.cells;obtain⟨ob,hmu,hbm⟩:=Zwi h.map x k hx;obtain⟨W1,hW1⟩: ∃ W1,Box ({w with heap:=w.heap.setIfInBounds m ob}=W1):=⟨_,⟨rfl⟩⟩;rw[hW1.out]at hmu hbm;have O1:Box (Off [m] w W1):=⟨hW1.out▸(Off.refl _ w).put m ob (by simp)⟩;have H:=Zaa h;have b1:W1.heap[q]?=w.heap[q]?:=O1.out.block q h.blk.lt (by simpa using h.ne);have c0':W1.cell? ⟨q,o,none⟩=some (.map (some m)):=(Ycw (a:=⟨q,o,none⟩) b1).trans c0;have c1':W1.cell? ⟨q,o+1,none⟩=some ov:=(Ycw (a:=⟨q,o+1,none⟩) b1).trans c1;have sf': ∀ j,W1.frozen? ⟨q,j,none⟩=false:=fun j=>(Yeh (a:=⟨q,j,none⟩) b1).trans (sf j);have R1:=Zaa (Zag.stable Zvh.stable _ W1 _ _ _ h.row fun j hj=>O1.out.block j (h.new.lt j hj) (fun e=>by simp at e;subst e;exact h.mF hj));have HBM:=Zaa hbm;have hs1:=O1.out.size;have N1:Box (Za9 0 W1 Fo):=⟨h.new.later lr O1.out.size⟩;have hql:q < W1.heap.size:=Ycz h.blk.lt hs1;have hln:(xs.map (·.1)).length < 100000000:=by simp;omega
 clear h hbm hx c1 sf;go_enter Tryz.func265,Tryz.ntmps265
 go_wp2_with (at_builtin;go_must (refine Za7 Z70 rfl (.tmp 16) (.tmp 18) rfl Zvh.stable (fun _ _ _ _ h=>Zvh.one h) 0 ov (xs.map (·.1)) Fo rfl (Zag.stable Zvh.stable _ _ _ _ _ R1.out fun j hj=>Ycx _ _ _ (N1.out.lt j hj)) W1.heap.size #[.string x] 9 (0,0) x [] rfl (Zas _ _) rfl ⟨rfl,rfl⟩ hln (Yd1 _) (N1.out.later lr (by simp)) (Za9.nil _ _) (fun _ _ h=>by cases h) ?_);intro g8 cap8 w8 F8 happ;have b8:=(happ.same q (by simp;omega) H.out.qF).trans (Ycx _ _ _ hql);have c8:=(Ycw (a:=⟨q,o+1,none⟩) b8).trans c1';have s8:=fun j=>(Yeh (a:=⟨q,j,none⟩) b8).trans (sf' j))
 go_end0
 have hml:=HBM.out.lt;have hz:W1.heap.size < w8.heap.size:=by have:=happ.size;simp at this;omega
 have nF: ∀ j,j < W1.heap.size->j∉Fo->j∉F8:=fun j hj hn hF=>by
  rcases happ.sub j hF with h | h | h
  ·exact hn h
  ·cases h
  ·simp at h;omega
 have hsm: ∀ j,j < W1.heap.size->j∉Fo->w8.heap[j]?=W1.heap[j]?:=fun j hj hn=>(happ.same j (by simp;omega) hn).trans (Ycx _ _ _ hj);have hqF:=nF q hql H.out.qF;refine⟨rfl,.slice (some ⟨g8,0,none⟩) (xs.length+1) cap8,F8,⟨?_,H.out.c0,H.out.sz,?_,?_,H.out.ne,⟨happ.new.once,fun _ _=>Yd1 _,fun j hj=>by have:=happ.new.lt j hj;simpa[World.setCell]using this⟩,hqF,nF m hml H.out.mF⟩,?_,?_⟩
 ·have:=(H.out.blk.of (b8.trans b1)).set (o+1) (.slice (some ⟨g8,0,none⟩) (xs.length+1) cap8)
  rwa [Yee]at this
 ·have:=Zag.stable Zvh.stable _ (w8.setCell ⟨q,o+1,none⟩ (.slice (some ⟨g8,0,none⟩) (xs.length+1) cap8)) _ _ _ happ.row fun j hj=>Ycy _ _ _ _ (fun e=>hqF (by rw[show q=j from e.symm];exact hj))
  simpa using this
 ·exact HBM.out.of ((Ycy _ _ _ _ (fun e=>H.out.ne e.symm)).trans (hsm m hml H.out.mF))
 ·refine Off.set ⟨happ.os.trans O1.out.os,happ.tape.trans O1.out.tape,happ.output.trans O1.out.output,by omega,fun j hj hn=>?_⟩ q (o+1) _ (by simp);simp at hn;exact(hsm j (by omega) hn.2.2).trans (O1.out.block j hj (by simpa using hn.2.1))
 ·intro i hi;rcases happ.sub i hi with h | h | h
  ·exact .inl h
  ·cases h
  ·simp at h;exact .inr (by omega)
theorem Z2r {T:TypeId}(h:Bd w q T o m cs [] ov Fo):
  Calls Tryz.prog 261 #[.pointer (some ⟨q,o,none⟩),.int .i64 0] w fun e w'=>e= .returned (.tuple #[])/\ ∃ ov',Bd w' q T o m cs [] ov' Fo/\Off (q::m::Fo) w w':=by
 obtain⟨c0,c1,sf⟩:=h.cells;obtain⟨p,c,rfl⟩:=h.row.form;have H:=Zaa h;clear h;simp only[List.map_nil,Ydb]at c1 H;go_enter Tryz.func261,Tryz.ntmps261
 go_wp2_with fail
 refine wp_loop_rounds 1 ?_;rw[rounds_succ];go_wp2_with fail
 go_end0
 refine⟨rfl,.slice p 0 c,⟨?_,H.out.c0,H.out.sz,?_,?_,H.out.ne,⟨H.out.new.once,fun _ _=>Yd1 _,fun j hj=>by have:=H.out.new.lt j hj;simpa[World.setCell]using this⟩,H.out.qF,H.out.mF⟩,(Off.refl _ w).set q (o+1) _ (by simp)⟩
 ·have:=H.out.blk.set (o+1) (.slice p 0 c)
  rwa [Yee]at this
 ·exact Zag.stable Zvh.stable _ _ _ _ _ H.out.row fun j hj=>Ycy _ _ _ _ (fun e=>H.out.qF (by rw[show q=j from e.symm];exact hj))
 ·exact H.out.map.of (Ycy _ _ _ _ (fun e=>H.out.ne e.symm))
theorem Zag.open1 {e:TypeId}{v:Value}{F:List Nat}(h:Zag e 1 Zvh w v [x] F): ∃ g cap,v= .slice (some ⟨g,0,none⟩) 1 cap/\w.cell? ⟨g,0,none⟩=some (.string x)/\Zag e 1 Zvh w (.slice (some ⟨g,0,none⟩) 0 cap) [] F/\1<=cap:=by
 obtain⟨zs,hown,hz,hx,rfl,hl⟩:=h;match zs,hx with
 | [z],hx=>
  simp at hx;obtain⟨hz1,hz2,hz3⟩:=hz z (by simp);rw[<- hx]at hz3;have hz2':=hz2;rcases hown.2 with⟨_,h0⟩ | ⟨g,cap,cur,rfl,h1,h2,h3,h4,h5,h6⟩
  ·simp at h0
  ·refine⟨g,cap,rfl,?_,⟨[],⟨by simp,.inr ⟨g,cap,cur,rfl,h1,h2,Yd1 _,h4,h5,by simp⟩⟩,fun _ h=>(by cases h),rfl,?_,by simp⟩,by simpa using h3⟩
   ·have:=hown.cells (g:=g) rfl 0 (.string x) (by simp[hz3])
    exact this
   ·simp[hz2',Value.ownBlock]
theorem Z6s {k:Nat}{T:TypeId}(h:Bd w q T o m cs [(x,k)] ov Fo):
  Calls Tryz.prog 261 #[.pointer (some ⟨q,o,none⟩),.int .i64 0] w fun e w'=>e= .returned (.tuple #[])/\ ∃ ov',Bd w' q T o m cs [] ov' Fo/\Off (q::m::Fo) w w':=by
 obtain⟨c0,c1,sf⟩:=h.cells;obtain⟨g,c,rfl,cg,hr0,hc1⟩:=Zag.open1 h.row;obtain⟨ob,hmu,hbm⟩:=Zxe h.map;obtain⟨W1,hW1⟩: ∃ W1,Box ({w with heap:=w.heap.setIfInBounds m ob}=W1):=⟨_,⟨rfl⟩⟩;rw[hW1.out]at hmu hbm;have O1:Box (Off [m] w W1):=⟨hW1.out▸(Off.refl _ w).put m ob (by simp)⟩;have b1:W1.heap[q]?=w.heap[q]?:=O1.out.block q h.blk.lt (by simpa using h.ne);have c1':W1.cell? ⟨q,o+1,none⟩=some (.slice (some ⟨g,0,none⟩) 1 c):=(Ycw (a:=⟨q,o+1,none⟩) b1).trans c1;have sf': ∀ j,W1.frozen? ⟨q,j,none⟩=false:=fun j=>(Yeh (a:=⟨q,j,none⟩) b1).trans (sf j);have H:=Zaa h;have HBM:=Zaa hbm;have R0:=Zaa hr0;clear h hbm hr0;go_enter Tryz.func261,Tryz.ntmps261
 go_wp2_with fail
 refine wp_loop_rounds 2 ?_;rw[rounds_succ];go_wp2_with fail
 rw[rounds_succ];go_wp2_with fail
 go_end0
 have nF:=H.out.new;refine⟨rfl,.slice (some ⟨g,0,none⟩) 0 c,⟨?_,H.out.c0,H.out.sz,?_,?_,H.out.ne,⟨nF.once,fun _ _=>Yd1 _,fun j hj=>Ycz (nF.lt j hj) (by simpa[World.setCell]using O1.out.size)⟩,H.out.qF,H.out.mF⟩,(O1.out.mono (by simp)).set q (o+1) _ (by simp)⟩
 ·have:=(H.out.blk.of b1).set (o+1) (.slice (some ⟨g,0,none⟩) 0 c)
  rwa [Yee]at this
 ·exact Zag.stable Zvh.stable _ _ _ _ _ R0.out fun j hj=>(Ycy _ _ _ _ (fun e=>H.out.qF (by rw[show q=j from e.symm];exact hj))).trans (O1.out.block j (nF.lt j hj) (fun e=>H.out.mF (by rw[<- Ydt.1 e];exact hj)))
 ·exact HBM.out.of (Ycy _ _ _ _ (fun e=>H.out.ne e.symm))
theorem Zig {T:TypeId}(h:Bd w q T o m cs xs ov Fo)(hl:xs.length<=1):
  Calls Tryz.prog 261 #[.pointer (some ⟨q,o,none⟩),.int .i64 0] w fun e w'=>e= .returned (.tuple #[])/\ ∃ ov',Bd w' q T o m cs [] ov' Fo/\Off (q::m::Fo) w w':=by
 match xs,hl with
 | [],_=>exact Z2r h
 | [(x,k)],_=>exact Z6s h
end Go.P
