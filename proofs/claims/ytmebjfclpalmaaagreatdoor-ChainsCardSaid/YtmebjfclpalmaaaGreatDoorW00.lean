import Derived.Test.YtmebjfclpalmaaaGreatDoorV
import Derived.WalkKit
import Derived.Deep.AppendLies
import Derived.Deep.Draws
import Derived.Laws.Append
import Derived.Laws.IdiomStrings
import Derived.Laws.OwnMore
import Derived.Test.YtmebjfclpalmaaaGreatDoorProg
import Derived.WalkLawsBesides
import Derived.WalkSpells
import Derived.Outline
import Derived.BigQuiet
import Derived.Deep.QuietTactic
import Derived.Handy
import Derived.RangeFuncNested
import Derived.RangeFuncLeaves
import Derived.RangeFuncBound
import Derived.RangeFuncCalls
import Derived.Shelf.RegionOpen
import Derived.OwnWalkIn
import Derived.TacticsInMore
import Derived.LoopNIn
import Derived.LoopIn
import Derived.MapKept
import Derived.Deep.RegionWith
import Derived.Lib.ValidU
import Derived.Lib.LaidU8
set_option maxRecDepth 100000
set_option maxHeartbeats 8000000
set_option linter.unusedSimpArgs false
open Go.Proofs Go.RowKit Go.W Tryz
namespace Go.W
structure Box (p:Prop):Prop where
 out:p
theorem Zaa {p:Prop}(h:p):Box p:=⟨h⟩
end Go.W
namespace Go.W
variable {s B B':Nat}{v:Value}{w w':World}
inductive T where
 | mk (k i:Int) (t:ByteArray) (l:List T)
def T.k:T->Int | .mk k _ _ _=>k
def T.i:T->Int | .mk _ i _ _=>i
def T.t:T->ByteArray | .mk _ _ t _=>t
def T.l:T->List T | .mk _ _ _ l=>l
structure A where
 name:ByteArray
 terms:List T
structure G where
 op:Int
 a:T
 b:T
structure R where
 head:A
 body:List A
 guards:List G
structure Pol where
 allow:Bool
 either:List R
structure Bk where
 facts:List A
 rules:List R
 checks:List (List R)
def Zlg (n:Int):Prop:= -9223372036854775808<=n/\n<=9223372036854775807
structure Zan {α:Type} (s:Nat) (Q:Nat->Nat->α->Prop) (p:Option Addr) (xs:List α):Prop where
 len:xs.length < 1000000000
 at_: ∀ i x,xs[i]?=some x-> ∃ b o,p=some ⟨b,o,none⟩/\Q b (o+i*s) x
def Zlk {α:Type} (s:Nat) (Q:Nat->Nat->α->Prop) (v:Value) (xs:List α):Prop:=
 ∃ p cap,v= .slice p xs.length cap/\xs.length<=cap/\Zan s Q p xs
structure Zxu (Q:Nat->Nat->T->Prop) (kv iv tv lv:Value) (x:T):Prop where
 k:kv= .int .i64 x.k
 i:iv= .int .i64 x.i
 t:tv= .string x.t
 kr:Zlg x.k
 ir:Zlg x.i
 tr:x.t.size < 1000000000
 l:Zlk 4 Q lv x.l
def Zbl (B:Nat) (w:World):Nat->Nat->Nat->T->Prop
 | 0,_,_,_=>False
 | d+1,b,o,x=>b < B/\ ∃ lv,w.cell? ⟨b,o,none⟩=some (.int .i64 x.k)/\w.cell? ⟨b,o+1,none⟩=some (.int .i64 x.i)/\w.cell? ⟨b,o+2,none⟩=some (.string x.t)/\w.cell? ⟨b,o+3,none⟩=some lv/\
   Zxu (Zbl B w d) (.int .i64 x.k) (.int .i64 x.i) (.string x.t) lv x
def Z18 (B:Nat) (w:World) (d:Nat) (v:Value) (xs:List T):Prop:=Zlk 4 (Zbl B w d) v xs
structure Zbb (B:Nat) (w:World) (d:Nat) (b o:Nat) (x:A):Prop where
 blk:b < B
 name:w.cell? ⟨b,o,none⟩=some (.string x.name)
 size:x.name.size < 1000000000
 terms: ∃ v,w.cell? ⟨b,o+1,none⟩=some v/\Z18 B w d v x.terms
def Zzk (B:Nat) (w:World) (d:Nat) (v:Value) (xs:List A):Prop:=Zlk 2 (Zbb B w d) v xs
structure Zct (B:Nat) (w:World) (d:Nat) (b o:Nat) (x:G):Prop where
 blk:b < B
 op:w.cell? ⟨b,o,none⟩=some (.int .i64 x.op)
 opr:Zlg x.op
 a:Zbl B w d b (o+1) x.a
 b:Zbl B w d b (o+5) x.b
def Zs3 (B:Nat) (w:World) (d:Nat) (v:Value) (xs:List G):Prop:=Zlk 9 (Zct B w d) v xs
structure Zb5 (B:Nat) (w:World) (d:Nat) (b o:Nat) (x:R):Prop where
 blk:b < B
 head:Zbb B w d b o x.head
 body: ∃ v,w.cell? ⟨b,o+2,none⟩=some v/\Zzk B w d v x.body
 guards: ∃ v,w.cell? ⟨b,o+3,none⟩=some v/\Zs3 B w d v x.guards
def Zvo (B:Nat) (w:World) (d:Nat) (v:Value) (xs:List R):Prop:=Zlk 4 (Zb5 B w d) v xs
structure Zhj (B:Nat) (w:World) (d:Nat) (b o:Nat) (x:List R):Prop where
 blk:b < B
 either: ∃ v,w.cell? ⟨b,o,none⟩=some v/\Zvo B w d v x
def Zs2 (B:Nat) (w:World) (d:Nat) (v:Value) (xs:List (List R)):Prop:=Zlk 1 (Zhj B w d) v xs
structure Zjt (B:Nat) (w:World) (d:Nat) (b o:Nat) (x:Pol):Prop where
 blk:b < B
 allow:w.cell? ⟨b,o,none⟩=some (.bool x.allow)
 either: ∃ v,w.cell? ⟨b,o+1,none⟩=some v/\Zvo B w d v x.either
structure Zbx (B:Nat) (w:World) (d:Nat) (b o:Nat) (x:Bk):Prop where
 blk:b < B
 facts: ∃ v,w.cell? ⟨b,o,none⟩=some v/\Zzk B w d v x.facts
 rules: ∃ v,w.cell? ⟨b,o+1,none⟩=some v/\Zvo B w d v x.rules
 checks: ∃ v,w.cell? ⟨b,o+2,none⟩=some v/\Zs2 B w d v x.checks
theorem Zlk.imp {α:Type}{Q Q':Nat->Nat->α->Prop}{xs:List α}(h:Zlk s Q v xs)(f: ∀ b o x,x∈xs->Q b o x->Q' b o x):Zlk s Q' v xs:=by
 obtain⟨p,cap,hv,hc,hl,ha⟩:=h;refine⟨p,cap,hv,hc,hl,fun i x hx=>?_⟩;obtain⟨b,o,hp,hq⟩:=ha i x hx;exact⟨b,o,hp,f _ _ _ (Yeq hx) hq⟩
structure Zc1 (B B':Nat) (w w':World):Prop where
 le:B<=B'
 cell: ∀ b o,b < B->w'.cell? ⟨b,o,none⟩=w.cell? ⟨b,o,none⟩
theorem Below.carry (h:Below B w w')(hB:B<=B'):Zc1 B B' w w':=⟨hB,fun b o hb=>h.cell (p:=⟨b,o,none⟩) hb⟩
theorem Zc1.up (h:B<=B'):Zc1 B B' w w:=⟨h,fun _ _ _=>rfl⟩
theorem Zxu.imp {Q Q':Nat->Nat->T->Prop}{kv iv tv lv:Value}{x:T}(h:Zxu Q kv iv tv lv x)(f: ∀ b o y,Q b o y->Q' b o y):Zxu Q' kv iv tv lv x:=
 ⟨h.k,h.i,h.t,h.kr,h.ir,h.tr,h.l.imp fun b o x _=>f b o x⟩
theorem Zbl.carry (c:Zc1 B B' w w'): ∀ {d d' b o x},d<=d'->Zbl B w d b o x->Zbl B' w' d' b o x:=by
 intro d;induction d with
 | zero=>intro d' b o x _ h;exact h.elim
 | succ d ih=>
  intro d' b o x hd h;obtain⟨hb,lv,h0,h1,h2,h3,h4⟩:=h;obtain⟨d',rfl⟩: ∃ e,d'=e+1:=⟨d' - 1,by omega⟩;have cc:=fun o=>c.cell b o hb;exact⟨Ydh hb c.le,lv,by rw[cc];exact h0,by rw[cc];exact h1,by rw[cc];exact h2,by rw[cc];exact h3,h4.imp fun b o y=>ih (by omega)⟩
section
variable {B B':Nat} {w w':World} {d d' b o:Nat}
theorem Z18.carry {xs:List T}(c:Zc1 B B' w w')(hd:d<=d')(h:Z18 B w d v xs):Z18 B' w' d' v xs:=h.imp fun _ _ _ _=>Zbl.carry c hd
theorem Zbb.carry {x:A}(c:Zc1 B B' w w')(hd:d<=d')(h:Zbb B w d b o x):Zbb B' w' d' b o x:=by
 obtain⟨hb,h1,h2,v,h3,h4⟩:=h;exact⟨Ydh hb c.le,by rw[c.cell _ _ hb];exact h1,h2,v,by rw[c.cell _ _ hb];exact h3,h4.carry c hd⟩
theorem Zzk.carry {xs:List A}(c:Zc1 B B' w w')(hd:d<=d')(h:Zzk B w d v xs):Zzk B' w' d' v xs:=h.imp fun _ _ _ _=>Zbb.carry c hd
theorem Zct.carry {x:G}(c:Zc1 B B' w w')(hd:d<=d')(h:Zct B w d b o x):Zct B' w' d' b o x:=by
 obtain⟨hb,h1,h2,h3,h4⟩:=h;exact⟨Ydh hb c.le,by rw[c.cell _ _ hb];exact h1,h2,h3.carry c hd,h4.carry c hd⟩
theorem Zs3.carry {xs:List G}(c:Zc1 B B' w w')(hd:d<=d')(h:Zs3 B w d v xs):Zs3 B' w' d' v xs:=h.imp fun _ _ _ _=>Zct.carry c hd
theorem Zb5.carry {x:R}(c:Zc1 B B' w w')(hd:d<=d')(h:Zb5 B w d b o x):Zb5 B' w' d' b o x:=by
 obtain⟨hb,h1,⟨v,h2,h3⟩,u,h4,h5⟩:=h;exact⟨Ydh hb c.le,h1.carry c hd,⟨v,by rw[c.cell _ _ hb];exact h2,h3.carry c hd⟩,u,by rw[c.cell _ _ hb];exact h4,h5.carry c hd⟩
theorem Zvo.carry {xs:List R}(c:Zc1 B B' w w')(hd:d<=d')(h:Zvo B w d v xs):Zvo B' w' d' v xs:=h.imp fun _ _ _ _=>Zb5.carry c hd
theorem Zhj.carry {x:List R}(c:Zc1 B B' w w')(hd:d<=d')(h:Zhj B w d b o x):Zhj B' w' d' b o x:=by
 obtain⟨hb,v,h2,h3⟩:=h;exact⟨Ydh hb c.le,v,by rw[c.cell _ _ hb];exact h2,h3.carry c hd⟩
theorem Zs2.carry {xs:List (List R)}(c:Zc1 B B' w w')(hd:d<=d')(h:Zs2 B w d v xs):Zs2 B' w' d' v xs:=h.imp fun _ _ _ _=>Zhj.carry c hd
theorem Zjt.carry {x:Pol}(c:Zc1 B B' w w')(hd:d<=d')(h:Zjt B w d b o x):Zjt B' w' d' b o x:=by
 obtain⟨hb,h1,v,h2,h3⟩:=h;exact⟨Ydh hb c.le,by rw[c.cell _ _ hb];exact h1,v,by rw[c.cell _ _ hb];exact h2,h3.carry c hd⟩
theorem Zbx.carry {x:Bk}(c:Zc1 B B' w w')(hd:d<=d')(h:Zbx B w d b o x):Zbx B' w' d' b o x:=by
 obtain⟨hb,⟨v,h2,h3⟩,⟨u,h4,h5⟩,q,h6,h7⟩:=h;exact⟨Ydh hb c.le,⟨v,by rw[c.cell _ _ hb];exact h2,h3.carry c hd⟩,⟨u,by rw[c.cell _ _ hb];exact h4,h5.carry c hd⟩,q,by rw[c.cell _ _ hb];exact h6,h7.carry c hd⟩
end
theorem Zan.get {α:Type}{Q:Nat->Nat->α->Prop}{p:Option Addr}{xs:List α}(h:Zan s Q p xs)(i:Nat)(hi:i < xs.length): ∃ b o,p=some ⟨b,o,none⟩/\Q b (o+i*s) xs[i]:=h.at_ i xs[i] (Ydi hi)
end Go.W
namespace Go.W
variable {P:Program}{w:World}{t e:TypeId}{size bytes:Nat}{ops:Array Oper}{o:Oper}{a:Act}{Q:Exit->Act->World->Prop}
def Zdw (P:Program) (t e:TypeId) (size bytes:Nat):Prop:=
 ∃ i z,P.underlying t=some (.slice e)/\P.info? e=some i/\i.zero=some z/\i.size=size/\i.bytes=bytes/\z.cells.size=size/\0 < size/\bytes<=1000
structure Zrk (w w1:World) (B:Nat) (e:TypeId) (size:Nat) (v:Value) (g cap n:Nat) (xs:List Value):Prop where
 own:w1.ownsRow B e size (.slice (some ⟨g,0,none⟩) n cap) n xs
 grown:w.grownBy w1 v.ownBlock
 spot:v.ownBlock=some g\/g=w.heap.size
 lt:g < w1.heap.size
theorem Zxo (E:Zdw P t e size bytes){rest:List Oper}(hgd:o.guard=none)(s x:Operand)
  (ho:o.op= .call {callee:= .builtin .append,args:=#[s,x],argTypes:=#[t,t]}) (B:Nat) (v:Value) (n:Nat) (xs:List Value) (hs:a.eval s=v) (hown:w.ownsRow B e size v n xs)
  (b:Nat) (cs:Array Value) (et:TypeId) (fr:Nat×Nat) (hx:a.eval x= .slice (some ⟨b,0,none⟩) 1 1) (hblk:w.heap[b]?=some (.cells cs et fr)) (hcs:cs.size=size) (h1: ∀ u∈cs.toList,u.oneCell'=true)
  (hn:n < 1000000000) (hB:B<=w.heap.size)
  (h: ∀ g cap w1,Zrk w w1 B e size v g cap (n+1) (xs++cs.toList)->wpList P ops Q rest (a.put o.dst (.slice (some ⟨g,0,none⟩) (n+1) cap)) w1):wpList P ops Q (o::rest) a w:=by
 obtain⟨i,z,ht,hi,hz,hsize,hby,hzs,hsz,hbb⟩:=E;have hbytes:(n+1)*bytes<=140737488355328:=by
  have h:(n+1)*bytes<=1000000000*1000:=Nat.mul_le_mul (by omega) hbb;omega
 exact wpList_append_lies w hgd s x t ho B e i z size bytes ht hi hz hsize hby hzs hsz v n xs hs hown ⟨b,0,none⟩ 1 1 cs.toList hx (by simp[hcs]) (World.news_of_block hblk) h1 (by omega) (by unfold maxLen;omega) hbytes hB _ rfl
  fun g cap w1 h2 h3 h4 h5=>h g cap w1 ⟨h2,h3,h4,h5⟩
theorem Z4z (E:Zdw P t e size bytes){K:Act->World->Prop}{F:Prop}(hgd:o.guard=none)(s x:Operand)
  (ho:o.op= .call {callee:= .builtin .append,args:=#[s,x],argTypes:=#[t,t]}) (B:Nat) (v:Value) (n:Nat) (xs:List Value) (hs:a.eval s=v) (hown:w.ownsRow B e size v n xs)
  (b:Nat) (cs:Array Value) (et:TypeId) (fr:Nat×Nat) (hx:a.eval x= .slice (some ⟨b,0,none⟩) 1 1) (hblk:w.heap[b]?=some (.cells cs et fr)) (hcs:cs.size=size) (h1: ∀ u∈cs.toList,u.oneCell'=true)
  (hn:n < 1000000000) (hB:B<=w.heap.size)
  (h: ∀ g cap w1,Zrk w w1 B e size v g cap (n+1) (xs++cs.toList)->K (a.put o.dst (.slice (some ⟨g,0,none⟩) (n+1) cap)) w1):
  if Region.wanted o (yielded ops a.tmps)=true then Oper.wp P o a w K Q else F:=by
 obtain⟨i,z,ht,hi,hz,hsize,hby,hzs,hsz,hbb⟩:=E;have hbytes:(n+1)*bytes<=140737488355328:=by
  have h:(n+1)*bytes<=1000000000*1000:=Nat.mul_le_mul (by omega) hbb;omega
 exact step_append_lies w hgd s x t ho B e i z size bytes ht hi hz hsize hby hzs hsz v n xs hs hown ⟨b,0,none⟩ 1 1 cs.toList hx (by simp[hcs]) (World.news_of_block hblk) h1 (by omega) (by unfold maxLen;omega) hbytes hB _ rfl
  fun g cap w1 h2 h3 h4 h5=>h g cap w1 ⟨h2,h3,h4,h5⟩
theorem Zaw (w:World)(o:Obj):(w.alloc o).heap[w.heap.size]?=some o:=heap_alloc_new w o
end Go.W
namespace Go.W
def Zac (s:ByteArray):List Nat:=s.data.toList.map UInt8.toNat
theorem Zrq (s:ByteArray): ∀ i,(Zac s).getD i 0 < 256:=by
 intro i;simp only[Zac,List.getD_eq_getElem?_getD,Yd5];cases s.data.toList[i]? with
 | none=>simp
 | some b=>simpa using b.toNat_lt
end Go.W
namespace Go.W
def Za1 (c:Nat):Bool:=decide (48<=c) && decide (c<=57)
def Zcr (c:Nat):Bool:=decide (97<=c) && decide (c<=122)
def Zb2 (c:Nat):Bool:=Zcr c || Za1 c || decide (c=95)
def Z6v (bs:List Nat) (i:Nat):Bool:=Zcr (bs.getD i 0) || (decide (i≠0) && (Za1 (bs.getD i 0) || decide (bs.getD i 0=95)))
def Zdm (t:ByteArray):Bool:=decide (∀ i,i < t.size->Z6v (Zac t) i=true) && decide (1<=t.size) && decide (t.size<=16)
def Ya5:Nat->Nat->List Nat->Option Nat
 | 0,v,_=>some v
 | _+1,_,[]=>none
 | k+1,v,d::r=>if 128<=d/\d<=191 then Ya5 k (64*v+(d - 128)) r else none
def Yc5 (n:Nat):Option Nat->Nat×Nat
 | none=>(0,0)
 | some v=>if n=3/\(v < 2048\/55296<=v/\v<=57343)\/n=4/\(v < 65536\/1114111 < v)then(0,0)else(n,v)
def Z3n (c:Nat):Nat×Nat:=if c < 128 then(1,c)else if 194<=c/\c<=223 then(2,c - 192)else if 224<=c/\c<=239 then(3,c - 224)else if 240<=c/\c<=244 then(4,c - 240)else(0,0)
def Yb4:List Nat->Nat×Nat
 | []=>(0,0)
 | c::r=>if(Z3n c).1<=1 then Z3n c else Yc5 (Z3n c).1 (Ya5 ((Z3n c).1 - 1) (Z3n c).2 r)
def Yb2:Nat->List Nat->Bool
 | _,[]=>true
 | 0,_::_=>false
 | f+1,c::r=>if(Yb4 (c::r)).1=0 then false else Yb2 f ((c::r).drop (Yb4 (c::r)).1)
def Ycl (t:ByteArray):Bool:=Yb2 t.size (Zac t)
def Za2 {α:Type} (f:α->Int):List α->Int
 | []=>0
 | x::r=>if f x≠0 then f x else Za2 f r
def Z5b (deep:Nat) (k i:Int) (t:ByteArray) (n:Nat):Int:=
 if k < 1\/7 < k then 2
 else if(i≠0/\ ¬ (k=2\/k=5\/k=6))\/(t.size≠0/\ ¬ (k=1\/k=3\/k=4))\/(0 < n/\k≠7)then 2
 else if k=1/\(Zdm t=false\/0 < deep)then 2
 else if k=3/\Ycl t=false then 2
 else if k=6/\i≠0/\i≠1 then 2
 else if 64 < t.size\/6 < n then 4
 else if k=7/\deep=3 then 3
 else 0
mutual
def Z8a (deep:Nat):T->Int
 | .mk k i t l=>if Z5b deep k i t l.length≠0 then Z5b deep k i t l.length else Z4n (deep+1) l
def Z4n (deep:Nat):List T->Int
 | []=>0
 | x::r=>if Z8a deep x≠0 then Z8a deep x else Z4n deep r
end
def Z6k (t:T):Bool:=decide (t.k=1)
def b1 (n:Nat):ByteArray:=⟨#[UInt8.ofNat n]⟩
def cat {α:Type} (f:α->ByteArray):List α->ByteArray
 | []=>ByteArray.empty
 | x::r=>f x++cat f r
def Zq2:Nat->Nat->ByteArray
 | 0,n=>b1 n
 | f+1,n=>if 128<=n then b1 (n % 128+128)++Zq2 f (n / 128)else b1 n
def Zel (n:Nat):ByteArray:=Zq2 10 n
def Zb4 (t:ByteArray):ByteArray:=Zel t.size++t
def Zjg (i:Int):Nat:=if i < 0 then(-2*i - 1).toNat else(2*i).toNat
mutual
def Zed:T->ByteArray
 | .mk k i t l=>b1 (k % 256).toNat++(if k=2\/k=5 then Zel (Zjg i)else if k=6 then b1 (i % 256).toNat else if k=7 then Zel l.length++Z4g l else Zb4 t)
def Z4g:List T->ByteArray
 | []=>ByteArray.empty
 | x::r=>Zed x++Z4g r
end
theorem Zy0 (l:List T):Z4g l=cat Zed l:=by
 induction l with
 | nil=>simp[Z4g,cat]
 | cons x r ih=>simp[Z4g,cat,ih]
def Zaz {α:Type} (f:α->ByteArray) (l:List α):ByteArray:=Zel l.length++cat f l
theorem Zw2 (x:T):Zed x=b1 (x.k % 256).toNat++(if x.k=2\/x.k=5 then Zel (Zjg x.i)else if x.k=6 then b1 (x.i % 256).toNat else if x.k=7 then Zaz Zed x.l else Zb4 x.t):=by
 cases x;rw[Zed,Zy0];rfl
def Zli (a:A):ByteArray:=Zb4 a.name++Zaz Zed a.terms
def Zvh (g:G):ByteArray:=b1 (g.op % 256).toNat++Zed g.a++Zed g.b
def Zb9 (r:R):ByteArray:=Zaz Zli r.body++Zaz Zvh r.guards
def Zvi (r:R):ByteArray:=Zli r.head++Zb9 r
def Ze9 (b:Bk):ByteArray:=Zaz Zli b.facts++Zaz Zvi b.rules++Zaz (Zaz Zb9) b.checks
def Zgn (op:Int):ByteArray:=
 if op=1 then⟨#[61,61]⟩else if op=2 then⟨#[33,61]⟩else if op=3 then⟨#[60]⟩else if op=4 then⟨#[60,61]⟩else if op=5 then⟨#[62]⟩else if op=6 then⟨#[62,61]⟩else if op=7 then⟨#[94,61]⟩else⟨#[]⟩
def Zv6:ByteArray:=⟨#[59,10]⟩
end Go.W
namespace Go.W
structure Tok where
 kind:Nat
 text:ByteArray
 num:Int
 at_:Nat
def Zi9 (c:Nat):Bool:=decide (c=32) || decide (c=9) || decide (c=10) || decide (c=13)
def Zdk (c:Nat):Bool:=Za1 c || (decide (97<=c) && decide (c<=102))
section
variable (bs:List Nat)
def Zos (ok:Nat->Bool):Nat->Nat->Nat
 | 0,p=>p
 | f+1,p=>if p < bs.length/\ok (bs.getD p 0)=true then Zos ok f (p+1)else p
def Zce (ok:Nat->Bool) (p:Nat):Nat:=Zos bs ok (bs.length - p) p
def Zm1:Nat->Nat->Nat
 | 0,p=>p
 | f+1,p=>if p < bs.length/\Zi9 (bs.getD p 0)=true then Zm1 f (p+1)
   else if p+1 < bs.length/\bs.getD p 0=47/\bs.getD (p+1) 0=47 then Zm1 f (Zce bs (fun c=>decide (c≠10)) p)else p
def Zhc (p:Nat):Nat:=Zm1 bs (bs.length - p) p
end
section
variable (t:ByteArray)
def Zg8:List ByteArray:=[⟨#[60,45]⟩,⟨#[60,61]⟩,⟨#[62,61]⟩,⟨#[61,61]⟩,⟨#[33,61]⟩,⟨#[94,61]⟩,⟨#[60]⟩,⟨#[62]⟩,⟨#[40]⟩,⟨#[41]⟩,⟨#[91]⟩,⟨#[93]⟩,⟨#[44]⟩,⟨#[59]⟩]
def isP (m:ByteArray) (s:Tok×Nat):Bool:=(decide (s.1.kind=109) || decide (s.1.kind=110)) && decide (s.1.text=m)
def Zys (s:Tok×Nat):Int:=if isP (Zgn 1) s then 1 else if isP (Zgn 2) s then 2 else if isP (Zgn 3) s then 3 else if isP (Zgn 4) s then 4 else if isP (Zgn 5) s then 5 else if isP (Zgn 6) s then 6 else if isP (Zgn 7) s then 7 else 0
end
end Go.W
namespace Go.W
variable {a b c d v:Value}{w w':World}{B B':Nat}{F:List Nat}{x:T}
def Blk (w:World) (L:Nat) (cs:Array Value) (e:TypeId):Prop:=w.heap[L]?=some (.cells cs e (0,0))
section
variable {w w':World} {L:Nat} {cs:Array Value} {e:TypeId}
theorem Blk.lt (h:Blk w L cs e):L < w.heap.size:=(Ydo.1 h).1
theorem Blk.cell (h:Blk w L cs e)(j:Nat):w.cell? ⟨L,j,none⟩=cs[j]?:=cell_of_row w L j cs e (0,0) h
theorem Blk.soft (h:Blk w L cs e)(j:Nat):w.frozen? ⟨L,j,none⟩=false:=by
 unfold Blk at h;simp[World.frozen?,h]
theorem Blk.of (h:Blk w L cs e)(k:w'.heap[L]?=w.heap[L]?):Blk w' L cs e:=k.trans h
theorem Blk.set (h:Blk w L cs e)(j:Nat)(v:Value):Blk (w.setCell ⟨L,j,none⟩ v) L (cs.setIfInBounds j v) e:=heap_setCell_same w L j cs e v h
theorem Blk.away (h:Blk w L cs e)(b o:Nat)(hne:L≠b)(v:Value):Blk (w.setCell ⟨b,o,none⟩ v) L cs e:=h.of (Ydg w _ v L hne)
theorem Blk.alloc (h:Blk w L cs e)(o:Obj):Blk (w.alloc o) L cs e:=h.of (Ydf w o L h.lt)
theorem Blk.new (w:World)(cs:Array Value)(e:TypeId):Blk (w.alloc (.cells cs e)) w.heap.size cs e:=heap_alloc_new w _
theorem Blk.one (h:Blk w L #[a] e):w.cell? ⟨L,0,none⟩=some a/\ ∀ j,w.frozen? ⟨L,j,none⟩=false:=⟨h.cell 0,h.soft⟩
theorem Blk.two (h:Blk w L #[a,b] e):w.cell? ⟨L,0,none⟩=some a/\w.cell? ⟨L,1,none⟩=some b/\ ∀ j,w.frozen? ⟨L,j,none⟩=false:=⟨h.cell 0,h.cell 1,h.soft⟩
theorem Blk.three (h:Blk w L #[a,b,c] e):w.cell? ⟨L,0,none⟩=some a/\w.cell? ⟨L,1,none⟩=some b/\w.cell? ⟨L,2,none⟩=some c/\ ∀ j,w.frozen? ⟨L,j,none⟩=false:=⟨h.cell 0,h.cell 1,h.cell 2,h.soft⟩
theorem Blk.four (h:Blk w L #[a,b,c,d] e):w.cell? ⟨L,0,none⟩=some a/\w.cell? ⟨L,1,none⟩=some b/\w.cell? ⟨L,2,none⟩=some c/\w.cell? ⟨L,3,none⟩=some d/\ ∀ j,w.frozen? ⟨L,j,none⟩=false:=⟨h.cell 0,h.cell 1,h.cell 2,h.cell 3,h.soft⟩
theorem Blk.nine {e1 f g i j:Value}(h:Blk w L #[a,b,c,d,e1,f,g,i,j] e):w.cell? ⟨L,0,none⟩=some a/\w.cell? ⟨L,1,none⟩=some b/\w.cell? ⟨L,2,none⟩=some c/\w.cell? ⟨L,3,none⟩=some d/\w.cell? ⟨L,4,none⟩=some e1/\w.cell? ⟨L,5,none⟩=some f/\w.cell? ⟨L,6,none⟩=some g/\w.cell? ⟨L,7,none⟩=some i/\w.cell? ⟨L,8,none⟩=some j/\ ∀ j,w.frozen? ⟨L,j,none⟩=false:=
 ⟨h.cell 0,h.cell 1,h.cell 2,h.cell 3,h.cell 4,h.cell 5,h.cell 6,h.cell 7,h.cell 8,h.soft⟩
theorem Blk.dr (h:Blk w L cs e)(n:Nat):Blk (w.drewN n) L cs e:=h
end
structure Tys where
 term:TypeId
 atom:TypeId
 guard:TypeId
 rule:TypeId
 check:TypeId
 pol:TypeId
abbrev Zgj (α:Type):=World->List Value->α->List Nat->Prop
def Zc3 {α:Type} (Q:Zgj α):Prop:= ∀ w w' vs x F,Q w vs x F->(∀ k,k∈F->w'.heap[k]?=w.heap[k]?)->Q w' vs x F
def Zag {α:Type} (e:TypeId) (s:Nat) (Q:Zgj α) (w:World) (v:Value) (xs:List α) (F:List Nat):Prop:=
 ∃ zs:List (List Value×α×List Nat),w.ownsRow 0 e s v zs.length (zs.map (·.1)).flatten/\(∀ z,z∈zs->z.1.length=s/\Q w z.1 z.2.1 z.2.2)/\xs=zs.map (·.2.1)/\F=v.ownBlock.toList++(zs.map (·.2.2)).flatten/\zs.length < 1000000000
section
variable {α:Type} {e:TypeId} {s:Nat} {Q:Zgj α} {w w':World} {v:Value} {xs:List α} {F:List Nat}
theorem Zag.nil:Zag e s Q w (.slice none 0 0) [] []:=⟨[],World.ownsRow_nil w 0 e s,fun _ h=>(by cases h),rfl,rfl,by simp⟩
theorem Zag.form (h:Zag e s Q w v xs F): ∃ p cap,v= .slice p xs.length cap:=by
 obtain⟨zs,ho,_,rfl,_,_⟩:=h;rcases ho.2 with⟨rfl,h0⟩ | ⟨g,cap,cur,rfl,_⟩
 ·exact⟨none,0,by simp[h0]⟩
 ·exact⟨some ⟨g,0,none⟩,cap,by simp⟩
theorem Zag.one (h:Zag e s Q w v xs F):v.oneCell'=true:=by
 obtain⟨p,cap,rfl⟩:=h.form;rfl
theorem Z0x {n:Nat}{vs:List Value}(h:w.ownsRow B e s v n vs)(hb: ∀ k,v.ownBlock=some k->w'.heap[k]?=w.heap[k]?):w'.ownsRow B e s v n vs:=by
 refine⟨h.1,?_⟩;rcases h.2 with h2 | ⟨g,cap,cur,rfl,h1,h2,h3⟩
 ·exact .inl h2
 ·exact .inr ⟨g,cap,cur,rfl,h1,by rw[hb g rfl];exact h2,h3⟩
theorem Zag.keep {Q':Zgj α}(h:Zag e s Q w v xs F)(hb: ∀ k,k∈F->w'.heap[k]?=w.heap[k]?)(f: ∀ vs x G,(∀ k,k∈G->k∈F)->x∈xs->Q w vs x G->Q' w' vs x G):Zag e s Q' w' v xs F:=by
 obtain⟨zs,ho,hz,rfl,rfl,hl⟩:=h;refine⟨zs,Z0x ho (fun k hk=>hb k (by simp[hk])),fun z hm=>⟨(hz z hm).1,f _ _ _ (fun k hk=>?_) (List.mem_map.2 ⟨z,hm,rfl⟩) (hz z hm).2⟩,rfl,rfl,hl⟩;exact Yed _ (List.mem_flatten.2 ⟨z.2.2,List.mem_map.2 ⟨z,hm,rfl⟩,hk⟩)
theorem Zag.stable (hQ:Zc3 Q): ∀ w w' v xs F,Zag e s Q w v xs F->(∀ k,k∈F->w'.heap[k]?=w.heap[k]?)->Zag e s Q w' v xs F:=by
 intro w w' v xs F h hb;exact h.keep hb fun vs x G hG _ hq=>hQ w w' vs x G hq fun k hk=>hb k (hG k hk)
end
structure Za7 (B:Nat) (w:World) (F:List Nat):Prop where
 once:F.Nodup
 ge: ∀ k,k∈F->B<=k
 lt: ∀ k,k∈F->k < w.heap.size
theorem Za7.nil (B:Nat)(w:World):Za7 B w []:=⟨List.nodup_nil,fun _ h=>(by cases h),fun _ h=>(by cases h)⟩
theorem Za7.later (h:Za7 B w F)(hB:B'<=B)(hs:w.heap.size<=w'.heap.size):Za7 B' w' F:=⟨h.once,fun k hk=>Ydc hB (h.ge k hk),fun k hk=>Ydh (h.lt k hk) hs⟩
theorem Za7.append {G:List Nat}(h:Za7 B w F)(k:Za7 B' w' G)(hB:B<=B')(hs:w.heap.size<=B')(hw:w.heap.size<=w'.heap.size):Za7 B w' (F++G):=
 ⟨Yem.2 ⟨h.once,k.once,fun a ha b hb e=>by have:=h.lt a ha;have:=k.ge b hb;omega⟩,
  fun a ha=>(Ydk.1 ha).elim (h.ge a) fun q=>Ydc hB (k.ge a q),fun a ha=>(Ydk.1 ha).elim (fun q=>Ydh (h.lt a q) hw) (k.lt a)⟩
section
variable (ty:Tys)
def Za3:Nat->Zgj T
 | 0=>fun _ _ _ _=>False
 | d+1=>fun w vs x F=> ∃ lv,vs=[.int .i64 x.k,.int .i64 x.i,.string x.t,lv]/\Zlg x.k/\Zlg x.i/\x.t.size < 1000000000/\Zag ty.term 4 (Za3 d) w lv x.l F
def Zkf (d:Nat):World->Value->List T->List Nat->Prop:=Zag ty.term 4 (Za3 ty d)
def Zbk (d:Nat):Zgj A:=fun w vs x F=> ∃ tv,vs=[.string x.name,tv]/\x.name.size < 1000000000/\Zkf ty d w tv x.terms F
def Zeu (d:Nat):World->Value->List A->List Nat->Prop:=Zag ty.atom 2 (Zbk ty d)
def Zbr (d:Nat):Zgj G:=fun w vs x F=> ∃ va vb Fa Fb,vs= .int .i64 x.op::(va++vb)/\Zlg x.op/\Za3 ty d w va x.a Fa/\Za3 ty d w vb x.b Fb/\F=Fa++Fb
def Zfw (d:Nat):World->Value->List G->List Nat->Prop:=Zag ty.guard 9 (Zbr ty d)
def Zbs (d:Nat):Zgj R:=fun w vs x F=> ∃ hv bv gv Fh Fb Fg,vs=hv++[bv,gv]/\Zbk ty d w hv x.head Fh/\Zeu ty d w bv x.body Fb/\Zfw ty d w gv x.guards Fg/\F=Fh++(Fb++Fg)
def Zhy (d:Nat):World->Value->List R->List Nat->Prop:=Zag ty.rule 4 (Zbs ty d)
def Zbw (d:Nat):Zgj (List R):=fun w vs x F=> ∃ v,vs=[v]/\Zhy ty d w v x F
def Zia (d:Nat):World->Value->List (List R)->List Nat->Prop:=Zag ty.check 1 (Zbw ty d)
def Zhi (d:Nat):Zgj Pol:=fun w vs x F=> ∃ v,vs=[.bool x.allow,v]/\Zhy ty d w v x.either F
def Zbj (d:Nat):Zgj Bk:=fun w vs x F=> ∃ fv rv cv F1 F2 F3,vs=[fv,rv,cv]/\Zeu ty d w fv x.facts F1/\Zhy ty d w rv x.rules F2/\Zia ty d w cv x.checks F3/\F=F1++(F2++F3)
end
section
variable {ty:Tys} {d d':Nat} {w w':World} {vs:List Value} {F:List Nat}
theorem Za3.stable: ∀ d,Zc3 (Za3 ty d):=by
 intro d;induction d with
 | zero=>intro w w' vs x F h;exact h.elim
 | succ d ih=>
  intro w w' vs x F h hb;obtain⟨lv,h1,h2,h3,h4,h5⟩:=h;exact⟨lv,h1,h2,h3,h4,Zag.stable ih _ _ _ _ _ h5 hb⟩
theorem Zkf.stable {xs:List T}(h:Zkf ty d w v xs F)(hb: ∀ k,k∈F->w'.heap[k]?=w.heap[k]?):Zkf ty d w' v xs F:=Zag.stable (Za3.stable d) _ _ _ _ _ h hb
theorem Zbk.stable (d:Nat):Zc3 (Zbk ty d):=by
 intro w w' vs x F h hb;obtain⟨tv,h1,h2,h3⟩:=h;exact⟨tv,h1,h2,h3.stable hb⟩
theorem Zeu.stable {xs:List A}(h:Zeu ty d w v xs F)(hb: ∀ k,k∈F->w'.heap[k]?=w.heap[k]?):Zeu ty d w' v xs F:=Zag.stable (Zbk.stable d) _ _ _ _ _ h hb
theorem Zbr.stable (d:Nat):Zc3 (Zbr ty d):=by
 intro w w' vs x F h hb;obtain⟨va,vb,Fa,Fb,h1,h2,h3,h4,rfl⟩:=h;exact⟨va,vb,Fa,Fb,h1,h2,Za3.stable d _ _ _ _ _ h3 fun k hk=>hb k (Yei _ hk),Za3.stable d _ _ _ _ _ h4 fun k hk=>hb k (Yed _ hk),rfl⟩
theorem Zfw.stable {xs:List G}(h:Zfw ty d w v xs F)(hb: ∀ k,k∈F->w'.heap[k]?=w.heap[k]?):Zfw ty d w' v xs F:=Zag.stable (Zbr.stable d) _ _ _ _ _ h hb
theorem Zbs.stable (d:Nat):Zc3 (Zbs ty d):=by
 intro w w' vs x F h hb;obtain⟨hv,bv,gv,Fh,Fb,Fg,h1,h2,h3,h4,rfl⟩:=h;exact⟨hv,bv,gv,Fh,Fb,Fg,h1,Zbk.stable d _ _ _ _ _ h2 fun k hk=>hb k (by simp[hk]),h3.stable fun k hk=>hb k (by simp[hk]),h4.stable fun k hk=>hb k (by simp[hk]),rfl⟩
theorem Zhy.stable {xs:List R}(h:Zhy ty d w v xs F)(hb: ∀ k,k∈F->w'.heap[k]?=w.heap[k]?):Zhy ty d w' v xs F:=Zag.stable (Zbs.stable d) _ _ _ _ _ h hb
theorem Zbw.stable (d:Nat):Zc3 (Zbw ty d):=by
 intro w w' vs x F h hb;obtain⟨v,h1,h2⟩:=h;exact⟨v,h1,h2.stable hb⟩
theorem Zia.stable {xs:List (List R)}(h:Zia ty d w v xs F)(hb: ∀ k,k∈F->w'.heap[k]?=w.heap[k]?):Zia ty d w' v xs F:=Zag.stable (Zbw.stable d) _ _ _ _ _ h hb
theorem Zhi.stable (d:Nat):Zc3 (Zhi ty d):=by
 intro w w' vs x F h hb;obtain⟨v,h1,h2⟩:=h;exact⟨v,h1,h2.stable hb⟩
theorem Zbj.stable (d:Nat):Zc3 (Zbj ty d):=by
 intro w w' vs x F h hb;obtain⟨fv,rv,cv,F1,F2,F3,h1,h2,h3,h4,rfl⟩:=h;exact⟨fv,rv,cv,F1,F2,F3,h1,h2.stable fun k hk=>hb k (by simp[hk]),h3.stable fun k hk=>hb k (by simp[hk]),h4.stable fun k hk=>hb k (by simp[hk]),rfl⟩
theorem Za3.len (h:Za3 ty d w vs x F):vs.length=4:=by
 cases d with
 | zero=>exact h.elim
 | succ d=>obtain⟨lv,rfl,_⟩:=h;rfl
theorem Za3.one (h:Za3 ty d w vs x F): ∀ u,u∈vs->u.oneCell'=true:=by
 cases d with
 | zero=>exact h.elim
 | succ d=>
  obtain⟨lv,rfl,_,_,_,h5⟩:=h
  have:=h5.one
  intro u hu;simp only[Ydj,Yeu,or_false]at hu;rcases hu with rfl | rfl | rfl | rfl <;> first | rfl | exact this
theorem Zbk.one {x:A}(h:Zbk ty d w vs x F): ∀ u,u∈vs->u.oneCell'=true:=by
 obtain⟨tv,rfl,_,h3⟩:=h
 have:=Zag.one h3
 intro u hu;simp only[Ydj,Yeu,or_false]at hu;rcases hu with rfl | rfl <;> first | rfl | exact this
theorem Zbr.one {x:G}(h:Zbr ty d w vs x F): ∀ u,u∈vs->u.oneCell'=true:=by
 obtain⟨va,vb,Fa,Fb,rfl,_,h3,h4,_⟩:=h;intro u hu;simp only[Ydj,Ydk]at hu;rcases hu with rfl | hu | hu
 ·rfl
 ·exact h3.one u hu
 ·exact h4.one u hu
theorem Zbs.one {x:R}(h:Zbs ty d w vs x F): ∀ u,u∈vs->u.oneCell'=true:=by
 obtain⟨hv,bv,gv,Fh,Fb,Fg,rfl,h2,h3,h4,_⟩:=h;have a3:=Zag.one h3;have a4:=Zag.one h4;intro u hu;simp only[Ydk,Ydj,Yeu,or_false]at hu;rcases hu with hu | rfl | rfl
 ·exact h2.one u hu
 ·exact a3
 ·exact a4
theorem Zbw.one {x:List R}(h:Zbw ty d w vs x F): ∀ u,u∈vs->u.oneCell'=true:=by
 obtain⟨v,rfl,h2⟩:=h
 have:=Zag.one h2
 intro u hu;simp only[Ydj,Yeu,or_false]at hu;rw[hu];exact this
theorem Zhi.one {x:Pol}(h:Zhi ty d w vs x F): ∀ u,u∈vs->u.oneCell'=true:=by
 obtain⟨v,rfl,h2⟩:=h
 have:=Zag.one h2
 intro u hu;simp only[Ydj,Yeu,or_false]at hu;rcases hu with rfl | rfl
 ·rfl
 ·exact this
end
end Go.W
namespace Go.W
variable {B d b o s:Nat}{v:Value}{F:List Nat}{vs:List Value}{x:A}{e:TypeId}{w:World}
theorem Z9b {α:Type}(s:Nat): ∀ (zs:List (List Value×α×List Nat)) (_: ∀ z,z∈zs->z.1.length=s) (i:Nat) (z:List Value×α×List Nat) (_:zs[i]?=some z) (j:Nat) (_:j < s),((zs.map (·.1)).flatten)[i*s+j]?=z.1[j]?:=by
 intro zs;induction zs with
 | nil=>intro _ i z hz;simp at hz
 | cons y r ih=>
  intro hl i z hz j hj;have hy:=hl y (List.mem_cons_self ..);simp only[List.map_cons,List.flatten_cons];cases i with
  | zero=>
   simp at hz;subst hz;rw[Yex,Yd7,Yd4 (by omega)]
  | succ i=>
   rw[Yd1 (by rw[Nat.succ_mul];omega),hy,show(i+1)*s+j - s=i*s+j from by rw[Nat.succ_mul];omega];exact ih (fun z hz=>hl z (List.mem_cons_of_mem _ hz)) i z (by simpa using hz) j hj
section
variable {α:Type} {e:TypeId} {s:Nat} {Q:Zgj α} {w w':World} {v:Value} {xs:List α} {F:List Nat}
theorem Zag.rowOf {Q':Nat->Nat->α->Prop}(h:Zag e s Q w v xs F)(hF: ∀ k,k∈F->k < B)
  (f: ∀ b o vs x G,(∀ j,j < s->w.cell? ⟨b,o+j,none⟩=vs[j]?)->b < B->(∀ k,k∈G->k < B)->Q w vs x G->Q' b o x):Zlk s Q' v xs:=by
 obtain⟨zs,ho,hz,rfl,rfl,hl⟩:=h;rcases ho.2 with⟨rfl,h0⟩ | ⟨g,cap,cur,rfl,_,hg,hle,_⟩
 ·have:zs=[]:=List.length_eq_zero_iff.1 h0
  subst this;exact⟨none,0,rfl,Yec _,by simp,fun i x hx=>by simp at hx⟩
 ·refine⟨some ⟨g,0,none⟩,cap,by simp,by simpa using hle,by simpa using hl,fun i x hx=>?_⟩;rw[Yd5]at hx;obtain⟨z,hzi,rfl⟩:=Yd0.1 hx;have hm:=Yeq hzi;have hi:=(Ydl.1 hzi).1;refine⟨g,0,rfl,f g (0+i*s) z.1 z.2.1 z.2.2 (fun j hj=>?_) (hF g (by simp[Value.ownBlock])) (fun k hk=>hF k (Yed _ (List.mem_flatten.2 ⟨z.2.2,List.mem_map.2 ⟨z,hm,rfl⟩,hk⟩))) (hz z hm).2⟩;have hb:i*s+j < zs.length*s:=by
   have:(i+1)*s<=zs.length*s:=Nat.mul_le_mul_right s (by omega)
   rw[Nat.succ_mul]at this;omega
  rw[Yd7,ho.cellAt (i*s+j) hb];exact Z9b s zs (fun z hz'=>(hz z hz').1) i z hzi j hj
end
section
variable {ty:Tys} {w:World} {B:Nat}
theorem Za3.at_: ∀ {d:Nat} {vs x F b o},Za3 ty d w vs x F->(∀ k,k∈F->k < B)->b < B->(∀ j,j < 4->w.cell? ⟨b,o+j,none⟩=vs[j]?)->Zbl B w d b o x:=by
 intro d;induction d with
 | zero=>intro vs x F b o h;exact h.elim
 | succ d ih=>
  intro vs x F b o h hF hb hc;obtain⟨lv,rfl,h2,h3,h4,h5⟩:=h;exact⟨hb,lv,hc 0 (by omega),hc 1 (by omega),hc 2 (by omega),hc 3 (by omega),rfl,rfl,rfl,h2,h3,h4,h5.rowOf hF fun _ _ _ _ _ hcc hbb hG q=>ih q hG hbb hcc⟩
theorem Zkf.rep {xs:List T}(h:Zkf ty d w v xs F)(hF: ∀ k,k∈F->k < B):Z18 B w d v xs:=
 Zag.rowOf h hF fun _ _ _ _ _ hcc hbb hG q=>Za3.at_ q hG hbb hcc
theorem Zbk.at_ (h:Zbk ty d w vs x F)(hF: ∀ k,k∈F->k < B)(hb:b < B)(hc: ∀ j,j < 2->w.cell? ⟨b,o+j,none⟩=vs[j]?):Zbb B w d b o x:=by
 obtain⟨tv,rfl,h2,h3⟩:=h;exact⟨hb,hc 0 (by omega),h2,tv,hc 1 (by omega),h3.rep hF⟩
theorem Zeu.rep {xs:List A}(h:Zeu ty d w v xs F)(hF: ∀ k,k∈F->k < B):Zzk B w d v xs:=
 Zag.rowOf h hF fun _ _ _ _ _ hcc hbb hG q=>Zbk.at_ q hG hbb hcc
theorem Zbr.at_ {x:G}(h:Zbr ty d w vs x F)(hF: ∀ k,k∈F->k < B)(hb:b < B)(hc: ∀ j,j < 9->w.cell? ⟨b,o+j,none⟩=vs[j]?):Zct B w d b o x:=by
 obtain⟨va,vb,Fa,Fb,rfl,h2,h3,h4,rfl⟩:=h;have la:=h3.len;have lb:=h4.len;refine⟨hb,hc 0 (by omega),h2,h3.at_ (fun k hk=>hF k (by simp[hk])) hb fun j hj=>?_,h4.at_ (fun k hk=>hF k (by simp[hk])) hb fun j hj=>?_⟩
 ·rw[show o+1+j=o+(1+j)from by omega,hc (1+j) (by omega),show 1+j=j+1 from by omega,List.getElem?_cons_succ,Yd4 (by omega)]
 ·rw[show o+5+j=o+(5+j)from by omega,hc (5+j) (by omega),show 5+j=4+j+1 from by omega,List.getElem?_cons_succ,Yd1 (by omega),la,show 4+j - 4=j from by omega]
theorem Zfw.rep {xs:List G}(h:Zfw ty d w v xs F)(hF: ∀ k,k∈F->k < B):Zs3 B w d v xs:=
 Zag.rowOf h hF fun _ _ _ _ _ hcc hbb hG q=>Zbr.at_ q hG hbb hcc
theorem Zbk.len (h:Zbk ty d w vs x F):vs.length=2:=by
 obtain⟨tv,rfl,_⟩:=h;rfl
theorem Zbs.at_ {x:R}(h:Zbs ty d w vs x F)(hF: ∀ k,k∈F->k < B)(hb:b < B)(hc: ∀ j,j < 4->w.cell? ⟨b,o+j,none⟩=vs[j]?):Zb5 B w d b o x:=by
 obtain⟨hv,bv,gv,Fh,Fb,Fg,rfl,h2,h3,h4,rfl⟩:=h;have lh:=h2.len;refine⟨hb,h2.at_ (fun k hk=>hF k (by simp[hk])) hb fun j hj=>?_,⟨bv,?_,h3.rep fun k hk=>hF k (by simp[hk])⟩,gv,?_,h4.rep fun k hk=>hF k (by simp[hk])⟩
 ·rw[hc j (by omega),Yd4 (by omega)]
 ·rw[hc 2 (by omega),Yd1 (by omega),lh];rfl
 ·rw[hc 3 (by omega),Yd1 (by omega),lh];rfl
theorem Zhy.rep {xs:List R}(h:Zhy ty d w v xs F)(hF: ∀ k,k∈F->k < B):Zvo B w d v xs:=
 Zag.rowOf h hF fun _ _ _ _ _ hcc hbb hG q=>Zbs.at_ q hG hbb hcc
theorem Zbw.at_ {x:List R}(h:Zbw ty d w vs x F)(hF: ∀ k,k∈F->k < B)(hb:b < B)(hc: ∀ j,j < 1->w.cell? ⟨b,o+j,none⟩=vs[j]?):Zhj B w d b o x:=by
 obtain⟨v,rfl,h2⟩:=h;exact⟨hb,v,hc 0 (by omega),h2.rep hF⟩
theorem Zia.rep {xs:List (List R)}(h:Zia ty d w v xs F)(hF: ∀ k,k∈F->k < B):Zs2 B w d v xs:=
 Zag.rowOf h hF fun _ _ _ _ _ hcc hbb hG q=>Zbw.at_ q hG hbb hcc
theorem Zhi.at_ {x:Pol}(h:Zhi ty d w vs x F)(hF: ∀ k,k∈F->k < B)(hb:b < B)(hc: ∀ j,j < 2->w.cell? ⟨b,o+j,none⟩=vs[j]?):Zjt B w d b o x:=by
 obtain⟨v,rfl,h2⟩:=h;exact⟨hb,hc 0 (by omega),v,hc 1 (by omega),h2.rep hF⟩
theorem Zbj.at_ {x:Bk}(h:Zbj ty d w vs x F)(hF: ∀ k,k∈F->k < B)(hb:b < B)(hc: ∀ j,j < 3->w.cell? ⟨b,o+j,none⟩=vs[j]?):Zbx B w d b o x:=by
 obtain⟨fv,rv,cv,F1,F2,F3,rfl,h2,h3,h4,rfl⟩:=h;exact⟨hb,⟨fv,hc 0 (by omega),h2.rep fun k hk=>hF k (by simp[hk])⟩,⟨rv,hc 1 (by omega),h3.rep fun k hk=>hF k (by simp[hk])⟩,cv,hc 2 (by omega),h4.rep fun k hk=>hF k (by simp[hk])⟩
end
structure Zs0 {α:Type} (e:TypeId) (s:Nat) (Q:Zgj α) (B:Nat) (w w1:World) (xs:List α) (F G:List Nat) (y:α) (g cap:Nat) (F':List Nat):Prop where
 row:Zag e s Q w1 (.slice (some ⟨g,0,none⟩) (xs.length+1) cap) (xs++[y]) F'
 new:Za7 B w1 F'
 sub: ∀ k,k∈F'->k∈F\/k∈G\/w.heap.size<=k
 os:w1.os=w.os
 tape:w1.tape=w.tape
 output:w1.output=w.output
 size:w.heap.size<=w1.heap.size
 same: ∀ k,k < w.heap.size->k∉F->w1.heap[k]?=w.heap[k]?
theorem Z2e {α:Type}{Q:Zgj α}{w1:World}{zs:List (List Value×α×List Nat)}{g cap:Nat}{cs:Array Value}{y:α}{G:List Nat}(hQ:Zc3 Q)
  (hz: ∀ z,z∈zs->z.1.length=s/\Q w z.1 z.2.1 z.2.2) (hcs:cs.size=s) (hq:Q w cs.toList y G) (hl:zs.length+1 < 1000000000)
  (nF:Za7 B w (v.ownBlock.toList++(zs.map (·.2.2)).flatten)) (nG:Za7 B w G) (hd: ∀ k,k∈v.ownBlock.toList++(zs.map (·.2.2)).flatten->k∉G) (hB:B<=w.heap.size)
  (ha:Zrk w w1 0 e s v g cap (zs.length+1) ((zs.map (·.1)).flatten++cs.toList)):
  Zs0 e s Q B w w1 (zs.map (·.2.1)) (v.ownBlock.toList++(zs.map (·.2.2)).flatten) G y g cap (g::((zs.map (·.2.2)).flatten++G)):=by
 have hsame: ∀ k,k < w.heap.size->some k≠v.ownBlock->w1.heap[k]?=w.heap[k]?:=fun k hk hn=>ha.grown.block k hk hn;have nd:=Yem.1 nF.once;have inF: ∀ k,k∈(zs.map (·.2.2)).flatten->k < w.heap.size/\some k≠v.ownBlock/\k≠g:=by
  intro k hk;have h1:=nF.lt k (Yed _ hk);have h2:some k≠v.ownBlock:=fun q=>nd.2.2 k (by simp[<- q]) k hk rfl;refine⟨h1,h2,?_⟩;rcases ha.spot with hs | hs
  ·rintro rfl;exact h2 hs.symm
  ·omega
 have inG: ∀ k,k∈G->k < w.heap.size/\some k≠v.ownBlock/\k≠g:=by
  intro k hk;have h1:=nG.lt k hk;have h2:some k≠v.ownBlock:=fun q=>hd k (Yei _ (by simp[<- q])) hk;refine⟨h1,h2,?_⟩;rcases ha.spot with hs | hs
  ·rintro rfl;exact h2 hs.symm
  ·omega
 refine⟨⟨zs++[(cs.toList,y,G)],?_,?_,by simp,by simp[Value.ownBlock],by simpa using hl⟩,⟨?_,?_,?_⟩,?_,ha.grown.os,ha.grown.tape,ha.grown.output,ha.grown.size,?_⟩
 ·have:=ha.own
  simpa using this
 ·intro z hm;rcases Ydk.1 hm with hm | hm
  ·refine⟨(hz z hm).1,hQ _ _ _ _ _ (hz z hm).2 fun k hk=>?_⟩
   have:=inF k (List.mem_flatten.2 ⟨z.2.2,List.mem_map.2 ⟨z,hm,rfl⟩,hk⟩)
   exact hsame k this.1 this.2.1
  ·rw[Yeb.1 hm];exact⟨by simpa using hcs,hQ _ _ _ _ _ hq fun k hk=>hsame k (inG k hk).1 (inG k hk).2.1⟩
 ·refine List.nodup_cons.2 ⟨fun hm=>?_,Yem.2 ⟨nd.2.1,nG.once,fun a ha' b hb q=>hd a (Yed _ ha') (q▸hb)⟩⟩;rcases Ydk.1 hm with hm | hm
  ·exact(inF g hm).2.2 rfl
  ·exact(inG g hm).2.2 rfl
 ·intro k hk;rcases Ydj.1 hk with rfl | hk
  ·rcases ha.spot with hs | hs
   ·exact nF.ge k (Yei _ (by simp[hs]))
   ·omega
  ·rcases Ydk.1 hk with hk | hk
   ·exact nF.ge k (Yed _ hk)
   ·exact nG.ge k hk
 ·intro k hk
  have:=ha.grown.size
  rcases Ydj.1 hk with rfl | hk
  ·exact ha.lt
  ·rcases Ydk.1 hk with hk | hk
   ·exact Ydh (inF k hk).1 this
   ·exact Ydh (inG k hk).1 this
 ·intro k hk;rcases Ydj.1 hk with rfl | hk
  ·rcases ha.spot with hs | hs
   ·exact Or.inl (Yei _ (by simp[hs]))
   ·exact Or.inr (Or.inr (by omega))
  ·rcases Ydk.1 hk with hk | hk
   ·exact Or.inl (Yed _ hk)
   ·exact Or.inr (Or.inl hk)
 ·intro k hk hn;exact hsame k hk fun q=>hn (Yei _ (by simp[<- q]))
theorem Za9 {α:Type}{P:Program}{t:TypeId}{bytes:Nat}(E:Zdw P t e s bytes){ops:Array Oper}{rest:List Oper}{o:Oper}{a:Act}{K:Exit->Act->World->Prop}(hgd:o.guard=none)(sl x:Operand)
  (ho:o.op= .call {callee:= .builtin .append,args:=#[sl,x],argTypes:=#[t,t]}) {Q:Zgj α} (hQ:Zc3 Q) (hone: ∀ w vs x F,Q w vs x F-> ∀ u,u∈vs->u.oneCell'=true) (B:Nat) (v:Value) (xs:List α) (F:List Nat) (hs:a.eval sl=v) (hrow:Zag e s Q w v xs F)
  (b:Nat) (cs:Array Value) (et:TypeId) (fr:Nat×Nat) (y:α) (G:List Nat) (hx:a.eval x= .slice (some ⟨b,0,none⟩) 1 1) (hblk:w.heap[b]?=some (.cells cs et fr)) (hcs:cs.size=s) (hq:Q w cs.toList y G)
  (hn:xs.length < 100000000) (hB:B<=w.heap.size) (nF:Za7 B w F) (nG:Za7 B w G) (hd: ∀ k,k∈F->k∉G)
  (h: ∀ g cap w1 F',Zs0 e s Q B w w1 xs F G y g cap F'->wpList P ops K rest (a.put o.dst (.slice (some ⟨g,0,none⟩) (xs.length+1) cap)) w1):wpList P ops K (o::rest) a w:=by
 obtain⟨zs,hown,hz,rfl,rfl,hl⟩:=hrow;refine Zxo E hgd sl x ho 0 v zs.length _ hs hown b cs et fr hx hblk hcs (hone w _ _ _ hq) (by simpa using hl) (Yej _) fun g cap w1 ha=>?_
 have:=Z2e (cs:=cs) (y:=y) (G:=G) hQ hz hcs hq (by simp at hn;omega) nF nG hd hB ha
 have h2:=h g cap w1 _ this;simpa using h2
end Go.W
namespace Go.W
theorem Zb7 {a b:Bool}(h:a=b):Ending.returned (.bool a)= .returned (.bool b):=by rw[h]
theorem Z4l {k:IntKind}{a b:Int}(h:a=b):Ending.returned (.int k a)= .returned (.int k b):=by rw[h]
theorem Zhm (t:ByteArray)(q:Nat)(h:q < t.size):(t[q]).toNat=(Zac t).getD q 0:=by
 simp only[Zac,List.getD_eq_getElem?_getD,Yd5,Yee];rw[Array.getElem?_eq_getElem h];rfl
theorem Zd7 (t:ByteArray):t.toList.length=t.size:=by rw[Yd3];rfl
theorem Zhg {a b:ByteArray}(h:a.toList=b.toList):a=b:=by
 rw[Yd3,Yd3]at h;cases a;cases b;simp at h;simp[h]
theorem Zjb (a b:ByteArray):(a.toList==b.toList)=decide (a=b):=by
 by_cases h:a=b
 ·subst h;simp
 ·rw[Yfg h,Ye4];exact fun q=>h (Zhg q)
theorem Zec (t:ByteArray):(t.toList==[])=decide (t.size=0):=by
 rw[Yd3];have h:t.size=t.data.toList.length:=rfl;rw[h];cases t.data.toList <;> simp
theorem Z3k (a b:Int):(a==b)=decide (a=b):=by
 rw[Bool.eq_iff_iff,Yfb,decide_eq_true_iff]
theorem Z6r (n:Nat):((n:Int)=0)=(n=0):=by simp
theorem Zi6 (w:World)(t:ByteArray)(q:Nat):Below w.heap.size w (w.iter t q):=(Ydb _ _).alloc lr _
theorem Zb6 {B n:Nat}{a w:World}(h:Below B a w):Below B a (w.drewN n):=⟨h.os,h.tape,h.output,h.size,h.block⟩
theorem Ze8 {α:Type}(f:α->Int){l:List α}{q:Nat}(h:q < l.length):Za2 f (l.drop q)=if f l[q]≠0 then f l[q]else Za2 f (l.drop (q+1)):=by
 rw[List.drop_eq_getElem_cons h,Za2]
theorem Zam {P:Program}{f:FuncId}{fn:Func}{c:Code}(hf:P.funcs[f]?=some fn)(hn:(fn.name== "runtime.NumGoroutine")=false)(hb:fn.body=some c)(args:Array Value)(w:World):(callFunc f args).run P w= .ok (.enter f args) w:=by
 have h1:fn.name≠ "runtime.NumGoroutine" :=by simpa using hn
 simp[callFunc,hf,h1,hb]
end Go.W
namespace Go.W
variable {w:World}
structure Off (F:List Nat) (w w':World):Prop where
 os:w'.os=w.os
 tape:w'.tape=w.tape
 output:w'.output=w.output
 size:w.heap.size<=w'.heap.size
 block: ∀ k,k < w.heap.size->k∉F->w'.heap[k]?=w.heap[k]?
section
variable {F G:List Nat} {u v w:World}
theorem Off.refl (F:List Nat)(w:World):Off F w w:=⟨rfl,rfl,rfl,Yec _,fun _ _ _=>rfl⟩
theorem Off.trans (h:Off F u v)(k:Off G v w)(hG: ∀ i,i∈G->i∈F\/u.heap.size<=i):Off F u w:=
 ⟨k.os.trans h.os,k.tape.trans h.tape,k.output.trans h.output,Ydc h.size k.size,fun i hi hn=>(k.block i (Ydh hi h.size) fun q=>(hG i q).elim hn (by omega)).trans (h.block i hi hn)⟩
theorem Off.of (h:Below u.heap.size u v):Off F u v:=⟨h.os,h.tape,h.output,h.size,fun i hi _=>h.block i hi⟩
theorem Off.mono (h:Off F u v)(hF: ∀ i,i∈F->i∈G):Off G u v:=⟨h.os,h.tape,h.output,h.size,fun i hi hn=>h.block i hi fun q=>hn (hF i q)⟩
theorem Off.below (h:Off F u v){B:Nat}(hF: ∀ i,i∈F->B<=i)(hB:B<=u.heap.size):Below B u v:=⟨h.os,h.tape,h.output,h.size,fun i hi=>h.block i (by omega) fun q=>by have:=hF i q;omega⟩
theorem Off.alloc (h:Off F u v)(o:Obj):Off F u (v.alloc o):=h.trans (Off.of (F:=[]) ((Ydb _ v).alloc lr o)) fun _ q=>(by cases q)
theorem Off.drew (h:Off F u v):Off F u v.drew:=⟨h.os,h.tape,h.output,h.size,h.block⟩
theorem Off.set (h:Off F u v)(b o:Nat)(x:Value)(hb:b∈F\/u.heap.size<=b):Off F u (v.setCell ⟨b,o,none⟩ x):=
 ⟨h.os,h.tape,h.output,by simpa[World.setCell]using h.size,fun k hk hn=>(Ydg v ⟨b,o,none⟩ x k fun e=>by have e:k=b:=e;subst e;exact hb.elim hn (by omega)).trans (h.block k hk hn)⟩
theorem Off.put (h:Off F u v)(b:Nat)(x:Obj)(hb:b∈F\/u.heap.size<=b):Off F u {v with heap:=v.heap.setIfInBounds b x}:=
 ⟨h.os,h.tape,h.output,by simpa using h.size,fun k hk hn=>by
  have:k≠b:=fun e=>by subst e;exact hb.elim hn (by omega)
  show(v.heap.setIfInBounds b x)[k]?=_;rw[Array.getElem?_setIfInBounds_ne (Ne.symm this)];exact h.block k hk hn⟩
end
def Z7x (n:Nat) (P:Program) (K s:Nat) (xs:List Nat) (Z:World->Prop):Prop:=
 ∀ (l:Nat) (J Jx:List Nat->World->Prop) (W:World),(∀ pre W1,J pre W1->Z W1)->(∀ (pre:List Nat) (x:Nat) (rest:List Nat) (W1:World),xs=pre++x::rest->J pre W1->YieldAt Fence.wide (n - 1) P l #[.int .i64 (x:Int)] W1 fun e W'=>(e= .returned (.bool true)/\J (pre++[x]) W')\/(e= .returned (.bool false)/\Jx (pre++[x]) W'))->J [] W->
  CallsIn Fence.wide n P K #[.int .u64 (s:Int),.func (.yield l) #[] #[]] W fun e W'=>(∃ v,e= .returned v)/\(J xs W'\/ ∃ pre,Jx pre W')
def Zvm (B:Nat) (W W':World):Prop:=W'.heap[B]?=W.heap[B]?/\W'.heap[B+1]?=W.heap[B+1]?
def Z53 (B:Nat) (I Ix:List Nat->World->Prop) (xs:List Nat) (W:World):Exit->Act->World->Prop
 | .normal,_,W'=>Zvm B W W'/\I xs W'
 | .ret,_,W'=>Zvm B W W'/\Ix xs W'
 | _,_,_=>False
theorem Off.putObj {F:List Nat}{l:Nat}(o:Obj)(hl:l∈F):Off F w (w.putObj l o):=
 ⟨rfl,rfl,rfl,by simp[World.putObj],fun k _ hn=>World.putObj_heap_other (fun e=>hn (by rw[e];exact hl))⟩
theorem Zf5 {n:Nat}{P:Program}{g:Operand}{ps:Array Tmp}{assign body:Code}{Q:Exit->Act->World->Prop}{a:Act}{K s:Nat}{xs:List Nat}{Z:World->Prop}
  (hg:a.eval g= .func (.func K) #[.int .u64 (s:Int)] #[]) (eg: ∀ args w,(callFunc K args).run P w= .ok (.enter K args) w) (hseq:Z7x (n - 1) P K s xs Z) (hps:ps.size=1)
  (I Ix:List Nat->World->Prop) (hZ: ∀ pre W,I pre W->Z W) (hI: ∀ pre W W',I pre W->Off [w.heap.size,w.heap.size+1] W W'->I pre W') (hIx: ∀ pre W W',Ix pre W->Off [w.heap.size,w.heap.size+1] W W'->Ix pre W') (h0:I [] w) (a₁:Nat->Act)
  (hassign: ∀ (l x:Nat) (W:World) (K:Act->World->Prop),K (a₁ x) W->assign.wpIn (Fence.wide.inRound l) (n - 1 - 1) P (Exit.then K (fun _ _ _=>False)) {tmps:=(ps.zip #[.int .i64 (x:Int)]).foldl (fun t (p,v)=>t.setIfInBounds p v) a.tmps,defers:=[]} W)
  (hbody: ∀ (l:Nat) (pre:List Nat) (x:Nat) (rest:List Nat) (W:World),xs=pre++x::rest->I pre W->w.heap.size+2<=W.heap.size->body.wpIn (Fence.wide.inRound l) (n - 1 - 1) P (Z53 w.heap.size I Ix (pre++[x]) W) (a₁ x) W)
  (hdone: ∀ W,I xs W->W.heap[w.heap.size]?=some (.deferred (some []))->Q .normal {a with defers:={target:= .collected w.heap.size,args:=#[]}::a.defers} W)
  (hstop: ∀ pre W,Ix pre W->W.heap[w.heap.size]?=some (.deferred (some []))->Code.ret.wpIn Fence.wide n P Q {a with defers:={target:= .collected w.heap.size,args:=#[]}::a.defers} W):
  (Code.rangeFunc g ps assign body).wpIn Fence.wide n P Q a w:=by
 refine wpIn_rangeFunc fun fn hfn=>?_;obtain⟨rc,hrc⟩: ∃ rc:LoopState->Option Code->Loop,rc=fun st pe=>{state:=st,pending:=pe,fn,tmps:=a.tmps,params:=ps,assign,body,defers:=w.heap.size}:=⟨_,rfl⟩;obtain⟨W1,hW1⟩: ∃ W1,(w.alloc (.deferred (some []))).alloc (.loop (rc .ready none))=W1:=⟨_,rfl⟩;have hL:W1.heap[w.heap.size+1]?=some (.loop (rc .ready none)):=by
  rw[<- hW1];have:=World.alloc_heap_new (w.alloc (.deferred (some []))) (.loop (rc .ready none));rwa [Ydm]at this
 have hD:W1.heap[w.heap.size]?=some (.deferred (some [])):=by
  rw[<- hW1];exact(Ydf _ _ _ (by simp)).trans (World.alloc_heap_new w _)
 have hI1:I [] W1:=hI _ w _ h0 (by rw[<- hW1];exact((Off.refl _ w).alloc _).alloc _);have hin:w.heap.size+1∈[w.heap.size,w.heap.size+1]:=by simp
 refine⟨w.heap.size+1,[{target:= .collected w.heap.size,args:=#[]}],W1,{target:= .fn (.func K) #[],args:=#[.int .u64 (s:Int),.func (.yield (w.heap.size+1)) #[] #[]]},W1,K,#[.int .u64 (s:Int),.func (.yield (w.heap.size+1)) #[] #[]],W1,?_,?_,fun _ _=>trivial,?_,fun h=>(by cases h),?_⟩
 ·rw[<- hW1,hrc];exact run_enterLoop_outer _ _ _ _ _
 ·simp only[resolve,hg];simp[go_sem]
 ·simp[invoke,go_sem,eg]
 refine(hseq (w.heap.size+1) (fun pre W=>I pre W/\W.heap[w.heap.size+1]?=some (.loop (rc .ready none))/\W.heap[w.heap.size]?=some (.deferred (some []))) (fun pre W=>Ix pre W/\W.heap[w.heap.size+1]?=some (.loop (rc .done (some .ret)))/\W.heap[w.heap.size]?=some (.deferred (some []))) W1 (fun pre W1 h=>hZ pre W1 h.1) ?_ ⟨hI1,hL,hD⟩).mono ?_
 ·rintro pre x rest W hx ⟨hi,hl,hk⟩;have hlt:=(Ydo.1 hl).1;have hy:=run_yield (P:=P) (args:=#[.int .i64 (x:Int)]) hl (by rw[hrc];exact hps.symm);rw[hrc]at hy;refine⟨fn,_,assign,body,hy,roundIn_of_wpIn hfn (hassign _ x W _ ⟨_,run_beginRound hl (by rw[hrc]),?_⟩)⟩;obtain⟨W2,hW2⟩: ∃ W2,W.putObj (w.heap.size+1) (.loop {rc .ready none with state:= .busy})=W2:=⟨_,rfl⟩;have hl2:W2.heap[w.heap.size+1]?=some (.loop {rc .ready none with state:= .busy}):=by rw[<- hW2];exact World.putObj_heap_same hlt
  have hk2:W2.heap[w.heap.size]?=some (.deferred (some [])):=by rw[<- hW2];exact(World.putObj_heap_other (by omega)).trans hk
  have hi2:I pre W2:=hI _ _ _ hi (by rw[<- hW2];exact Off.putObj _ hin);rw[hW2];refine wpIn_mono (hbody _ pre x rest W2 hx hi2 (Ydo.1 hl2).1) ?_;rintro e a3 W3 hp;cases e with
  | normal=>
   obtain⟨⟨k1,k2⟩,hi3⟩:=hp;have hl3:=k2.trans hl2;have hr:=run_endRound (P:=P) none hl3;rw[hrc]at hr;refine⟨_,_,hr,.inl ⟨rfl,hI _ _ _ hi3 (Off.putObj _ hin),?_,(World.putObj_heap_other (by omega)).trans (k1.trans hk2)⟩⟩;rw[hrc];exact World.putObj_heap_same (Ydo.1 hl3).1
  | ret=>
   obtain⟨⟨k1,k2⟩,hi3⟩:=hp;have hl3:=k2.trans hl2;have hr:=run_endRound (P:=P) (some .ret) hl3;rw[hrc]at hr;refine⟨_,_,hr,.inr ⟨rfl,hIx _ _ _ hi3 (Off.putObj _ hin),?_,(World.putObj_heap_other (by omega)).trans (k1.trans hk2)⟩⟩;rw[hrc];exact World.putObj_heap_same (Ydo.1 hl3).1
  | exit id=>exact hp.elim
  | goto t=>exact hp.elim
  | panic ch=>exact hp.elim
  | outgrown=>exact hp.elim
 ·rintro e W2 ⟨⟨v,rfl⟩,⟨hi,hl,hk⟩ | ⟨pre,hi,hl,hk⟩⟩
  ·refine⟨none,_,by have:=run_endLoop (P:=P) hl (by rw[hrc];simp);rw[hrc]at this;exact this,hdone _ (hI _ _ _ hi (Off.putObj _ hin)) ((World.putObj_heap_other (by omega)).trans hk)⟩
  ·refine⟨some .ret,_,by have:=run_endLoop (P:=P) hl (by rw[hrc];simp);rw[hrc]at this;exact this,hstop pre _ (hIx _ _ _ hi (Off.putObj _ hin)) ((World.putObj_heap_other (by omega)).trans hk)⟩
end Go.W
namespace Go.W
def Yb5 (t:Nat):Nat:=if t % 2=1 then 0 else if t % 4=2 then 1 else 2
def Za5 (s:Nat):List Nat:=[0,1,2].filter fun i=>s.testBit i
end Go.W
namespace Go.P
open Go.RowKit Go.W Go.Shelf
attribute [local go_sem] Yea
def Z5j (w:World):Prop:=w.cell? ⟨20,0,none⟩=some (.int .u8 0)/\w.cell? ⟨20,1,none⟩=some (.int .u8 1)/\w.cell? ⟨20,3,none⟩=some (.int .u8 2)
theorem Zj8 (t k j m:Nat)(w:World)(ne:((t:Int)==0)=false)(e1:bits BinOp.and IntKind.u64 (t:Int) (IntKind.u64.wrap (-(t:Int)))=(k:Int))(e2:IntKind.u64.wrap ((k:Int)*285870213051353865) / 288230376151711744=(j:Int))(hj:j < 64)(hm:m < 8)(hc:w.cell? ⟨20,j,none⟩=some (.int .u8 (m:Int))):Calls prog 267 #[.int .u64 (t:Int)] w fun e w'=>e= .returned (.int .i64 (m:Int))/\w'=w:=by
 have hj':(j:Int) < 64:=by omega
 go_in
 go_wp2
 go_ret
 exact⟨rfl,rfl⟩
theorem Yb1 (t:Nat)(h0:0 < t)(h8:t < 8)(w:World)(hb:Z5j w):Calls prog 267 #[.int .u64 (t:Int)] w fun e w'=>e= .returned (.int .i64 (Yb5 t:Int))/\w'=w:=by
 obtain⟨b0,b1,b3⟩:=hb;have hc:t=1\/t=2\/t=3\/t=4\/t=5\/t=6\/t=7:=by omega
 rcases hc with rfl | rfl | rfl | rfl | rfl | rfl | rfl
 ·exact Zj8 1 1 0 0 w rfl (by kernel_rfl) (by kernel_rfl) (by decide) (by decide) b0
 ·exact Zj8 2 2 1 1 w rfl (by kernel_rfl) (by kernel_rfl) (by decide) (by decide) b1
 ·exact Zj8 3 1 0 0 w rfl (by kernel_rfl) (by kernel_rfl) (by decide) (by decide) b0
 ·exact Zj8 4 4 3 2 w rfl (by kernel_rfl) (by kernel_rfl) (by decide) (by decide) b3
 ·exact Zj8 5 1 0 0 w rfl (by kernel_rfl) (by kernel_rfl) (by decide) (by decide) b0
 ·exact Zj8 6 2 1 1 w rfl (by kernel_rfl) (by kernel_rfl) (by decide) (by decide) b1
 ·exact Zj8 7 1 0 0 w rfl (by kernel_rfl) (by kernel_rfl) (by decide) (by decide) b0
theorem Yc3 (t:Nat)(h8:t < 8)(h0:0 < t):bits BinOp.and IntKind.u64 (t:Int) ((t:Int) - 1)=((t &&& (t - 1):Nat):Int):=by
 have hc:t=1\/t=2\/t=3\/t=4\/t=5\/t=6\/t=7:=by omega
 rcases hc with rfl | rfl | rfl | rfl | rfl | rfl | rfl <;> rfl
theorem Zjz (n s:Nat)(h8:s < 8):Z7x n prog 247 s (Za5 s) Z5j:=fun l J Jx W hJ hY h0=>by
 have CT:=Zaa Yb1;refine callsIn_of_wp func247 rfl trivial ?_ rfl;simp only[ntmps247,Ydn,Ydp,Ydt,Nat.reduceAdd,Nat.reduceSub,Ydx,Ydw,Yd2,Ydz,Ydy,Ydv];have hlow: ∀ t,t < 8->0 < t->Za5 t=Yb5 t::Za5 (t &&& (t - 1))/\(t &&& (t - 1)) < t:=by decide
 gi_wp2
 gi_loopw [0] (fun sv wr=> ∃ (t:Nat) (pre:List Nat),t < 8/\sv= .int .u64 (t:Int)/\Za5 s=pre++Za5 t/\J pre wr) (fun sv _=>(intOf sv).toNat)
 case atStart=>exact⟨s,[],h8,rfl,rfl,h0⟩
 case round=>
  obtain⟨t,pre,h8t,rfl,hx,hJs⟩:=hrel;by_cases ht:t=0
  ·subst ht;gi_wp2
   go_end0
   refine⟨⟨_,rfl⟩,.inl ?_⟩;rw[hx,show Za5 0=[]from rfl,List.append_nil];exact hJs
  ·have hn0:((t:Int)==0)=false:=by rw[Ye4];omega
   obtain⟨e1,hlt⟩:=hlow t h8t (by omega);rw[e1]at hx;obtain⟨fn,tmps,assign,body,hy,hR⟩:=hY pre (Yb5 t) _ wr hx hJs;have C1:=Zaa (CT.out t (by omega) h8t wr (hJ _ _ hJs));obtain⟨u,hu⟩: ∃ u,t &&& (t - 1)=u:=⟨_,rfl⟩;have e2:bits BinOp.and IntKind.u64 (t:Int) ((t:Int) - 1)=(u:Int):=by rw[<- hu];exact Yc3 t h8t (by omega)
   rw[hu]at hlt hx;clear CT hlow;gi_wp2_with (refine⟨trivial,fun h=>(by cases h),?_⟩;refine(callsIn_wide.2 C1.out).mono ?_;rintro e w' ⟨rfl,rfl⟩)
   refine⟨fun h=>(by cases h),hR.mono ?_⟩;rintro e W3 (⟨rfl,hJ3⟩ | ⟨rfl,hJx3⟩)
   ·gi_wp2
    go_roundw
    case rel=>exact⟨u,pre++[Yb5 t],by omega,rfl,by rw[hx,Ydq];rfl,hJ3⟩
    case measure=>simp[intOf];omega
   ·gi_wp2
    refine Ye6 (results_none rfl _ _ _) rfl ?_;exact⟨⟨_,rfl⟩,.inr ⟨_,hJx3⟩⟩
end Go.P
namespace Go.W
variable {w:World}
def Zft (w:World) (m:Nat) (xs:List (ByteArray×Nat)):Prop:= ∃ es clock,w.heap[m]?=some (.map es clock)/\es.toList.map (fun e=>(e.key,e.val))=xs.map fun x=>(Value.string x.1,Value.int .i64 (x.2:Int))
def Zhk (w:World) (v:Value) (xs:List (ByteArray×Nat)):Prop:=(v= .map none/\xs=[])\/ ∃ m,v= .map (some m)/\Zft w m xs
theorem Zhk.of {w':World}{v:Value}{xs:List (ByteArray×Nat)}(h:Zhk w v xs)(hb: ∀ m,v= .map (some m)->w'.heap[m]?=w.heap[m]?):Zhk w' v xs:=by
 rcases h with h | ⟨m,rfl,es,c,h1,h2⟩
 ·exact .inl h
 ·exact .inr ⟨m,rfl,es,c,(hb m rfl).trans h1,h2⟩
def Zgl (s:ByteArray):List (ByteArray×Nat)->Nat->Option (Nat×Nat)
 | [],_=>none
 | b::bs,i=>if s=b.1 then some (i,b.2)else Zgl s bs (i+1)
theorem Zgd (s:ByteArray): ∀ (l:List MapEntry) (xs:List (ByteArray×Nat)) (i:Nat),l.map (fun e=>(e.key,e.val))=xs.map (fun x=>(Value.string x.1,Value.int .i64 (x.2:Int)))->Instr.findNow .string (.string s) l i=some ((Zgl s xs i).map fun k=>(k.1,Value.int .i64 (k.2:Int)))
 | [],xs,i,h=>by
  have:xs=[]:=by simpa using h.symm
  subst this;rfl
 | e::l,[],i,h=>by simp at h
 | e::l,b::xs,i,h=>by
  rw[List.map_cons,List.map_cons]at h;injection h with h1 h2;injection h1 with hk hv;have ih:=Zgd s l xs (i+1) h2;obtain⟨r,hr,hiff⟩:=Go.MapKept.sameNow_of_keys (d:= .string) (a:= .string s) (b:= .string b.1) trivial trivial;unfold Instr.findNow Zgl;rw[hk,hr];cases r with
  | true=>
   obtain rfl:s=b.1:=by injection hiff.1 rfl
   rw[if_pos rfl,hv];simp
  | false=>
   rw[if_neg (fun e=>by have:=hiff.2 (by rw[e]);cases this)];exact ih
def Zvg:Zgj ByteArray:=fun _ vs x F=>F=[]/\vs=[.string x]
theorem Zvg.stable:Zc3 Zvg:=fun _ _ _ _ _ h _=>h
theorem Zvg.one {vs:List Value}{x:ByteArray}{F:List Nat}(h:Zvg w vs x F): ∀ u,u∈vs->u.oneCell'=true:=by
 obtain⟨_,rfl⟩:=h;intro u hu;simp at hu;rw[hu];rfl
def Zbn (xs:List (ByteArray×Nat)) (s:ByteArray×Nat):Nat×Bool:=if s.1.size=0 then(s.2,true)else((((Zgl s.1 xs 0).map (·.2)).getD 0),(Zgl s.1 xs 0).isSome)
end Go.W
namespace Go.P
variable {w:World}{v:Value}{xs:List (ByteArray×Nat)}{r:Nat}
theorem Zwn (h:Zhk w v xs)(s:ByteArray):(Instr.lookup 314 v (.string s) true).run prog w= .ok (.tuple #[.int .i64 ((((Zgl s xs 0).map (·.2)).getD 0:Nat):Int),.bool (Zgl s xs 0).isSome]) w:=by
 have hz:(zeroValue 3).run prog w= .ok (.int .i64 0) w:=by kernel_rfl
 rcases h with⟨rfl,rfl⟩ | ⟨r,rfl,es,clock,hb,hm⟩
 ·have hck:=Go.MapKept.run_checkKey (P:=prog) (w:=w) underlying9 (k:= .string s) trivial true 9999;replace hck:(Instr.checkKey true 10000 9 (.string s)).run prog w= .ok () w:=hck
  have hfk:=Go.MapKept.run_findKey (P:=prog) (w:=w) (k:= .string s) (l:=[]) (a:=none) underlying9 rfl;simp[Instr.lookup,Yff underlying314,hfk,hz,hck,Zgl]
 have hf:=Zgd s es.toList xs 0 hm;have hck:=Go.MapKept.run_checkKey (P:=prog) (w:=w) underlying9 (k:= .string s) trivial es.isEmpty 9999;have hgo:=Yef (P:=prog) hb;have hfk:=Go.MapKept.run_findKey (P:=prog) (w:=w) underlying9 hf;have hck:(Instr.checkKey es.isEmpty 10000 9 (.string s)).run prog w= .ok () w:=hck;cases hp:Zgl s xs 0 with
 | none=>
  rw[hp]at hfk;simp only[Option.map_none]at hfk;simp[Instr.lookup,Yff underlying314,hgo,hfk,hz,hck]
 | some k=>
  rw[hp]at hfk;simp only[Option.map_some]at hfk;simp[Instr.lookup,Yff underlying314,hgo,hfk,hck]
theorem Zxj (h:Zft w r xs)(s:ByteArray)(v:Nat)(hp:Zgl s xs 0=none): ∃ o,(Instr.mapUpdate 314 (.map (some r)) (.string s) (.int .i64 (v:Int))).run prog w= .ok () {w with heap:=w.heap.setIfInBounds r o}/\Zft {w with heap:=w.heap.setIfInBounds r o} r (xs++[(s,v)]):=by
 obtain⟨es,clock,hb,hm⟩:=h;have hf:=Zgd s es.toList xs 0 hm;rw[hp]at hf;have hck:=Go.MapKept.run_checkKey (P:=prog) (w:=w) underlying9 (k:= .string s) trivial false 9999;replace hck:(Instr.checkKey false 10000 9 (.string s)).run prog w= .ok () w:=hck
 have hgo:=Yef (P:=prog) hb;have hfk:=Go.MapKept.run_findKey (P:=prog) (w:=w) underlying9 hf;simp only[Option.map_none]at hfk;have hso:=Go.MapKept.run_setObj_map (P:=prog) (.map (es.push {key:= .string s,val:= .int .i64 (v:Int),born:=clock}) (clock+1)) hb;refine⟨.map (es.push {key:= .string s,val:= .int .i64 (v:Int),born:=clock}) (clock+1),?_,es.push {key:= .string s,val:= .int .i64 (v:Int),born:=clock},clock+1,(Go.MapKept.heap_set hb).1,?_⟩
 ·simp[Instr.mapUpdate,Yff underlying314,hgo,hck,hfk,hso]
 ·simp[hm]
theorem Zv4 {s:ByteArray}{v:Nat}(h:Zft w r [(s,v)]): ∃ o,(∀ ty,(Builtin.delete_ #[314,9] ty #[.map (some r),.string s]).run prog w= .ok (.tuple #[]) {w with heap:=w.heap.setIfInBounds r o})/\Zft {w with heap:=w.heap.setIfInBounds r o} r []:=by
 obtain⟨es,clock,hb,hm⟩:=h;have hf:=Zgd s es.toList [(s,v)] 0 hm;have hl:Zgl s [(s,v)] 0=some (0,v):=by simp[Zgl]
 rw[hl]at hf;have hlen:es.toList.length=1:=by have:=congrArg List.length hm;simpa using this
 obtain⟨e,he⟩: ∃ e,es=#[e]:=by
  obtain⟨l⟩:=es;match l,hlen with
  | [e],_=>exact⟨e,rfl⟩
 subst he;have hck:=Go.MapKept.run_checkKey (P:=prog) (w:=w) underlying9 (k:= .string s) trivial false 9999;replace hck:(Instr.checkKey false 10000 9 (.string s)).run prog w= .ok () w:=hck
 have hgo:=Yef (P:=prog) hb;have hfk:=Go.MapKept.run_findKey (P:=prog) (w:=w) underlying9 hf;simp only[Option.map_some]at hfk;have hso:=Go.MapKept.run_setObj_map (P:=prog) (.map #[] clock) hb;refine⟨.map #[] clock,fun ty=>?_,#[],clock,(Go.MapKept.heap_set hb).1,rfl⟩;unfold Builtin.delete_;simp only[Ye2,Yd8,List.getElem?_cons_zero,List.getElem?_cons_succ,Yff underlying314,Yer,hgo,Array.isEmpty];rw[show decide (#[e].size=0)=false from rfl,hck];simp only[Yer];rw[hfk];simp[hso]
theorem Zvt {q o:Nat}(h:Zhk w v xs)(c0:w.cell? ⟨q,o,none⟩=some v)(hq:q < w.heap.size)(hv: ∀ m,v= .map (some m)->m < w.heap.size)(s:ByteArray×Nat)(hs:s.1.size < 1000000000):
  Calls prog 242 #[.pointer (some ⟨q,o,none⟩),.agg #[.string s.1,.int .i64 (s.2:Int)]] w fun e w'=>e= .returned (.tuple #[.int .i64 ((Zbn xs s).1:Int),.bool (Zbn xs s).2])/\Below w.heap.size w w':=by
 have hl:=fun o n=>Zwn (w:=(w.alloc o).drewN n) (h.of fun m hm=>Ydf _ _ _ (hv m hm)) s.1;obtain⟨x,n⟩:=s;dsimp only at hs hl⊢;have B0:=fun o=>(Ydb w.heap.size w).alloc lr o;by_cases h0:x.size=0
 ·have E:Box (Zbn xs (x,n)=(n,true)):=⟨if_pos h0⟩;rw[E.out];have g:(x.toList==[])=true:=by rw[Zec];simp[h0]
  clear hl;go_in
  go_wp2
  go_ret2
  exact⟨rfl,B0 _⟩
 ·have E:Box (Zbn xs (x,n)=((((Zgl x xs 0).map (·.2)).getD 0),(Zgl x xs 0).isSome)):=⟨if_neg h0⟩;rw[E.out];have g:(x.toList==[])=false:=by rw[Zec];simp[h0]
  generalize ((Zgl x xs 0).map (·.2)).getD 0=k at*;generalize (Zgl x xs 0).isSome=kn at*;have c0':=fun ob=>(Ydf w ob q hq);have c1: ∀ ob,(w.alloc ob).cell? ⟨q,o,none⟩=some v:=fun ob=>(Yde (a:=⟨q,o,none⟩) (c0' ob)).trans c0;clear c0' c0;go_in
  go_wp2
  go_quiet (fail)
  go_wp2
  go_ret2
  exact⟨rfl,Zb6 (B0 _)⟩
end Go.P
namespace Go.W
variable {w:World}{m:Nat}{xs:List (ByteArray×Nat)}
theorem Zft.lt (h:Zft w m xs):m < w.heap.size:=by
 obtain⟨es,c,h,_⟩:=h;exact(Ydo.1 h).1
theorem Zft.of {w':World}(h:Zft w m xs)(hb:w'.heap[m]?=w.heap[m]?):Zft w' m xs:=by
 obtain⟨es,c,h,h2⟩:=h;exact⟨es,c,hb.trans h,h2⟩
end Go.W
namespace Go.P
variable {w:World}{q o m:Nat}{cs:Array Value}{xs:List (ByteArray×Nat)}{ov:Value}{Fo:List Nat}{x:ByteArray}
structure Bd (w:World) (q:Nat) (T:TypeId) (o m:Nat) (cs:Array Value) (xs:List (ByteArray×Nat)) (ov:Value) (Fo:List Nat):Prop where
 blk:Blk w q (cs.setIfInBounds (o+1) ov) T
 c0:cs[o]?=some (.map (some m))
 sz:o+1 < cs.size
 row:Zag 9 1 Zvg w ov (xs.map (·.1)) Fo
 map:Zft w m xs
 ne:q≠m
 new:Za7 0 w Fo
 qF:q∉Fo
 mF:m∉Fo
section
variable {w w':World} {q o m:Nat} {T:TypeId} {cs:Array Value} {xs:List (ByteArray×Nat)} {ov:Value} {Fo G:List Nat}
theorem Bd.of (h:Bd w q T o m cs xs ov Fo)(hs:w.heap.size<=w'.heap.size)(hb: ∀ k,k∈q::m::Fo->w'.heap[k]?=w.heap[k]?):Bd w' q T o m cs xs ov Fo:=
 ⟨h.blk.of (hb _ (by simp)),h.c0,h.sz,Zag.stable Zvg.stable _ _ _ _ _ h.row fun j hj=>hb j (by simp[hj]),h.map.of (hb _ (by simp)),h.ne,h.new.later lr hs,h.qF,h.mF⟩
theorem Bd.lt (h:Bd w q T o m cs xs ov Fo): ∀ k,k∈q::m::Fo->k < w.heap.size:=by
 intro k hk;simp at hk;rcases hk with rfl | rfl | hk
 ·exact h.blk.lt
 ·exact h.map.lt
 ·exact h.new.lt k hk
theorem Bd.off (h:Bd w q T o m cs xs ov Fo)(k:Off G w w')(hd: ∀ j,j∈q::m::Fo->j∉G):Bd w' q T o m cs xs ov Fo:=
 h.of k.size fun j hj=>k.block j (h.lt j hj) (hd j hj)
theorem Bd.cells (h:Bd w q T o m cs xs ov Fo):w.cell? ⟨q,o,none⟩=some (.map (some m))/\w.cell? ⟨q,o+1,none⟩=some ov/\ ∀ j,w.frozen? ⟨q,j,none⟩=false:=by
 refine⟨?_,?_,h.blk.soft⟩
 ·rw[h.blk.cell];simp only[Ydd];rw[if_neg (by omega)];exact h.c0
 ·rw[h.blk.cell];simp[h.sz]
end
theorem Z86:Zdw prog 32 9 1 16:=by
 obtain⟨i0,hi,hz0,hz1,hz2⟩:=info_parts (by kernel_rfl:(prog.info? 9).map (fun i=>(i.zero,i.size,i.bytes))=some (some (.string ⟨#[]⟩),1,16));exact⟨i0,_,underlying32,hi,hz0,hz1,hz2,rfl,by decide,by decide⟩
theorem Zxz {T:TypeId}(h:Bd w q T o m cs xs ov Fo)(x:ByteArray)(k:Nat)(hx:Zgl x xs 0=none)(hl:xs.length < 1000):
  Calls prog 270 #[.pointer (some ⟨q,o,none⟩),.string x,.int .i64 (k:Int)] w fun e w'=>e= .returned (.tuple #[])/\ ∃ ov' Fo',Bd w' q T o m cs (xs++[(x,k)]) ov' Fo'/\Off (q::m::Fo) w w'/\ ∀ i,i∈Fo'->i∈Fo\/w.heap.size<=i:=by
 obtain⟨c0,c1,sf⟩:=h.cells;obtain⟨ob,hmu,hbm⟩:=Zxj h.map x k hx;obtain⟨W1,hW1⟩: ∃ W1,Box ({w with heap:=w.heap.setIfInBounds m ob}=W1):=⟨_,⟨rfl⟩⟩;rw[hW1.out]at hmu hbm;have O1:Box (Off [m] w W1):=⟨hW1.out▸(Off.refl _ w).put m ob (by simp)⟩;have H:=Zaa h;have b1:W1.heap[q]?=w.heap[q]?:=O1.out.block q h.blk.lt (by simpa using h.ne);have c0':W1.cell? ⟨q,o,none⟩=some (.map (some m)):=(Yde (a:=⟨q,o,none⟩) b1).trans c0;have c1':W1.cell? ⟨q,o+1,none⟩=some ov:=(Yde (a:=⟨q,o+1,none⟩) b1).trans c1;have sf': ∀ j,W1.frozen? ⟨q,j,none⟩=false:=fun j=>(Yez (a:=⟨q,j,none⟩) b1).trans (sf j);have R1:=Zaa (Zag.stable Zvg.stable _ W1 _ _ _ h.row fun j hj=>O1.out.block j (h.new.lt j hj) (fun e=>by simp at e;subst e;exact h.mF hj));have HBM:=Zaa hbm;have hs1:=O1.out.size;have N1:Box (Za7 0 W1 Fo):=⟨h.new.later lr O1.out.size⟩;have hql:q < W1.heap.size:=Ydh h.blk.lt hs1;have hln:(xs.map (·.1)).length < 100000000:=by simp;omega
 clear h hbm hx c1 sf;go_in
 go_wp2_with (at_builtin;go_must (refine Za9 Z86 rfl (.tmp 16) (.tmp 18) rfl Zvg.stable (fun _ _ _ _ h=>Zvg.one h) 0 ov (xs.map (·.1)) Fo rfl (Zag.stable Zvg.stable _ _ _ _ _ R1.out fun j hj=>Ydf _ _ _ (N1.out.lt j hj)) W1.heap.size #[.string x] 9 (0,0) x [] rfl (Zaw _ _) rfl ⟨rfl,rfl⟩ hln (Yej _) (N1.out.later lr (by simp)) (Za7.nil _ _) (fun _ _ h=>by cases h) ?_);intro g8 cap8 w8 F8 happ;have b8:=(happ.same q (by simp;omega) H.out.qF).trans (Ydf _ _ _ hql);have c8:=(Yde (a:=⟨q,o+1,none⟩) b8).trans c1';have s8:=fun j=>(Yez (a:=⟨q,j,none⟩) b8).trans (sf' j))
 go_end0
 have hml:=HBM.out.lt;have hz:W1.heap.size < w8.heap.size:=by have:=happ.size;simp at this;omega
 have nF: ∀ j,j < W1.heap.size->j∉Fo->j∉F8:=fun j hj hn hF=>by
  rcases happ.sub j hF with h | h | h
  ·exact hn h
  ·cases h
  ·simp at h;omega
 have hsm: ∀ j,j < W1.heap.size->j∉Fo->w8.heap[j]?=W1.heap[j]?:=fun j hj hn=>(happ.same j (by simp;omega) hn).trans (Ydf _ _ _ hj);have hqF:=nF q hql H.out.qF;refine⟨rfl,.slice (some ⟨g8,0,none⟩) (xs.length+1) cap8,F8,⟨?_,H.out.c0,H.out.sz,?_,?_,H.out.ne,⟨happ.new.once,fun _ _=>Yej _,fun j hj=>by have:=happ.new.lt j hj;simpa[World.setCell]using this⟩,hqF,nF m hml H.out.mF⟩,?_,?_⟩
 ·have:=(H.out.blk.of (b8.trans b1)).set (o+1) (.slice (some ⟨g8,0,none⟩) (xs.length+1) cap8)
  rwa [Yew]at this
 ·have:=Zag.stable Zvg.stable _ (w8.setCell ⟨q,o+1,none⟩ (.slice (some ⟨g8,0,none⟩) (xs.length+1) cap8)) _ _ _ happ.row fun j hj=>Ydg _ _ _ _ (fun e=>hqF (by rw[show q=j from e.symm];exact hj))
  simpa using this
 ·exact HBM.out.of ((Ydg _ _ _ _ (fun e=>H.out.ne e.symm)).trans (hsm m hml H.out.mF))
 ·refine Off.set ⟨happ.os.trans O1.out.os,happ.tape.trans O1.out.tape,happ.output.trans O1.out.output,by omega,fun j hj hn=>?_⟩ q (o+1) _ (by simp);simp at hn;exact(hsm j (by omega) hn.2.2).trans (O1.out.block j hj (by simpa using hn.2.1))
 ·intro i hi;rcases happ.sub i hi with h | h | h
  ·exact .inl h
  ·cases h
  ·simp at h;exact .inr (by omega)
theorem Z26 {T:TypeId}(h:Bd w q T o m cs [] ov Fo):
  Calls prog 266 #[.pointer (some ⟨q,o,none⟩),.int .i64 0] w fun e w'=>e= .returned (.tuple #[])/\ ∃ ov',Bd w' q T o m cs [] ov' Fo/\Off (q::m::Fo) w w':=by
 obtain⟨c0,c1,sf⟩:=h.cells;obtain⟨p,c,rfl⟩:=h.row.form;have H:=Zaa h;clear h;simp only[List.map_nil,Ydt]at c1 H;go_in
 go_wp2
 refine Ye7 1 ?_;rw[Ye5];go_wp2
 go_end0
 refine⟨rfl,.slice p 0 c,⟨?_,H.out.c0,H.out.sz,?_,?_,H.out.ne,⟨H.out.new.once,fun _ _=>Yej _,fun j hj=>by have:=H.out.new.lt j hj;simpa[World.setCell]using this⟩,H.out.qF,H.out.mF⟩,(Off.refl _ w).set q (o+1) _ (by simp)⟩
 ·have:=H.out.blk.set (o+1) (.slice p 0 c)
  rwa [Yew]at this
 ·exact Zag.stable Zvg.stable _ _ _ _ _ H.out.row fun j hj=>Ydg _ _ _ _ (fun e=>H.out.qF (by rw[show q=j from e.symm];exact hj))
 ·exact H.out.map.of (Ydg _ _ _ _ (fun e=>H.out.ne e.symm))
theorem Zag.open1 {e:TypeId}{v:Value}{F:List Nat}(h:Zag e 1 Zvg w v [x] F): ∃ g cap,v= .slice (some ⟨g,0,none⟩) 1 cap/\w.cell? ⟨g,0,none⟩=some (.string x)/\Zag e 1 Zvg w (.slice (some ⟨g,0,none⟩) 0 cap) [] F/\1<=cap:=by
 obtain⟨zs,hown,hz,hx,rfl,hl⟩:=h;match zs,hx with
 | [z],hx=>
  simp at hx;obtain⟨hz1,hz2,hz3⟩:=hz z (by simp);rw[<- hx]at hz3;have hz2':=hz2;rcases hown.2 with⟨_,h0⟩ | ⟨g,cap,cur,rfl,h1,h2,h3,h4,h5,h6⟩
  ·simp at h0
  ·refine⟨g,cap,rfl,?_,⟨[],⟨by simp,.inr ⟨g,cap,cur,rfl,h1,h2,Yej _,h4,h5,by simp⟩⟩,fun _ h=>(by cases h),rfl,?_,by simp⟩,by simpa using h3⟩
   ·have:=hown.cells (g:=g) rfl 0 (.string x) (by simp[hz3])
    exact this
   ·simp[hz2',Value.ownBlock]
theorem Z6f {k:Nat}{T:TypeId}(h:Bd w q T o m cs [(x,k)] ov Fo):
  Calls prog 266 #[.pointer (some ⟨q,o,none⟩),.int .i64 0] w fun e w'=>e= .returned (.tuple #[])/\ ∃ ov',Bd w' q T o m cs [] ov' Fo/\Off (q::m::Fo) w w':=by
 obtain⟨c0,c1,sf⟩:=h.cells;obtain⟨g,c,rfl,cg,hr0,hc1⟩:=Zag.open1 h.row;obtain⟨ob,hmu,hbm⟩:=Zv4 h.map;obtain⟨W1,hW1⟩: ∃ W1,Box ({w with heap:=w.heap.setIfInBounds m ob}=W1):=⟨_,⟨rfl⟩⟩;rw[hW1.out]at hmu hbm;have O1:Box (Off [m] w W1):=⟨hW1.out▸(Off.refl _ w).put m ob (by simp)⟩;have b1:W1.heap[q]?=w.heap[q]?:=O1.out.block q h.blk.lt (by simpa using h.ne);have c1':W1.cell? ⟨q,o+1,none⟩=some (.slice (some ⟨g,0,none⟩) 1 c):=(Yde (a:=⟨q,o+1,none⟩) b1).trans c1;have sf': ∀ j,W1.frozen? ⟨q,j,none⟩=false:=fun j=>(Yez (a:=⟨q,j,none⟩) b1).trans (sf j);have H:=Zaa h;have HBM:=Zaa hbm;have R0:=Zaa hr0;clear h hbm hr0;go_in
 go_wp2
 refine Ye7 2 ?_;rw[Ye5];go_wp2_with fail
 rw[Ye5];go_wp2
 go_end0
 have nF:=H.out.new;refine⟨rfl,.slice (some ⟨g,0,none⟩) 0 c,⟨?_,H.out.c0,H.out.sz,?_,?_,H.out.ne,⟨nF.once,fun _ _=>Yej _,fun j hj=>Ydh (nF.lt j hj) (by simpa[World.setCell]using O1.out.size)⟩,H.out.qF,H.out.mF⟩,(O1.out.mono (by simp)).set q (o+1) _ (by simp)⟩
 ·have:=(H.out.blk.of b1).set (o+1) (.slice (some ⟨g,0,none⟩) 0 c)
  rwa [Yew]at this
 ·exact Zag.stable Zvg.stable _ _ _ _ _ R0.out fun j hj=>(Ydg _ _ _ _ (fun e=>H.out.qF (by rw[show q=j from e.symm];exact hj))).trans (O1.out.block j (nF.lt j hj) (fun e=>H.out.mF (by rw[<- Yeb.1 e];exact hj)))
 ·exact HBM.out.of (Ydg _ _ _ _ (fun e=>H.out.ne e.symm))
theorem Zif {T:TypeId}(h:Bd w q T o m cs xs ov Fo)(hl:xs.length<=1):
  Calls prog 266 #[.pointer (some ⟨q,o,none⟩),.int .i64 0] w fun e w'=>e= .returned (.tuple #[])/\ ∃ ov',Bd w' q T o m cs [] ov' Fo/\Off (q::m::Fo) w w':=by
 match xs,hl with
 | [],_=>exact Z26 h
 | [(x,k)],_=>exact Z6f h
end Go.P
namespace Go.W
variable {s:ByteArray×Nat}
def Zdu (w:World) (g:Nat) (s:ByteArray×Nat):Prop:=g < w.heap.size/\w.cell? ⟨g,0,none⟩=some (.string s.1)/\w.cell? ⟨g,1,none⟩=some (.int .i64 (s.2:Int))/\s.1.size < 1000000000
theorem Zdu.of {w w':World}{g:Nat}(h:Zdu w g s)(hs:w.heap.size<=w'.heap.size)(hb:w'.heap[g]?=w.heap[g]?):Zdu w' g s:=
 ⟨Ydh h.1 hs,(Yde (a:=⟨g,0,none⟩) hb).trans h.2.1,(Yde (a:=⟨g,1,none⟩) hb).trans h.2.2.1,h.2.2.2⟩
def Zey (x:ByteArray×Nat):List Value:=[.string x.1,.int .i64 1,.int .i64 (x.2:Int),.int .i64 0,.int .i64 0,.int .i64 0,.int .i64 0,.int .i64 0]
def Zci (xs:List (ByteArray×Nat)) (pn:ByteArray) (s x:ByteArray×Nat):Bool×List (ByteArray×Nat):=
 if pn≠x.1 then(false,xs)else if(Zbn xs s).2=false then(true,xs++[(s.1,x.2)])else(decide ((Zbn xs s).1=x.2),xs)
theorem Zu3 {xs:List (ByteArray×Nat)}(h:(Zbn xs s).2=false):Zgl s.1 xs 0=none:=by
 unfold Zbn at h;split at h
 ·cases h
 ·simpa using h
end Go.W
namespace Go.P
theorem Zpo (w:World)(o:Obj)(cs:Array Value)(e:TypeId):Blk ((w.alloc o).alloc (.cells cs e)) (w.heap.size+1) cs e:=by
 have:=Blk.new (w.alloc o) cs e
 rwa [Ydm]at this
theorem Z2h (w:World)(o o':Obj)(cs:Array Value)(e:TypeId):Blk (((w.alloc o).alloc o').alloc (.cells cs e)) (w.heap.size+1+1) cs e:=by
 have:=Blk.new ((w.alloc o).alloc o') cs e
 rwa [Ydm,Ydm]at this
theorem Zoe {w:World}{q o m:Nat}{T:TypeId}{cs:Array Value}{xs:List (ByteArray×Nat)}{ov:Value}{Fo:List Nat}(h:Bd w q T o m cs xs ov Fo){g c:Nat}{s:ByteArray×Nat}(hg:Zdu w g s)(pn:ByteArray)(x:ByteArray×Nat)(hl:xs.length < 1000):
  Calls prog 265 #[.pointer (some ⟨q,o,none⟩),.agg #[.string pn,.slice (some ⟨g,0,none⟩) 1 c],.agg (Zey x).toArray] w fun e w'=>e= .returned (.bool (Zci xs pn s x).1)/\ ∃ ov' Fo',Bd w' q T o m cs (Zci xs pn s x).2 ov' Fo'/\Off (q::m::Fo) w w'/\ ∀ i,i∈Fo'->i∈Fo\/w.heap.size<=i:=by
 obtain⟨hgl,g0,g1,hsz⟩:=hg;unfold Zey;have H:=Zaa h;have B2:=fun o1 o2=>((Ydb w.heap.size w).alloc lr o1).alloc (by simp) o2;have CO:=Zaa (fun u (hu:Below w.heap.size w u)=>Zvt (w:=u) (q:=q) (o:=o) (v:= .map (some m)) (xs:=xs) (.inr ⟨m,rfl,h.map.of (hu.block m h.map.lt)⟩) ((Yde (a:=⟨q,o,none⟩) (hu.block q h.blk.lt)).trans h.cells.1) (Ydh h.blk.lt hu.size) (fun j hj=>by injection hj with hj;injection hj with hj;subst hj;exact Ydh h.map.lt hu.size) s hsz);have CB:=Zaa (fun u (hu:Below w.heap.size w u) (h0:Zgl s.1 xs 0=none)=>Zxz (h.of (w':=u) hu.size fun k hk=>hu.block k (h.lt k hk)) s.1 x.2 h0 hl);have B3:=fun o1 o2 o3=>(B2 o1 o2).alloc (by simp;omega) o3;clear h;by_cases hn:pn=x.1
 ·subst hn;have e1:(x.1.toList==x.1.toList)=true:=by simp
  have EM:Box (Zci xs x.1 s x=if(Zbn xs s).2=false then(true,xs++[(s.1,x.2)])else(decide ((Zbn xs s).1=x.2),xs)):=⟨if_neg (by simp)⟩;generalize Zci xs x.1 s x=r at*;go_in
  go_wp2
  refine Ye7 2 ?_;rw[Ye5];go_wp2_with fail
  refine(CO.out _ (B3 _ _ _)).mono ?_;rintro e w1 ⟨rfl,hb1⟩;have f1:=(((Zpo w _ _ _).alloc _).of (hb1.block (w.heap.size+1) (by simp))).cell 2;have s1:=((Z2h w _ _ _ _).of (hb1.block (w.heap.size+1+1) (by simp))).cell 0;simp at f1 s1;have HB:=Zaa ((B3 _ _ _).trans (hb1.mono (by simp;omega)));clear hb1 CO;have EN:=Zaa (Zu3 (xs:=xs) (s:=s));generalize (Zbn xs s).1=v at*;generalize (Zbn xs s).2=kn at*;cases kn
  ·replace EN:Box (Zgl s.1 xs 0=none):=⟨EN.out rfl⟩
   replace EM:Box (r=(true,xs++[(s.1,x.2)])):=⟨EM.out⟩
   go_wp2
   go_region_with (go_at_call 270;refine(CB.out _ HB.out.drew EN.out).mono ?_;rintro e w2 ⟨rfl,ov2,F2,hbd,hoff,hF2⟩)
   all_goals
    have FIN:=Zaa (Yda hbd (Yda ((Off.of (F:=q::m::Fo) HB.out.drew).trans hoff fun _ h=> .inl h) hF2));clear hbd hoff hF2;go_wp2_with fail
    rw[Ye5];go_wp2
    go_ret
    have:=HB.out.size
    rw[EM.out];exact⟨rfl,ov2,F2,FIN.out.1,FIN.out.2.1,fun i hi=>(FIN.out.2.2 i hi).imp id fun h=>Ydc this h⟩
  ·clear EN CB;replace EM:Box (r=(decide (v=x.2),xs)):=⟨EM.out⟩
   have H1:Box (Bd w1 q T o m cs xs ov Fo):=⟨H.out.of HB.out.size fun k hk=>HB.out.block k (H.out.lt k hk)⟩;by_cases hv:v=x.2
   ·have e2:((v:Int) != (x.2:Int))=false:=by simp[hv]
    go_wp2_with fail
    rw[Ye5];go_wp2
    go_ret
    rw[EM.out,Yfj hv];exact⟨rfl,ov,Fo,H1.out,Off.of HB.out,fun _ h=> .inl h⟩
   ·have e2:((v:Int) != (x.2:Int))=true:=by simp;omega
    go_wp2
    go_ret
    rw[EM.out,Yfg hv];exact⟨rfl,ov,Fo,H1.out,Off.of HB.out,fun _ h=> .inl h⟩
 ·have e1:(pn.toList==x.1.toList)=false:=by rw[Zjb];simp[hn]
  have E:Box (Zci xs pn s x=(false,xs)):=⟨if_pos hn⟩;rw[E.out];clear CO;go_in
  go_wp2
  go_ret
  exact⟨rfl,ov,Fo,H.out.of (B2 _ _).size (fun k hk=>(B2 _ _).block k (H.out.lt k hk)),Off.of (B2 _ _),fun _ h=> .inl h⟩
end Go.P
namespace Go.P
variable {b' o' c':Nat}
section
variable {w:World} {p b o c:Nat} {hn:ByteArray} {pt pb pg:Option Addr} {nt ct nb cb ng cg:Nat} {J:World->Prop}
theorem Z06 (r0:w.cell? ⟨b,o,none⟩=some (.string hn))(r1:w.cell? ⟨b,o+1,none⟩=some (.slice pt nt ct))(r2:w.cell? ⟨b,o+2,none⟩=some (.slice pb nb cb))(r3:w.cell? ⟨b,o+3,none⟩=some (.slice pg ng cg))(CH:Calls prog 191 #[.pointer (some ⟨p,0,none⟩),.agg #[.string hn,.slice pt nt ct,.slice pb nb cb,.slice pg ng cg]] w fun e w'=>e= .returned (.bool true)/\J w'):
  Calls prog 220 #[.slice (some ⟨b,o,none⟩) 1 c,.func (.func 191) #[.pointer (some ⟨p,0,none⟩)] #[]] w fun e w'=>e= .returned (.int .i64 0)/\J w':=by
 have hen: ∀ args w,(callFunc 191 args).run prog w= .ok (.enter 191 args) w:=Zam func191 (by kernel_rfl) rfl;have C:=Zaa CH;clear CH;go_in
 go_wp2
 refine Ye7 1 ?_;rw[Ye5];go_wp2_with fail
 refine mq C.out ?_;rintro w1 j;have J1:=Zaa j;clear j;go_wp2
 go_ret
 exact⟨rfl,J1.out⟩
theorem Zsi (r0:w.cell? ⟨b,o,none⟩=some (.string hn))(r1:w.cell? ⟨b,o+1,none⟩=some (.slice pt nt ct))(r2:w.cell? ⟨b,o+2,none⟩=some (.slice pb nb cb))(r3:w.cell? ⟨b,o+3,none⟩=some (.slice pg ng cg))(CH:Calls prog 191 #[.pointer (some ⟨p,0,none⟩),.agg #[.string hn,.slice pt nt ct,.slice pb nb cb,.slice pg ng cg]] w fun e w'=>e= .returned (.bool true)/\J w'):
  Calls prog 190 #[.slice (some ⟨b,o,none⟩) 1 c,.func (.func 191) #[.pointer (some ⟨p,0,none⟩)] #[]] w fun e w'=>e= .returned (.bool true)/\J w':=by
 have C:=Zaa (Z06 (c:=c) r0 r1 r2 r3 CH);clear CH r0 r1 r2 r3;go_in
 go_wp2_with fail
 refine mq C.out ?_;rintro w1 j;have J1:=Zaa j;clear j;go_wp2
 go_ret
 exact⟨rfl,J1.out⟩
theorem Zmc (r0:w.cell? ⟨b,o,none⟩=some (.string hn))(r1:w.cell? ⟨b,o+1,none⟩=some (.slice pt nt ct))(r2:w.cell? ⟨b,o+2,none⟩=some (.slice pb nb cb))(r3:w.cell? ⟨b,o+3,none⟩=some (.slice pg ng cg))(CH:Calls prog 191 #[.pointer (some ⟨p,0,none⟩),.agg #[.string hn,.slice pt nt ct,.slice pb nb cb,.slice pg ng cg]] w fun e w'=>e= .returned (.bool true)/\J w'):
  Calls prog 150 #[.pointer (some ⟨p,0,none⟩),.slice (some ⟨b,o,none⟩) 1 c] w fun e w'=>e= .returned (.bool true)/\J w':=by
 have C:=Zaa (Zsi (c:=c) r0 r1 r2 r3 CH);have hmf:=fun(fn:Fn) (first cap:Array Value) (w:World)=>(rfl:(Instr.makeFunc fn first cap).run prog w= .ok (.func fn first cap) w);clear CH r0 r1 r2 r3;go_in
 go_wp2_with fail
 refine mq C.out ?_;rintro w1 j;have J1:=Zaa j;clear j;go_wp2
 go_ret
 exact⟨rfl,J1.out⟩
theorem Zwx (pc:Option Addr)(cc:Nat):Calls prog 102 #[.pointer (some ⟨p,0,none⟩),.slice pc 0 cc] w fun e w'=>e= .returned (.bool true)/\w'=w:=by
 go_in
 go_wp2
 refine Ye7 1 ?_;rw[Ye5];go_wp2
 go_ret
 exact⟨rfl,rfl⟩
theorem Z00 (k0:w.cell? ⟨b',o',none⟩=some (.slice (some ⟨b,o,none⟩) 1 c))(CH: ∀ u,Below w.heap.size w u->Calls prog 150 #[.pointer (some ⟨p,0,none⟩),.slice (some ⟨b,o,none⟩) 1 c] u fun e w'=>e= .returned (.bool true)/\J w'):
  Calls prog 102 #[.pointer (some ⟨p,0,none⟩),.slice (some ⟨b',o',none⟩) 1 c'] w fun e w'=>e= .returned (.bool true)/\J w':=by
 have C:=Zaa CH;clear CH;go_in
 go_wp2
 refine Ye7 2 ?_;rw[Ye5];go_wp2_with fail
 refine(C.out _ ((Ydb _ w).alloc lr _)).mono ?_;rintro e w1 ⟨rfl,j⟩;have J1:=Zaa j;clear j;go_wp2_with fail
 rw[Ye5];go_wp2
 go_ret
 exact⟨rfl,J1.out⟩
theorem Zzm (k0:w.cell? ⟨b',o',none⟩=some (.bool true))(k1:w.cell? ⟨b',o'+1,none⟩=some (.slice (some ⟨b,o,none⟩) 1 c))(CH: ∀ u,Below w.heap.size w u->w.heap.size < u.heap.size->Calls prog 150 #[.pointer (some ⟨p,0,none⟩),.slice (some ⟨b,o,none⟩) 1 c] u fun e w'=>e= .returned (.bool true)/\J w'/\w'.heap[w.heap.size]?=u.heap[w.heap.size]?):
  Calls prog 103 #[.pointer (some ⟨p,0,none⟩),.slice (some ⟨b',o',none⟩) 1 c'] w fun e w'=>e= .returned (.bool true)/\J w':=by
 have C:=Zaa CH;clear CH;go_in
 go_wp2
 refine Ye7 2 ?_;rw[Ye5];go_wp2_with fail
 refine(C.out _ ((Ydb _ w).alloc lr _) (by simp)).mono ?_;rintro e w1 ⟨rfl,j,hk⟩;have J1:=Zaa j;have y0:=((Blk.new w #[.bool true,.slice (some ⟨b,o,none⟩) 1 c] 187).of hk).two.1;clear j hk;go_wp2
 go_ret
 exact⟨rfl,J1.out⟩
end
end Go.P
namespace Go.W
variable {B d b o B':Nat}{w w':World}{x:T}{vs:List Value}
def Zzf (t:ByteArray):Bool:=Lib.validD t.data.toList
def Zwd (k i:Int) (t:ByteArray) (n:Nat) (named valid:Bool):Bool:=
 if k=1 then decide (i=0) && decide (n=0) && named else if k=3 then decide (i=0) && decide (n=0) && valid else if k=4 then decide (i=0) && decide (n=0)
 else if k=2\/k=5 then decide (t.size=0) && decide (n=0)else if k=6 then decide (t.size=0) && decide (n=0) && (decide (i=0) || decide (i=1))else if k=7 then decide (i=0) && decide (t.size=0)else false
def Zh2 (k i:Int) (t:ByteArray) (n:Nat):Bool:=Zwd k i t n (Zdm t) (Zzf t)
def Zyv (d:Nat) (k i:Int) (t:ByteArray) (n:Nat):Int:=if Zh2 k i t n=false\/k=1/\0 < d then 2 else if 64 < t.size\/6 < n then 4 else if k=7/\d=3 then 3 else 0
mutual
def Zau (d:Nat):T->Int
 | .mk k i t l=>if Zyv d k i t l.length≠0 then Zyv d k i t l.length else Zi5 (d+1) l
def Zi5 (d:Nat):List T->Int
 | []=>0
 | x::r=>if Zau d x≠0 then Zau d x else Zi5 d r
end
theorem Z12 (d:Nat)(l:List T):Zi5 d l=Za2 (Zau d) l:=by
 induction l with
 | nil=>simp[Zi5,Za2]
 | cons x r ih=>simp[Zi5,Za2,ih]
theorem Zlf (d:Nat)(x:T):Zau d x=if Zyv d x.k x.i x.t x.l.length≠0 then Zyv d x.k x.i x.t x.l.length else Za2 (Zau (d+1)) x.l:=by
 cases x;rw[Zau,Z12];rfl
def Zb3 {α:Type} (f:α->Int) (m:Nat) (l:List α):Int:=if m < l.length then 4 else Za2 f l
def Zcs (a:A):Int:=if Zdm a.name=false then 2 else Zb3 (Zau 0) 6 a.terms
def Zc4 (l:List T) (body:List A):Bool:=l.all fun t=> !Z6k t || body.any fun a=>a.terms.any fun x=>Z6k x && decide (x.t=t.t)
def Zcl (body:List A) (t:T):Int:=if Zau 0 t≠0 then Zau 0 t else if Zc4 [t] body=false then 5 else 0
def Zfl (body:List A) (g:G):Int:=if g.op < 1\/7 < g.op then 2 else if Zcl body g.a≠0 then Zcl body g.a else Zcl body g.b
def Zbo (r:R):Int:=if r.body.length=0/\r.guards.length=0 then 2 else if 4 < r.body.length\/4 < r.guards.length then 4 else if Za2 Zcs r.body≠0 then Za2 Zcs r.body else Za2 (Zfl r.body) r.guards
def Zdr (r:R):Int:=if Zcs r.head≠0 then Zcs r.head else if Zbo r≠0 then Zbo r else if Zc4 r.head.terms r.body=false then 5 else 0
def Zc9 (r:R):Int:=if r.head.name.size≠0\/0 < r.head.terms.length then 2 else Zbo r
def Zba (l:List R):Int:=if l.length=0 then 2 else Zb3 Zc9 4 l
def Zd2 (a:A):Int:=if Zcs a≠0 then Zcs a else if Zc4 a.terms []=false then 5 else 0
def Zck (b:Bk):Int:=if Zb3 Zd2 24 b.facts≠0 then Zb3 Zd2 24 b.facts else if Zb3 Zdr 24 b.rules≠0 then Zb3 Zdr 24 b.rules else Zb3 Zba 24 b.checks
def Zbv:List ByteArray:=[Zgn 1,Zgn 2,Zgn 3,Zgn 4,Zgn 5,Zgn 6,Zgn 7]
def Ycd:List Nat:=[34,34,92,92,110,10,116,9,114,13]
def Zzb:List Nat:=[0x6a09e667,0xbb67ae85,0x3c6ef372,0xa54ff53a,0x510e527f,0x9b05688c,0x1f83d9ab,0x5be0cd19]
def Zmk:List Nat:=[0x428a2f98,0x71374491,0xb5c0fbcf,0xe9b5dba5,0x3956c25b,0x59f111f1,0x923f82a4,0xab1c5ed5,0xd807aa98,0x12835b01,0x243185be,0x550c7dc3,0x72be5d74,0x80deb1fe,0x9bdc06a7,0xc19bf174,0xe49b69c1,0xefbe4786,0x0fc19dc6,0x240ca1cc,0x2de92c6f,0x4a7484aa,0x5cb0a9dc,0x76f988da,0x983e5152,0xa831c66d,0xb00327c8,0xbf597fc7,0xc6e00bf3,0xd5a79147,0x06ca6351,0x14292967,0x27b70a85,0x2e1b2138,0x4d2c6dfc,0x53380d13,0x650a7354,0x766a0abb,0x81c2c92e,0x92722c85,0xa2bfe8a1,0xa81a664b,0xc24b8b70,0xc76c51a3,0xd192e819,0xd6990624,0xf40e3585,0x106aa070,0x19a4c116,0x1e376c08,0x2748774c,0x34b0bcb5,0x391c0cb3,0x4ed8aa4a,0x5b9cca4f,0x682e6ff3,0x748f82ee,0x78a5636f,0x84c87814,0x8cc70208,0x90befffa,0xa4506ceb,0xbef9a3f7,0xc67178f2]
def Zc2 (B:Nat) (w:World) (d:Nat) (vs:List Value) (x:T):Prop:= ∃ p c,vs=[.int .i64 x.k,.int .i64 x.i,.string x.t,.slice p x.l.length c]/\x.t.size < 1000000000/\Zlg x.k/\Zlg x.i/\x.l.length<=c/\Zan 4 (Zbl B w d) p x.l
def Ze4 (B:Nat) (w:World) (d:Nat) (vs:List Value) (x:A):Prop:= ∃ p c,vs=[.string x.name,.slice p x.terms.length c]/\x.name.size < 1000000000/\x.terms.length<=c/\Zan 4 (Zbl B w (d+1)) p x.terms
def Zgb (B:Nat) (w:World) (d:Nat) (vs:List Value) (x:G):Prop:= ∃ va vb,vs= .int .i64 x.op::(va++vb)/\Zlg x.op/\Zc2 B w d va x.a/\Zc2 B w d vb x.b
def Zf7 (B:Nat) (w:World) (d:Nat) (vs:List Value) (x:R):Prop:= ∃ va p c p' c',vs=va++[.slice p x.body.length c,.slice p' x.guards.length c']/\Ze4 B w d va x.head/\x.body.length<=c/\Zan 2 (Zbb B w (d+1)) p x.body/\x.guards.length<=c'/\Zan 9 (Zct B w (d+1)) p' x.guards
def Zh9 (B:Nat) (w:World) (d:Nat) (vs:List Value) (x:List R):Prop:= ∃ p c,vs=[.slice p x.length c]/\x.length<=c/\Zan 4 (Zb5 B w (d+1)) p x
def Yaa (B:Nat) (w:World) (d:Nat) (vs:List Value) (x:Pol):Prop:= ∃ p c,vs=[.bool x.allow,.slice p x.either.length c]/\x.either.length<=c/\Zan 4 (Zb5 B w (d+1)) p x.either
def Zbd (B:Nat) (w:World) (d:Nat) (vs:List Value) (x:Bk):Prop:= ∃ p c p' c' p2 c2,vs=[.slice p x.facts.length c,.slice p' x.rules.length c',.slice p2 x.checks.length c2]/\x.facts.length<=c/\Zan 2 (Zbb B w (d+1)) p x.facts/\x.rules.length<=c'/\Zan 4 (Zb5 B w (d+1)) p' x.rules/\x.checks.length<=c2/\Zan 1 (Zhj B w (d+1)) p2 x.checks
theorem Zbl.vals (h:Zbl B w (d+1) b o x):b < B/\ ∃ p c,w.cell? ⟨b,o,none⟩=some (.int .i64 x.k)/\w.cell? ⟨b,o+1,none⟩=some (.int .i64 x.i)/\w.cell? ⟨b,o+2,none⟩=some (.string x.t)/\w.cell? ⟨b,o+3,none⟩=some (.slice p x.l.length c)/\Zc2 B w d [.int .i64 x.k,.int .i64 x.i,.string x.t,.slice p x.l.length c] x:=by
 obtain⟨hb,lv,c0,c1,c2,c3,hi⟩:=h;obtain⟨p,c,rfl,hc,hr⟩:=hi.l;exact⟨hb,p,c,c0,c1,c2,c3,p,c,rfl,hi.tr,hi.kr,hi.ir,hc,hr⟩
theorem Zan.carry {α:Type}{s:Nat}{Q Q':Nat->Nat->α->Prop}{p:Option Addr}{xs:List α}(h:Zan s Q p xs)(f: ∀ b o x,Q b o x->Q' b o x):Zan s Q' p xs:=
 ⟨h.len,fun i x hx=>by obtain⟨b,o,e,q⟩:=h.at_ i x hx;exact⟨b,o,e,f _ _ _ q⟩⟩
theorem Zc2.carry (h:Zc2 B w d vs x)(c:Zc1 B B' w w'):Zc2 B' w' d vs x:=by
 obtain⟨p,k,h0,h1,h2,h3,h4,h5⟩:=h;exact⟨p,k,h0,h1,h2,h3,h4,h5.carry fun _ _ _ q=>q.carry c lr⟩
theorem Ze4.carry {x:A}(h:Ze4 B w d vs x)(c:Zc1 B B' w w'):Ze4 B' w' d vs x:=by
 obtain⟨p,k,h0,h1,h2,h5⟩:=h;exact⟨p,k,h0,h1,h2,h5.carry fun _ _ _ q=>q.carry c lr⟩
theorem Zbb.vals {x:A}(h:Zbb B w (d+1) b o x):b < B/\ ∃ p c,w.cell? ⟨b,o,none⟩=some (.string x.name)/\w.cell? ⟨b,o+1,none⟩=some (.slice p x.terms.length c)/\Ze4 B w d [.string x.name,.slice p x.terms.length c] x:=by
 obtain⟨hb,c0,hs,tv,c1,p,c,rfl,hc,hr⟩:=h;exact⟨hb,p,c,c0,c1,p,c,rfl,hs,hc,hr⟩
theorem Zct.vals {x:G}(h:Zct B w (d+1) b o x):b < B/\ ∃ p c p' c',w.cell? ⟨b,o,none⟩=some (.int .i64 x.op)/\w.cell? ⟨b,o+1,none⟩=some (.int .i64 x.a.k)/\w.cell? ⟨b,o+2,none⟩=some (.int .i64 x.a.i)/\w.cell? ⟨b,o+3,none⟩=some (.string x.a.t)/\w.cell? ⟨b,o+4,none⟩=some (.slice p x.a.l.length c)/\w.cell? ⟨b,o+5,none⟩=some (.int .i64 x.b.k)/\w.cell? ⟨b,o+6,none⟩=some (.int .i64 x.b.i)/\w.cell? ⟨b,o+7,none⟩=some (.string x.b.t)/\w.cell? ⟨b,o+8,none⟩=some (.slice p' x.b.l.length c')/\Zgb B w d [.int .i64 x.op,.int .i64 x.a.k,.int .i64 x.a.i,.string x.a.t,.slice p x.a.l.length c,.int .i64 x.b.k,.int .i64 x.b.i,.string x.b.t,.slice p' x.b.l.length c'] x:=by
 obtain⟨hb,c0,ho,ha,hb2⟩:=h;obtain⟨_,p,c,a0,a1,a2,a3,sa⟩:=ha.vals;obtain⟨_,p',c',b0,b1,b2,b3,sb⟩:=hb2.vals;exact⟨hb,p,c,p',c',c0,a0,a1,a2,a3,b0,b1,b2,b3,_,_,rfl,ho,sa,sb⟩
theorem Zb5.vals {x:R}(h:Zb5 B w (d+1) b o x):b < B/\ ∃ p c p' c' p2 c2,w.cell? ⟨b,o,none⟩=some (.string x.head.name)/\w.cell? ⟨b,o+1,none⟩=some (.slice p x.head.terms.length c)/\w.cell? ⟨b,o+2,none⟩=some (.slice p' x.body.length c')/\w.cell? ⟨b,o+3,none⟩=some (.slice p2 x.guards.length c2)/\Zf7 B w d [.string x.head.name,.slice p x.head.terms.length c,.slice p' x.body.length c',.slice p2 x.guards.length c2] x:=by
 obtain⟨hb,hh,⟨bv,c2,p2,k2,rfl,h2,r2⟩,gv,c3,p3,k3,rfl,h3,r3⟩:=h;obtain⟨_,p,c,c0,c1,sh⟩:=hh.vals;exact⟨hb,p,c,p2,k2,p3,k3,c0,c1,c2,c3,_,p2,k2,p3,k3,rfl,sh,h2,r2,h3,r3⟩
theorem Zhj.vals {x:List R}(h:Zhj B w (d+1) b o x):b < B/\ ∃ p c,w.cell? ⟨b,o,none⟩=some (.slice p x.length c)/\Zh9 B w d [.slice p x.length c] x:=by
 obtain⟨hb,v,c0,p,c,rfl,hc,hr⟩:=h;exact⟨hb,p,c,c0,p,c,rfl,hc,hr⟩
theorem Zjt.vals {x:Pol}(h:Zjt B w (d+1) b o x):b < B/\ ∃ p c,w.cell? ⟨b,o,none⟩=some (.bool x.allow)/\w.cell? ⟨b,o+1,none⟩=some (.slice p x.either.length c)/\Yaa B w d [.bool x.allow,.slice p x.either.length c] x:=by
 obtain⟨hb,c0,v,c1,p,c,rfl,hc,hr⟩:=h;exact⟨hb,p,c,c0,c1,p,c,rfl,hc,hr⟩
theorem Zgb.carry {x:G}(h:Zgb B w d vs x)(c:Zc1 B B' w w'):Zgb B' w' d vs x:=by
 obtain⟨va,vb,h0,h1,h2,h3⟩:=h;exact⟨va,vb,h0,h1,Zc2.carry h2 c,Zc2.carry h3 c⟩
theorem Zf7.carry {x:R}(h:Zf7 B w d vs x)(c:Zc1 B B' w w'):Zf7 B' w' d vs x:=by
 obtain⟨va,p,k,p',k',h0,h1,h2,h3,h4,h5⟩:=h;exact⟨va,p,k,p',k',h0,Ze4.carry h1 c,h2,h3.carry fun _ _ _ q=>q.carry c lr,h4,h5.carry fun _ _ _ q=>q.carry c lr⟩
theorem Zh9.carry {x:List R}(h:Zh9 B w d vs x)(c:Zc1 B B' w w'):Zh9 B' w' d vs x:=by
 obtain⟨p,k,h0,h2,h3⟩:=h;exact⟨p,k,h0,h2,h3.carry fun _ _ _ q=>q.carry c lr⟩
theorem Yaa.carry {x:Pol}(h:Yaa B w d vs x)(c:Zc1 B B' w w'):Yaa B' w' d vs x:=by
 obtain⟨p,k,h0,h2,h3⟩:=h;exact⟨p,k,h0,h2,h3.carry fun _ _ _ q=>q.carry c lr⟩
theorem Zbd.carry {x:Bk}(h:Zbd B w d vs x)(c:Zc1 B B' w w'):Zbd B' w' d vs x:=by
 obtain⟨p,k,p1,k1,p2,k2,h0,h2,h3,h4,h5,h6,h7⟩:=h;exact⟨p,k,p1,k1,p2,k2,h0,h2,h3.carry fun _ _ _ q=>q.carry c lr,h4,h5.carry fun _ _ _ q=>q.carry c lr,h6,h7.carry fun _ _ _ q=>q.carry c lr⟩
theorem Za4 {u:World}(h:Below w.heap.size w u)(hB:B<=w.heap.size):Zc1 B B w u:=Go.W.Below.carry (h.mono hB) lr
theorem Zfj (o:Obj)(hB:B<=w.heap.size):Zc1 B B w (w.alloc o):=Za4 ((Ydb _ w).alloc lr o) hB
def Zkc {α:Type} (w:World) (f:α->Int) (l:List α) (iv:Value) (wr:World):Prop:= ∃ q:Nat,q<=l.length/\iv= .int .i64 q/\Za2 f (l.drop q)=Za2 f l/\Below w.heap.size w wr
end Go.W
namespace Go.P
theorem tr {w u v:World}(h:Box (Below w.heap.size w u))(k:Below u.heap.size u v):Box (Below w.heap.size w v):=⟨h.out.trans (k.mono h.out.size)⟩
variable {w:World}{p:Addr}{x:Value}
def Zcm (a:Nat->Addr) (n:Int):Value:=if n=0 then .nilIface else .iface 403 (.pointer (some (a (n.toNat - 1))))
theorem Za0 (a:Nat->Addr):Zcm a 0= .nilIface:=rfl
theorem Zaf (a:Nat->Addr){n:Int}(h:n≠0):Zcm a n= .iface 403 (.pointer (some (a (n.toNat - 1)))):=if_neg h
structure Ycm (a:Nat->Addr) (w:World):Prop where
 c1:w.cell? ⟨0,0,none⟩=some (Zcm a 1)
 c2:w.cell? ⟨1,0,none⟩=some (Zcm a 2)
 c3:w.cell? ⟨2,0,none⟩=some (Zcm a 3)
 c4:w.cell? ⟨3,0,none⟩=some (Zcm a 4)
 c5:w.cell? ⟨4,0,none⟩=some (Zcm a 5)
 c6:w.cell? ⟨5,0,none⟩=some (Zcm a 6)
 c7:w.cell? ⟨6,0,none⟩=some (Zcm a 7)
 c8:w.cell? ⟨7,0,none⟩=some (Zcm a 8)
 c9:w.cell? ⟨8,0,none⟩=some (Zcm a 9)
 c10:w.cell? ⟨9,0,none⟩=some (Zcm a 10)
 utf:Lib.Utf8Tabs 15 16 w
 syn: ∃ te pe,w.cell? ⟨18,0,none⟩=some (.iface te pe)
 rng: ∃ te pe,w.cell? ⟨19,0,none⟩=some (.iface te pe)
 ops: ∀ (i:Nat) (s:ByteArray),(Zbv:List ByteArray)[i]?=some s->w.cell? ⟨17,i,none⟩=some (.string s)
 marks: ∀ (i:Nat) (s:ByteArray),(Zg8:List ByteArray)[i]?=some s->w.cell? ⟨13,i,none⟩=some (.string s)
 esc: ∀ (i c:Nat),(Ycd:List Nat)[i]?=some c->w.cell? ⟨14,i,none⟩=some (.int .u8 (c:Int))
 start: ∀ (i c:Nat),(Zzb:List Nat)[i]?=some c->w.cell? ⟨11,i,none⟩=some (.int .u32 (c:Int))
 steps: ∀ (i c:Nat),(Zmk:List Nat)[i]?=some c->w.cell? ⟨12,i,none⟩=some (.int .u32 (c:Int))
 bits:w.cell? ⟨20,0,none⟩=some (.int .u8 0)/\w.cell? ⟨20,1,none⟩=some (.int .u8 1)/\w.cell? ⟨20,3,none⟩=some (.int .u8 2)
def Zao (a:Nat->Addr) (w:World):Prop:= ∃ w0,Ycm a w0/\ ∀ g o,g < 23->g < w.heap.size/\w.cell? ⟨g,o,none⟩=w0.cell? ⟨g,o,none⟩
theorem Zbi (h:w.cell? p=some x):p.block < w.heap.size:=by
 rcases Ye3 p.block w.heap.size with hl | hl
 ·exact hl
 ·simp[World.cell?,Ye0 hl]at h
theorem Zab {u:World}(h:w.cell? p=some x)(hb:Below w.heap.size w u):u.cell? p=some x:=(hb.cell (Zbi h)).trans h
section
variable {a:Nat->Addr} {w u:World}
theorem Zao.below (h:Zao a w)(hb:Below w.heap.size w u):Zao a u:=by
 obtain⟨w0,h0,h1⟩:=h;exact⟨w0,h0,fun g o hg=>⟨Ydh (h1 g o hg).1 hb.size,(hb.cell (p:=⟨g,o,none⟩) (h1 g o hg).1).trans (h1 g o hg).2⟩⟩
theorem Zao.size (h:Zao a w):23<=w.heap.size:=by
 obtain⟨w0,_,h1⟩:=h
 have:=(h1 (23 - 1) 0 (by decide)).1
 omega
theorem Zao.c1 (h:Zao a w):w.cell? ⟨0,0,none⟩=some (Zcm a 1):=by obtain⟨_,h0,h1⟩:=h;exact(h1 _ _ (by decide)).2.trans h0.c1
theorem Zao.c2 (h:Zao a w):w.cell? ⟨1,0,none⟩=some (Zcm a 2):=by obtain⟨_,h0,h1⟩:=h;exact(h1 _ _ (by decide)).2.trans h0.c2
theorem Zao.c3 (h:Zao a w):w.cell? ⟨2,0,none⟩=some (Zcm a 3):=by obtain⟨_,h0,h1⟩:=h;exact(h1 _ _ (by decide)).2.trans h0.c3
theorem Zao.c4 (h:Zao a w):w.cell? ⟨3,0,none⟩=some (Zcm a 4):=by obtain⟨_,h0,h1⟩:=h;exact(h1 _ _ (by decide)).2.trans h0.c4
theorem Zao.c5 (h:Zao a w):w.cell? ⟨4,0,none⟩=some (Zcm a 5):=by obtain⟨_,h0,h1⟩:=h;exact(h1 _ _ (by decide)).2.trans h0.c5
theorem Zao.c6 (h:Zao a w):w.cell? ⟨5,0,none⟩=some (Zcm a 6):=by obtain⟨_,h0,h1⟩:=h;exact(h1 _ _ (by decide)).2.trans h0.c6
theorem Zao.c7 (h:Zao a w):w.cell? ⟨6,0,none⟩=some (Zcm a 7):=by obtain⟨_,h0,h1⟩:=h;exact(h1 _ _ (by decide)).2.trans h0.c7
theorem Zao.c8 (h:Zao a w):w.cell? ⟨7,0,none⟩=some (Zcm a 8):=by obtain⟨_,h0,h1⟩:=h;exact(h1 _ _ (by decide)).2.trans h0.c8
theorem Zao.c9 (h:Zao a w):w.cell? ⟨8,0,none⟩=some (Zcm a 9):=by obtain⟨_,h0,h1⟩:=h;exact(h1 _ _ (by decide)).2.trans h0.c9
theorem Zao.c10 (h:Zao a w):w.cell? ⟨9,0,none⟩=some (Zcm a 10):=by obtain⟨_,h0,h1⟩:=h;exact(h1 _ _ (by decide)).2.trans h0.c10
theorem Zao.utf (h:Zao a w):Lib.Utf8Tabs 15 16 w:=by
 obtain⟨_,h0,h1⟩:=h;exact⟨fun c hc=>(h1 _ _ (by decide)).2.trans (h0.utf.1 c hc),fun i hi=>⟨(h1 _ _ (by decide)).2.trans (h0.utf.2 i hi).1,(h1 _ _ (by decide)).2.trans (h0.utf.2 i hi).2⟩⟩
end
def Zde (a:Nat->Addr) (n:Int) (w:World) (e:Ending) (w':World):Prop:=e= .returned (Zcm a n)/\Below w.heap.size w w'
def Zaq (K:Nat):Prop:= ∀ args w,(callFunc K args).run prog w= .ok (.enter K args) w
end Go.P
namespace Go.W
variable {e:Int}
abbrev By:=List UInt8
def ba (l:By):ByteArray:=⟨l.toArray⟩
abbrev De (α:Type):=By->Except Int (α×By)
def De.then {α β:Type} (f:De α) (g:α->De β):De β:=fun l=>match f l with
 | .error e=> .error e
 | .ok (x,r)=>g x r
def De.map {α β:Type} (f:De α) (g:α->β):De β:=fun l=>match f l with
 | .error e=> .error e
 | .ok (x,r)=> .ok (g x,r)
def Zfp (n:Nat):De By:=fun l=>if l.length < n then .error 6 else .ok (l.take n,l.drop n)
def Zf9:De Nat:=fun l=>match l with
 | []=> .error 6
 | c::r=> .ok (c.toNat,r)
def Zuk (k n:Nat):De Nat:=fun l=>match l with
 | []=> .error 6
 | c::r=>if(k=9/\1 < c.toNat)\/(0 < k/\c.toNat=0)then .error 7 else if c.toNat < 128 then .ok (n+c.toNat*128 ^ k,r)else Zuk (k+1) (n+(c.toNat - 128)*128 ^ k) r
def Zdv:De Nat:=Zuk 0 0
def Zox:De ByteArray:=(Zdv.then Zfp).map ba
def Zh7 {α:Type} (f:De α):Nat->De (List α)
 | 0=>fun l=> .ok ([],l)
 | n+1=>f.then fun x=>(Zh7 f n).map fun r=>x::r
def Zbu {α:Type} (m:Nat) (f:De α):De (List α):=Zdv.then fun n=>if m < n then fun _=> .error 4 else Zh7 f n
def Zez (n:Nat):Int:=if n % 2=0 then(n / 2:Nat)else -((n / 2:Nat):Int) - 1
def Zfq:Nat->De T
 | 0=>Zf9.then fun k=>if k=2\/k=5 then Zdv.map fun n=> .mk k (Zez n) ByteArray.empty []else if k=6 then Zf9.map fun n=> .mk k n ByteArray.empty []else if k=7 then fun _=> .error 3 else if k=1\/k=3\/k=4 then Zox.map fun t=> .mk k 0 t []else fun _=> .error 7
 | d+1=>Zf9.then fun k=>if k=2\/k=5 then Zdv.map fun n=> .mk k (Zez n) ByteArray.empty []else if k=6 then Zf9.map fun n=> .mk k n ByteArray.empty []else if k=7 then(Zbu 6 (Zfq d)).map fun x=> .mk k 0 ByteArray.empty x else if k=1\/k=3\/k=4 then Zox.map fun t=> .mk k 0 t []else fun _=> .error 7
def Zpl:De A:=Zox.then fun n=>(Zbu 6 (Zfq 3)).map fun l=>⟨n,l⟩
def Zn2:De G:=Zf9.then fun o=>(Zfq 3).then fun a=>(Zfq 3).map fun b=>⟨o,a,b⟩
def Zpp:De R:=(Zbu 4 Zpl).then fun l=>(Zbu 4 Zn2).map fun g=>⟨⟨ByteArray.empty,[]⟩,l,g⟩
def Zw8:De R:=Zpl.then fun h=>Zpp.map fun b=>⟨h,b.body,b.guards⟩
def Zqm:De (List R):=Zbu 4 Zpp
def Zig:De Bk:=(Zbu 24 Zpl).then fun f=>(Zbu 24 Zw8).then fun r=>(Zbu 24 Zqm).map fun c=>⟨f,r,c⟩
def Zb1 {α:Type} (f:De α) (l:By):Except Int α:=match f l with
 | .error e=> .error e
 | .ok (x,r)=>if r=[]then .ok x else .error 7
def Zdb (l:By):Except Int Bk:=if 4000 < l.length then .error 4 else match Zb1 Zig l with
 | .error e=> .error e
 | .ok x=>if Zck x≠0 then .error (Zck x)else .ok x
theorem De.then_error {α β:Type}{f:De α}{g:α->De β}{l:By}(h:f l= .error e):f.then g l= .error e:=by unfold De.then;rw[h]
theorem De.then_ok {α β:Type}{f:De α}{g:α->De β}{l r:By}{x:α}(h:f l= .ok (x,r)):f.then g l=g x r:=by unfold De.then;rw[h]
theorem De.map_error {α β:Type}{f:De α}{g:α->β}{l:By}(h:f l= .error e):f.map g l= .error e:=by unfold De.map;rw[h]
theorem De.map_ok {α β:Type}{f:De α}{g:α->β}{l r:By}{x:α}(h:f l= .ok (x,r)):f.map g l= .ok (g x,r):=by unfold De.map;rw[h]
theorem Z8x (l:By)(n:Nat):(ba l).extract 0 n=ba (l.take n):=by
 apply Zhg
 rw[Yd3,Yd3];simp[ba]
theorem Z8w (l:By)(n:Nat):(ba l).extract n (ba l).size=ba (l.drop n):=by
 apply Zhg
 rw[Yd3,Yd3];simp[ba,ByteArray.size];rw[Yd9 (by simp)]
theorem Zcx (l:By):(ba l).size=l.length:=by simp[ba,ByteArray.size]
end Go.W
