import Derived.Test.YtghnjdpgbldlkaaGreatDoorV
import Derived.WalkKit
import Derived.Deep.AppendLies
import Derived.Deep.Draws
import Derived.Laws.Append
import Derived.Laws.IdiomStrings
import Derived.Laws.OwnMore
import Derived.Test.YtghnjdpgbldlkaaGreatDoorProg
import Derived.WalkLawsBesides
import Derived.WalkSpells
import Derived.Outline
import Derived.BigQuiet
import Derived.Deep.QuietTactic
import Derived.Handy
import Derived.RangeFuncNested
import Derived.RangeFuncLeaves
import Derived.RangeFuncBound
import Derived.RangeFuncCalls
import Derived.Shelf.RegionOpen
import Derived.OwnWalkIn
import Derived.TacticsInMore
import Derived.LoopNIn
import Derived.LoopIn
import Derived.MapKept
import Derived.Deep.RegionWith
set_option linter.defProp false
set_option maxRecDepth 100000
set_option maxHeartbeats 8000000
set_option linter.unusedSimpArgs false
open Go.Proofs Go.RowKit Go.W Tryz
namespace Go.W
variable {w:World}{b o:Nat}{xs:List Int}
structure AC (p:Prop):Prop where
 out:p
def AA {p:Prop}(h:p):AC p:=⟨h⟩
def Qv (w:World) (b o:Nat) (xs:List Int):Prop:=
 ∀ i,i<xs.length->w.cell? ⟨b,o+i,none⟩=some (.int .i64<|xs.getD i 0)/\w.frozen? ⟨b,o+i,none⟩=false
def Qv.cell (h:Qv w b o xs)(i:Nat)(hi:i<xs.length):w.cell? ⟨b,o+i,none⟩=some (.int .i64<|xs.getD i 0):=(h i hi).1
def Qv.cell0 (h:Qv w b 0 xs)(i:Nat)(hi:i<xs.length):w.cell? ⟨b,i,none⟩=some (.int .i64<|xs.getD i 0):=by
 have:=(h i hi).1;rwa [Hr]at this
def Qv.below {w':World}{B:Nat}(h:Qv w b o xs)(hb:Below B w w')(hl:b<B):Qv w' b o xs:=fun i hi=>
 ⟨by rw[hb.cell (p:=⟨b,o+i,none⟩) hl];exact(h i hi).1,by rw[hb.frozen (p:=⟨b,o+i,none⟩) hl];exact(h i hi).2⟩
def Zq8 (w:World)(a p:Addr)(v:Value):(w.setCell a v).frozen? p=w.frozen? p:=by
 simp
def Qv.set (h:Qv w b 0 xs)(k:Nat)(v:Int)(hk:k<xs.length):Qv (w.setCell ⟨b,k,none⟩<|.int .i64 v) b 0 (xs.set k v):=by
 intro i hi;rw[List.length_set]at hi;have hs:w.cell? ⟨b,k,none⟩=some (.int .i64<|xs.getD k 0):=h.cell0 k hk;refine⟨?_,by rw[Zq8];exact(h i hi).2⟩;rw[Hr];by_cases e:k=i
 ·subst e;rw[World.cell?_setCell_same _ _ _ hs];simp[List.getD_eq_getElem?_getD,hk]
 ·rw[World.cell?_setCell_other _ _ _ _ (by intro q;injection q with _ q2 _;exact e q2)];rw[h.cell0 i hi];simp[List.getD_eq_getElem?_getD,e]
def Qv.drew (h:Qv w b o xs):Qv w.drew b o xs:=h
end Go.W
namespace Go.W
variable {s B B':Nat}{v:Value}{w w':World}
inductive T where
 | mk (k i:Int) (t:ByteArray) (l:List T)
def T.k:T->Int | .mk k _ _ _=>k
def T.i:T->Int | .mk _ i _ _=>i
def T.t:T->ByteArray | .mk _ _ t _=>t
def T.l:T->List T | .mk _ _ _ l=>l
structure A where
 name:ByteArray
 terms:List T
structure G where
 op:Int
 a:T
 b:T
structure R where
 head:A
 body:List A
 guards:List G
structure IV where
 allow:Bool
 either:List R
structure Bk where
 facts:List A
 rules:List R
 checks:List (List R)
def Ey (n:Int):Prop:= -9223372036854775808<=n/\n<=9223372036854775807
structure Ap {α:Type} (s:Nat) (Q:Nat->Nat->α->Prop) (p:Option Addr) (xs:List α):Prop where
 len:xs.length<1000000000
 at_: ∀ i x,xs[i]?=some x-> ∃ b o,p=some ⟨b,o,none⟩/\Q b (o+i*s) x
def PK {α:Type} (s:Nat) (Q:Nat->Nat->α->Prop) (v:Value) (xs:List α):Prop:=
 ∃ p cap,v= .slice p xs.length cap/\xs.length<=cap/\Ap s Q p xs
structure lU (Q:Nat->Nat->T->Prop) (kv iv tv lv:Value) (x:T):Prop where
 k:kv= .int .i64 x.k
 i:iv= .int .i64 x.i
 t:tv= .string x.t
 kr:Ey x.k
 ir:Ey x.i
 tr:x.t.size<1000000000
 l:PK 4 Q lv x.l
def D6 (B:Nat) (w:World):Nat->Nat->Nat->T->Prop
 | 0,_,_,_=>False
 | d+1,b,o,x=>b<B/\ ∃ lv,w.cell? ⟨b,o,none⟩=some (.int .i64 x.k)/\w.cell? ⟨b,o+1,none⟩=some (.int .i64 x.i)/\w.cell? ⟨b,o+2,none⟩=some (.string x.t)/\w.cell? ⟨b,o+3,none⟩=some lv/\
   lU (D6 B w d) (.int .i64 x.k) (.int .i64 x.i) (.string x.t) lv x
def jY (B:Nat) (w:World) (d:Nat) (v:Value) (xs:List T):Prop:=PK 4 (D6 B w d) v xs
structure DX (B:Nat) (w:World) (d:Nat) (b o:Nat) (x:A):Prop where
 blk:b<B
 name:w.cell? ⟨b,o,none⟩=some (.string x.name)
 size:x.name.size<1000000000
 terms: ∃ v,w.cell? ⟨b,o+1,none⟩=some v/\jY B w d v x.terms
def bn (B:Nat) (w:World) (d:Nat) (v:Value) (xs:List A):Prop:=PK 2 (DX B w d) v xs
structure JN (B:Nat) (w:World) (d:Nat) (b o:Nat) (x:G):Prop where
 blk:b<B
 op:w.cell? ⟨b,o,none⟩=some (.int .i64 x.op)
 opr:Ey x.op
 a:D6 B w d b (o+1) x.a
 b:D6 B w d b (o+5) x.b
def iQ (B:Nat) (w:World) (d:Nat) (v:Value) (xs:List G):Prop:=PK 9 (JN B w d) v xs
structure E5 (B:Nat) (w:World) (d:Nat) (b o:Nat) (x:R):Prop where
 blk:b<B
 head:DX B w d b o x.head
 body: ∃ v,w.cell? ⟨b,o+2,none⟩=some v/\bn B w d v x.body
 guards: ∃ v,w.cell? ⟨b,o+3,none⟩=some v/\iQ B w d v x.guards
def ZN (B:Nat) (w:World) (d:Nat) (v:Value) (xs:List R):Prop:=PK 4 (E5 B w d) v xs
structure Qo (B:Nat) (w:World) (d:Nat) (b o:Nat) (x:List R):Prop where
 blk:b<B
 either: ∃ v,w.cell? ⟨b,o,none⟩=some v/\ZN B w d v x
def iR (B:Nat) (w:World) (d:Nat) (v:Value) (xs:List (List R)):Prop:=PK 1 (Qo B w d) v xs
structure Ni (B:Nat) (w:World) (d:Nat) (b o:Nat) (x:IV):Prop where
 blk:b<B
 allow:w.cell? ⟨b,o,none⟩=some (.bool x.allow)
 either: ∃ v,w.cell? ⟨b,o+1,none⟩=some v/\ZN B w d v x.either
def oP (B:Nat) (w:World) (d:Nat) (v:Value) (xs:List IV):Prop:=PK 2 (Ni B w d) v xs
structure Jl (B:Nat) (w:World) (d:Nat) (b o:Nat) (x:Bk):Prop where
 blk:b<B
 facts: ∃ v,w.cell? ⟨b,o,none⟩=some v/\bn B w d v x.facts
 rules: ∃ v,w.cell? ⟨b,o+1,none⟩=some v/\ZN B w d v x.rules
 checks: ∃ v,w.cell? ⟨b,o+2,none⟩=some v/\iR B w d v x.checks
def xA (B:Nat) (w:World) (d:Nat) (v:Value) (xs:List Bk):Prop:=PK 3 (Jl B w d) v xs
def PK.imp {α:Type}{Q Q':Nat->Nat->α->Prop}{xs:List α}(h:PK s Q v xs)(f: ∀ b o x,x∈xs->Q b o x->Q' b o x):PK s Q' v xs:=by
 obtain⟨p,cap,hv,hc,hl,ha⟩:=h;refine⟨p,cap,hv,hc,hl,fun i x hx=>?_⟩;obtain⟨b,o,hp,hq⟩:=ha i x hx;exact⟨b,o,hp,f _ _ _ (U8 hx) hq⟩
structure Dy (B B':Nat) (w w':World):Prop where
 le:B<=B'
 cell: ∀ b o,b<B->w'.cell? ⟨b,o,none⟩=w.cell? ⟨b,o,none⟩
def Below.carry (h:Below B w w')(hB:B<=B'):Dy B B' w w':=⟨hB,fun b o hb=>h.cell (p:=⟨b,o,none⟩) hb⟩
def Dy.up (h:B<=B'):Dy B B' w w:=⟨h,fun _ _ _=>rfl⟩
def lU.imp {Q Q':Nat->Nat->T->Prop}{kv iv tv lv:Value}{x:T}(h:lU Q kv iv tv lv x)(f: ∀ b o y,Q b o y->Q' b o y):lU Q' kv iv tv lv x:=
 ⟨h.k,h.i,h.t,h.kr,h.ir,h.tr,h.l.imp fun b o x _=>f b o x⟩
def D6.carry (c:Dy B B' w w'): ∀ {d d' b o x},d<=d'->D6 B w d b o x->D6 B' w' d' b o x:=by
 intro d;induction d with
 | zero=>intro d' b o x _ h;exact h.elim
 | succ d ih=>
  intro d' b o x hd h;obtain⟨hb,lv,h0,h1,h2,h3,h4⟩:=h;obtain⟨d',rfl⟩: ∃ e,d'=e+1:=⟨d'-1,zx⟩;have cc:=fun o=>c.cell b o hb;exact⟨Ba hb c.le,lv,by rw[cc];exact h0,by rw[cc];exact h1,by rw[cc];exact h2,by rw[cc];exact h3,h4.imp fun b o y=>ih zx⟩
section
variable {B B':Nat} {w w':World} {d d' b o:Nat}
def jY.carry {xs:List T}(c:Dy B B' w w')(hd:d<=d')(h:jY B w d v xs):jY B' w' d' v xs:=h.imp fun _ _ _ _=>D6.carry c hd
def DX.carry {x:A}(c:Dy B B' w w')(hd:d<=d')(h:DX B w d b o x):DX B' w' d' b o x:=by
 obtain⟨hb,h1,h2,v,h3,h4⟩:=h;exact⟨Ba hb c.le,by rw[c.cell _ _ hb];exact h1,h2,v,by rw[c.cell _ _ hb];exact h3,h4.carry c hd⟩
def bn.carry {xs:List A}(c:Dy B B' w w')(hd:d<=d')(h:bn B w d v xs):bn B' w' d' v xs:=h.imp fun _ _ _ _=>DX.carry c hd
def JN.carry {x:G}(c:Dy B B' w w')(hd:d<=d')(h:JN B w d b o x):JN B' w' d' b o x:=by
 obtain⟨hb,h1,h2,h3,h4⟩:=h;exact⟨Ba hb c.le,by rw[c.cell _ _ hb];exact h1,h2,h3.carry c hd,h4.carry c hd⟩
def iQ.carry {xs:List G}(c:Dy B B' w w')(hd:d<=d')(h:iQ B w d v xs):iQ B' w' d' v xs:=h.imp fun _ _ _ _=>JN.carry c hd
def E5.carry {x:R}(c:Dy B B' w w')(hd:d<=d')(h:E5 B w d b o x):E5 B' w' d' b o x:=by
 obtain⟨hb,h1,⟨v,h2,h3⟩,u,h4,h5⟩:=h;exact⟨Ba hb c.le,h1.carry c hd,⟨v,by rw[c.cell _ _ hb];exact h2,h3.carry c hd⟩,u,by rw[c.cell _ _ hb];exact h4,h5.carry c hd⟩
def ZN.carry {xs:List R}(c:Dy B B' w w')(hd:d<=d')(h:ZN B w d v xs):ZN B' w' d' v xs:=h.imp fun _ _ _ _=>E5.carry c hd
def Qo.carry {x:List R}(c:Dy B B' w w')(hd:d<=d')(h:Qo B w d b o x):Qo B' w' d' b o x:=by
 obtain⟨hb,v,h2,h3⟩:=h;exact⟨Ba hb c.le,v,by rw[c.cell _ _ hb];exact h2,h3.carry c hd⟩
def iR.carry {xs:List (List R)}(c:Dy B B' w w')(hd:d<=d')(h:iR B w d v xs):iR B' w' d' v xs:=h.imp fun _ _ _ _=>Qo.carry c hd
def Ni.carry {x:IV}(c:Dy B B' w w')(hd:d<=d')(h:Ni B w d b o x):Ni B' w' d' b o x:=by
 obtain⟨hb,h1,v,h2,h3⟩:=h;exact⟨Ba hb c.le,by rw[c.cell _ _ hb];exact h1,v,by rw[c.cell _ _ hb];exact h2,h3.carry c hd⟩
def oP.carry {xs:List IV}(c:Dy B B' w w')(hd:d<=d')(h:oP B w d v xs):oP B' w' d' v xs:=h.imp fun _ _ _ _=>Ni.carry c hd
def Jl.carry {x:Bk}(c:Dy B B' w w')(hd:d<=d')(h:Jl B w d b o x):Jl B' w' d' b o x:=by
 obtain⟨hb,⟨v,h2,h3⟩,⟨u,h4,h5⟩,q,h6,h7⟩:=h;exact⟨Ba hb c.le,⟨v,by rw[c.cell _ _ hb];exact h2,h3.carry c hd⟩,⟨u,by rw[c.cell _ _ hb];exact h4,h5.carry c hd⟩,q,by rw[c.cell _ _ hb];exact h6,h7.carry c hd⟩
def xA.carry {xs:List Bk}(c:Dy B B' w w')(hd:d<=d')(h:xA B w d v xs):xA B' w' d' v xs:=h.imp fun _ _ _ _=>Jl.carry c hd
end
def Ap.get {α:Type}{Q:Nat->Nat->α->Prop}{p:Option Addr}{xs:List α}(h:Ap s Q p xs)(i:Nat)(hi:i<xs.length): ∃ b o,p=some ⟨b,o,none⟩/\Q b (o+i*s) xs[i]:=h.at_ i xs[i]<|DK hi
end Go.W
namespace Go.W
variable {P:Program}{w:World}{t e:TypeId}{size bytes:Nat}{ops:Array Oper}{o:Oper}{a:Act}{Q:Exit->Act->World->Prop}
def Jk (P:Program) (t e:TypeId) (size bytes:Nat):Prop:=
 ∃ i z,P.underlying t=some (.slice e)/\P.info? e=some i/\i.zero=some z/\i.size=size/\i.bytes=bytes/\z.cells.size=size/\0<size/\bytes<=1000
structure jC (w w1:World) (B:Nat) (e:TypeId) (size:Nat) (v:Value) (g cap n:Nat) (xs:List Value):Prop where
 own:w1.ownsRow B e size (.slice (Qb g 0) n cap) n xs
 grown:w.grownBy w1 v.ownBlock
 spot:v.ownBlock=some g\/g=w.heap.size
 lt:g<w1.heap.size
def Zzv (E:Jk P t e size bytes){rest:List Oper}(hgd:o.guard=none)(s x:Operand)
  (ho:o.op= .call {callee:= .builtin .append,args:=#[s,x],argTypes:=#[t,t]}) (B:Nat) (v:Value) (n:Nat) (xs:List Value) (hs:a.eval s=v) (hown:w.ownsRow B e size v n xs)
  (b:Nat) (cs:Array Value) (et:TypeId) (fr:Nat×Nat) (hx:a.eval x= .slice (Qb b 0) 1 1) (hblk:w.heap[b]?=some (.cells cs et fr)) (hcs:cs.size=size) (h1: ∀ u∈cs.toList,u.oneCell'=true)
  (hn:n<1000000000) (hB:B<=w.heap.size)
  (h: ∀ g cap w1,jC w w1 B e size v g cap (n+1) (xs++cs.toList)->wpList P ops Q rest (a.put o.dst<|.slice (Qb g 0) (n+1) cap) w1):wpList P ops Q (o::rest) a w:=by
 obtain⟨i,z,ht,hi,hz,hsize,hby,hzs,hsz,IJ⟩:=E;have hbytes:(n+1)*bytes<=140737488355328:=by
  have h:(n+1)*bytes<=1000000000*1000:=Nat.mul_le_mul zx IJ;omega
 exact wpList_append_lies w hgd s x t ho B e i z size bytes ht hi hz hsize hby hzs hsz v n xs hs hown ⟨b,0,none⟩ 1 1 cs.toList hx (by simp[hcs]) (World.news_of_block hblk) h1 zx (by unfold maxLen;omega) hbytes hB _ rfl
  fun g cap w1 h2 h3 h4 h5=>h g cap w1 ⟨h2,h3,h4,h5⟩
def Z7g (E:Jk P t e size bytes){K:Act->World->Prop}{F:Prop}(hgd:o.guard=none)(s x:Operand)
  (ho:o.op= .call {callee:= .builtin .append,args:=#[s,x],argTypes:=#[t,t]}) (B:Nat) (v:Value) (n:Nat) (xs:List Value) (hs:a.eval s=v) (hown:w.ownsRow B e size v n xs)
  (b:Nat) (cs:Array Value) (et:TypeId) (fr:Nat×Nat) (hx:a.eval x= .slice (Qb b 0) 1 1) (hblk:w.heap[b]?=some (.cells cs et fr)) (hcs:cs.size=size) (h1: ∀ u∈cs.toList,u.oneCell'=true)
  (hn:n<1000000000) (hB:B<=w.heap.size)
  (h: ∀ g cap w1,jC w w1 B e size v g cap (n+1) (xs++cs.toList)->K (a.put o.dst<|.slice (Qb g 0) (n+1) cap) w1):
  if Region.wanted o (yielded ops a.tmps)=true then Oper.wp P o a w K Q else F:=by
 obtain⟨i,z,ht,hi,hz,hsize,hby,hzs,hsz,IJ⟩:=E;have hbytes:(n+1)*bytes<=140737488355328:=by
  have h:(n+1)*bytes<=1000000000*1000:=Nat.mul_le_mul zx IJ;omega
 exact step_append_lies w hgd s x t ho B e i z size bytes ht hi hz hsize hby hzs hsz v n xs hs hown ⟨b,0,none⟩ 1 1 cs.toList hx (by simp[hcs]) (World.news_of_block hblk) h1 zx (by unfold maxLen;omega) hbytes hB _ rfl
  fun g cap w1 h2 h3 h4 h5=>h g cap w1 ⟨h2,h3,h4,h5⟩
def jC.below {w1 w0:World}{B:Nat}{v:Value}{g cap n m:Nat}{xs ys:List Value}(h:jC w w1 B e size v g cap n xs)(hown:w.ownsRow B e size v m ys)(hb:Below B w0 w)(hB:B<=w.heap.size):Below B w0 w1:=
 hb.grown h.grown hB fun k hk=>(hown.lt k hk).1
def IC (w:World)(o:Obj):(w.alloc o).heap[w.heap.size]?=some o:=heap_alloc_new w o
end Go.W
namespace Go.W
variable {w w':World}{g cap:Nat}{bs:List Nat}
structure ZX (w:World) (g cap:Nat) (bs:List Nat):Prop where
 lt:g<w.heap.size
 le:bs.length<=cap
 cells: ∀ i,i<cap-> ∃ v,w.cell? ⟨g,i,none⟩=some v/\w.frozen? ⟨g,i,none⟩=false
 byte: ∀ i,i<bs.length->w.cell? ⟨g,i,none⟩=some (.int .u8 ((bs.getD i 0:Nat):Int))
 small: ∀ i,bs.getD i 0<256
def ZX.kept (h:ZX w g cap bs)(hb:w'.heap[g]?=w.heap[g]?):ZX w' g cap bs where
 lt:=by
  rcases QL g w'.heap.size with hl | hl
  ·exact hl
  ·rw[Zm hl,Array.getElem?_eq_getElem h.lt]at hb;cases hb
 le:=h.le
 cells:=fun i hi=>by
  obtain⟨v,h1,h2⟩:=h.cells i hi;exact⟨v,by rw[Am (w:=w) hb];exact h1,by rw[Xj (w:=w) hb];exact h2⟩
 byte:=fun i hi=>by rw[Am (w:=w) hb];exact h.byte i hi
 small:=h.small
def ZX.below {B:Nat}(h:ZX w g cap bs)(hb:Below B w w')(hl:g<B):ZX w' g cap bs:=h.kept<|hb.block g hl
end Go.W
namespace Go.W
def Ab (s:ByteArray):List Nat:=s.data.toList.map UInt8.toNat
def Xg (s:ByteArray):(Ab s).length=s.size:=by simp[Ab]
def Zs7 (s:ByteArray): ∀ i,(Ab s).getD i 0<256:=by
 intro i;simp only[Ab,List.getD_eq_getElem?_getD,Jq];cases s.data.toList[i]? with
 | none=>simp
 | some b=>simpa using b.toNat_lt
structure Z4e (w w1:World) (g g1 Qe:Nat) (bs:List Nat):Prop where
 row:ZX w1 g1 Qe bs
 grown:w.grownBy w1 (some g)
 spot:g1=g\/g1=w.heap.size
def Z4e.below {w w1 w0:World}{B g g1 Qe:Nat}{bs:List Nat}(h:Z4e w w1 g g1 Qe bs)(hb:Below B w0 w)(hg:B<=g)(hB:B<=w.heap.size):Below B w0 w1:=
 hb.grown h.grown hB fun k hk=>by cases hk;exact hg
end Go.W
namespace Go.W
def Dr (c:Nat):Bool:=decide (48<=c) && decide (c<=57)
def Jm (c:Nat):Bool:=decide (97<=c) && decide (c<=122)
def EX (c:Nat):Bool:=Jm c || Dr c || decide (c=95)
def Rq (bs:List Nat) (i:Nat):Bool:=Jm (bs.getD i 0) || (decide (i≠0) && (Dr (bs.getD i 0) || decide (bs.getD i 0=95)))
def En (t:ByteArray):Bool:=decide (∀ i,i<t.size->Rq (Ab t) i=true) && decide (1<=t.size) && decide (t.size<=16)
def EF {α:Type} (f:α->Int):List α->Int
 | []=>0
 | x::r=>if f x≠0 then f x else EF f r
def Z85 (t:T):Bool:=decide<|t.k=1
def b1 (n:Nat):ByteArray:=⟨#[UInt8.ofNat n]⟩
def cat {α:Type} (f:α->ByteArray):List α->ByteArray
 | []=>ByteArray.empty
 | x::r=>f x++cat f r
def Kz:Nat->Nat->ByteArray
 | 0,n=>b1 n
 | f+1,n=>if 128<=n then b1 (n % 128+128)++Kz f (n / 128)else b1 n
def Dm (n:Nat):ByteArray:=Kz 10 n
def GH (t:ByteArray):ByteArray:=Dm t.size++t
def Pv (i:Int):Nat:=if i<0 then(-2*i-1).toNat else(2*i).toNat
mutual
def Ci:T->ByteArray
 | .mk k i t l=>b1 (k % 256).toNat++(if k=2\/k=5 then Dm (Pv i)else if k=6 then b1 (i % 256).toNat else if k=7 then Dm l.length++jT l else GH t)
def jT:List T->ByteArray
 | []=>ByteArray.empty
 | x::r=>Ci x++jT r
end
def Z05 (l:List T):jT l=cat Ci l:=by
 induction l with
 | nil=>simp[jT,cat]
 | cons x r ih=>simp[jT,cat,ih]
def BZ {α:Type} (f:α->ByteArray) (l:List α):ByteArray:=Dm l.length++cat f l
def uA (x:T):Ci x=b1 (x.k % 256).toNat++(if x.k=2\/x.k=5 then Dm (Pv x.i)else if x.k=6 then b1 (x.i % 256).toNat else if x.k=7 then BZ Ci x.l else GH x.t):=by
 cases x;rw[Ci,Z05];rfl
def Hy (a:A):ByteArray:=GH a.name++BZ Ci a.terms
def QI (g:G):ByteArray:=b1 (g.op % 256).toNat++Ci g.a++Ci g.b
def JM (r:R):ByteArray:=BZ Hy r.body++BZ QI r.guards
def QH (r:R):ByteArray:=Hy r.head++JM r
def JI (b:Bk):ByteArray:=BZ Hy b.facts++BZ QH b.rules++BZ (BZ JM) b.checks
def FH (op:Int):ByteArray:=
 if op=1 then⟨#[61,61]⟩else if op=2 then⟨#[33,61]⟩else if op=3 then⟨#[60]⟩else if op=4 then⟨#[60,61]⟩else if op=5 then⟨#[62]⟩else if op=6 then⟨#[62,61]⟩else if op=7 then⟨#[94,61]⟩else⟨#[]⟩
def PG:ByteArray:=⟨#[59,10]⟩
end Go.W
namespace Go.W
abbrev Rd (α:Type):=Nat->Except Int (α×Nat)
def Rd.then {α β:Type} (f:Rd α) (g:α->Rd β):Rd β:=fun p=>match f p with
 | .error e=> .error e
 | .ok (x,q)=>g x q
end Go.W
namespace Go.W
structure Tok where
 kind:Nat
 text:ByteArray
 num:Int
 at_:Nat
def QD (c:Nat):Bool:=decide (c=32) || decide (c=9) || decide (c=10) || decide (c=13)
def G7 (c:Nat):Bool:=Dr c || (decide (97<=c) && decide (c<=102))
section
variable (bs:List Nat)
def OY (ok:Nat->Bool):Nat->Nat->Nat
 | 0,p=>p
 | f+1,p=>if p<bs.length/\ok (bs.getD p 0)=true then OY ok f (p+1)else p
def Cm (ok:Nat->Bool) (p:Nat):Nat:=OY bs ok (bs.length-p) p
def Qh:Nat->Nat->Nat
 | 0,p=>p
 | f+1,p=>if p<bs.length/\QD (bs.getD p 0)=true then Qh f (p+1)
   else if p+1<bs.length/\bs.getD p 0=47/\bs.getD (p+1) 0=47 then Qh f (Cm bs (fun c=>decide (c≠10)) p)else p
def IP (p:Nat):Nat:=Qh bs (bs.length-p) p
end
section
variable (t:ByteArray)
def PM:List ByteArray:=[⟨#[60,45]⟩,⟨#[60,61]⟩,⟨#[62,61]⟩,⟨#[61,61]⟩,⟨#[33,61]⟩,⟨#[94,61]⟩,⟨#[60]⟩,⟨#[62]⟩,⟨#[40]⟩,⟨#[41]⟩,⟨#[91]⟩,⟨#[93]⟩,⟨#[44]⟩,⟨#[59]⟩]
abbrev Ps (α:Type):=Tok×Nat->Except (Int×Nat) (α×(Tok×Nat))
def Ps.then {α β:Type} (f:Ps α) (g:α->Ps β):Ps β:=fun s=>match f s with
 | .error e=> .error e
 | .ok (x,r)=>g x r
def X8 (m:ByteArray) (s:Tok×Nat):Bool:=(decide (s.1.kind=109) || decide (s.1.kind=110)) && decide (s.1.text=m)
def QE (s:Tok×Nat):Int:=if X8 (FH 1) s then 1 else if X8 (FH 2) s then 2 else if X8 (FH 3) s then 3 else if X8 (FH 4) s then 4 else if X8 (FH 5) s then 5 else if X8 (FH 6) s then 6 else if X8 (FH 7) s then 7 else 0
end
end Go.W
namespace Go.W
variable {a b c d v:Value}{w w':World}{B B':Nat}{F:List Nat}{x:T}
def AJ (w:World) (L:Nat) (cs:Array Value) (e:TypeId):Prop:=w.heap[L]?=some (.cells cs e (0,0))
section
variable {w w':World} {L:Nat} {cs:Array Value} {e:TypeId}
def AJ.lt (h:AJ w L cs e):L<w.heap.size:=(IU.1 h).1
def AJ.cell (h:AJ w L cs e)(j:Nat):w.cell? ⟨L,j,none⟩=cs[j]?:=cell_of_row w L j cs e (0,0) h
def AJ.soft (h:AJ w L cs e)(j:Nat):w.frozen? ⟨L,j,none⟩=false:=by
 unfold AJ at h;simp[World.frozen?,h]
def AJ.of (h:AJ w L cs e)(k:w'.heap[L]?=w.heap[L]?):AJ w' L cs e:=k.trans h
def AJ.set (h:AJ w L cs e)(j:Nat)(v:Value):AJ (w.setCell ⟨L,j,none⟩ v) L (cs.setIfInBounds j v) e:=heap_setCell_same w L j cs e v h
def AJ.away (h:AJ w L cs e)(b o:Nat)(hne:L≠b)(v:Value):AJ (w.setCell ⟨b,o,none⟩ v) L cs e:=h.of<|Au w _ v L hne
def AJ.alloc (h:AJ w L cs e)(o:Obj):AJ (w.alloc o) L cs e:=h.of<|Ah w o L h.lt
def AJ.new (w:World)(cs:Array Value)(e:TypeId):AJ (w.alloc<|.cells cs e) w.heap.size cs e:=heap_alloc_new w _
def AJ.one (h:AJ w L #[a] e):w.cell? ⟨L,0,none⟩=some a/\ ∀ j,w.frozen? ⟨L,j,none⟩=false:=⟨h.cell 0,h.soft⟩
def AJ.two (h:AJ w L #[a,b] e):w.cell? ⟨L,0,none⟩=some a/\w.cell? ⟨L,1,none⟩=some b/\ ∀ j,w.frozen? ⟨L,j,none⟩=false:=⟨h.cell 0,h.cell 1,h.soft⟩
def AJ.three (h:AJ w L #[a,b,c] e):w.cell? ⟨L,0,none⟩=some a/\w.cell? ⟨L,1,none⟩=some b/\w.cell? ⟨L,2,none⟩=some c/\ ∀ j,w.frozen? ⟨L,j,none⟩=false:=⟨h.cell 0,h.cell 1,h.cell 2,h.soft⟩
def AJ.four (h:AJ w L #[a,b,c,d] e):w.cell? ⟨L,0,none⟩=some a/\w.cell? ⟨L,1,none⟩=some b/\w.cell? ⟨L,2,none⟩=some c/\w.cell? ⟨L,3,none⟩=some d/\ ∀ j,w.frozen? ⟨L,j,none⟩=false:=⟨h.cell 0,h.cell 1,h.cell 2,h.cell 3,h.soft⟩
def AJ.nine {e1 f g i j:Value}(h:AJ w L #[a,b,c,d,e1,f,g,i,j] e):w.cell? ⟨L,0,none⟩=some a/\w.cell? ⟨L,1,none⟩=some b/\w.cell? ⟨L,2,none⟩=some c/\w.cell? ⟨L,3,none⟩=some d/\w.cell? ⟨L,4,none⟩=some e1/\w.cell? ⟨L,5,none⟩=some f/\w.cell? ⟨L,6,none⟩=some g/\w.cell? ⟨L,7,none⟩=some i/\w.cell? ⟨L,8,none⟩=some j/\ ∀ j,w.frozen? ⟨L,j,none⟩=false:=
 ⟨h.cell 0,h.cell 1,h.cell 2,h.cell 3,h.cell 4,h.cell 5,h.cell 6,h.cell 7,h.cell 8,h.soft⟩
def AJ.dr (h:AJ w L cs e)(n:Nat):AJ (w.drewN n) L cs e:=h
end
structure Q8 where
 term:TypeId
 atom:TypeId
 guard:TypeId
 rule:TypeId
 check:TypeId
 pol:TypeId
abbrev D9 (α:Type):=World->List Value->α->List Nat->Prop
def IB {α:Type} (Q:D9 α):Prop:= ∀ w w' vs x F,Q w vs x F->(∀ k,k∈F->w'.heap[k]?=w.heap[k]?)->Q w' vs x F
def AO {α:Type} (e:TypeId) (s:Nat) (Q:D9 α) (w:World) (v:Value) (xs:List α) (F:List Nat):Prop:=
 ∃ zs:List (List Value×α×List Nat),w.ownsRow 0 e s v zs.length (zs.map (·.1)).flatten/\(∀ z,z∈zs->z.1.length=s/\Q w z.1 z.2.1 z.2.2)/\xs=zs.map (·.2.1)/\F=v.ownBlock.toList++(zs.map (·.2.2)).flatten/\zs.length<1000000000
section
variable {α:Type} {e:TypeId} {s:Nat} {Q:D9 α} {w w':World} {v:Value} {xs:List α} {F:List Nat}
def AO.nil:AO e s Q w (.slice none 0 0) [] []:=⟨[],World.ownsRow_nil w 0 e s,fun _ h=>(by cases h),rfl,rfl,zw⟩
def AO.len (h:AO e s Q w v xs F):xs.length<1000000000:=by
 obtain⟨zs,_,_,rfl,_,h⟩:=h;simpa using h
def AO.form (h:AO e s Q w v xs F): ∃ p cap,v= .slice p xs.length cap:=by
 obtain⟨zs,ho,_,rfl,_,_⟩:=h;rcases ho.2 with⟨rfl,h0⟩ | ⟨g,cap,cur,rfl,_⟩
 ·exact⟨none,0,by simp[h0]⟩
 ·exact⟨some ⟨g,0,none⟩,cap,zw⟩
def AO.one (h:AO e s Q w v xs F):v.oneCell'=true:=by
 obtain⟨p,cap,rfl⟩:=h.form;rfl
def AO.lt (h:AO e s Q w v xs F)(hQ: ∀ vs x G,Q w vs x G-> ∀ k,k∈G->k<w.heap.size): ∀ k,k∈F->k<w.heap.size:=by
 obtain⟨zs,ho,hz,rfl,rfl,_⟩:=h;intro k hk;rcases CY.1 hk with hk | hk
 ·exact(ho.lt k (by simpa using hk)).2
 ·obtain⟨l,hl,hkl⟩:=List.mem_flatten.1 hk;obtain⟨z,hz1,rfl⟩:=List.mem_map.1 hl;exact hQ _ _ _ (hz z hz1).2 k hkl
def Z2z {n:Nat}{vs:List Value}(h:w.ownsRow B e s v n vs)(hb: ∀ k,v.ownBlock=some k->w'.heap[k]?=w.heap[k]?):w'.ownsRow B e s v n vs:=by
 refine⟨h.1,?_⟩;rcases h.2 with h2 | ⟨g,cap,cur,rfl,h1,h2,h3⟩
 ·exact .inl h2
 ·exact .inr ⟨g,cap,cur,rfl,h1,by rw[hb g rfl];exact h2,h3⟩
def AO.keep {Q':D9 α}(h:AO e s Q w v xs F)(hb: ∀ k,k∈F->w'.heap[k]?=w.heap[k]?)(f: ∀ vs x G,(∀ k,k∈G->k∈F)->x∈xs->Q w vs x G->Q' w' vs x G):AO e s Q' w' v xs F:=by
 obtain⟨zs,ho,hz,rfl,rfl,hl⟩:=h;refine⟨zs,Z2z ho fun k hk=>hb k (by simp[hk]),fun z hm=>⟨(hz z hm).1,f _ _ _ (fun k hk=>?_) (List.mem_map.2 ⟨z,hm,rfl⟩) (hz z hm).2⟩,rfl,rfl,hl⟩;exact UH _<|List.mem_flatten.2 ⟨z.2.2,List.mem_map.2 ⟨z,hm,rfl⟩,hk⟩
def AO.stable (hQ:IB Q): ∀ w w' v xs F,AO e s Q w v xs F->(∀ k,k∈F->w'.heap[k]?=w.heap[k]?)->AO e s Q w' v xs F:=by
 intro w w' v xs F h hb;exact h.keep hb fun vs x G hG _ hq=>hQ w w' vs x G hq fun k hk=>hb k (hG k hk)
end
structure Af (B:Nat) (w:World) (F:List Nat):Prop where
 once:F.Nodup
 ge: ∀ k,k∈F->B<=k
 lt: ∀ k,k∈F->k<w.heap.size
def Af.nil (B:Nat)(w:World):Af B w []:=⟨List.nodup_nil,fun _ h=>(by cases h),fun _ h=>(by cases h)⟩
def Af.later (h:Af B w F)(hB:B'<=B)(hs:w.heap.size<=w'.heap.size):Af B' w' F:=⟨h.once,fun k hk=>AU hB (h.ge k hk),fun k hk=>Ba (h.lt k hk) hs⟩
def Af.append {G:List Nat}(h:Af B w F)(k:Af B' w' G)(hB:B<=B')(hs:w.heap.size<=B')(hw:w.heap.size<=w'.heap.size):Af B w' (F++G):=
 ⟨Qy.2 ⟨h.once,k.once,fun a ha b hb e=>by have:=h.lt a ha;have:=k.ge b hb;omega⟩,
  fun a ha=>(CY.1 ha).elim (h.ge a) fun q=>AU hB (k.ge a q),fun a ha=>(CY.1 ha).elim (fun q=>Ba (h.lt a q) hw) (k.lt a)⟩
section
variable (ty:Q8)
def BH:Nat->D9 T
 | 0=>fun _ _ _ _=>False
 | d+1=>fun w vs x F=> ∃ lv,vs=[.int .i64 x.k,.int .i64 x.i,.string x.t,lv]/\Ey x.k/\Ey x.i/\x.t.size<1000000000/\AO ty.term 4 (BH d) w lv x.l F
def Vz (d:Nat):World->Value->List T->List Nat->Prop:=AO ty.term 4<|BH ty d
def Bo (d:Nat):D9 A:=fun w vs x F=> ∃ tv,vs=[.string x.name,tv]/\x.name.size<1000000000/\Vz ty d w tv x.terms F
def MR (d:Nat):World->Value->List A->List Nat->Prop:=AO ty.atom 2<|Bo ty d
def Ee (d:Nat):D9 G:=fun w vs x F=> ∃ va vb Fa Fb,vs= .int .i64 x.op::(va++vb)/\Ey x.op/\BH ty d w va x.a Fa/\BH ty d w vb x.b Fb/\F=Fa++Fb
def Tj (d:Nat):World->Value->List G->List Nat->Prop:=AO ty.guard 9<|Ee ty d
def Cj (d:Nat):D9 R:=fun w vs x F=> ∃ hv bv gv Fh Fb Fg,vs=hv++[bv,gv]/\Bo ty d w hv x.head Fh/\MR ty d w bv x.body Fb/\Tj ty d w gv x.guards Fg/\F=Fh++(Fb++Fg)
def Rh (d:Nat):World->Value->List R->List Nat->Prop:=AO ty.rule 4<|Cj ty d
def Eo (d:Nat):D9 (List R):=fun w vs x F=> ∃ v,vs=[v]/\Rh ty d w v x F
def Xb (d:Nat):World->Value->List (List R)->List Nat->Prop:=AO ty.check 1<|Eo ty d
def EA (d:Nat):D9 IV:=fun w vs x F=> ∃ v,vs=[.bool x.allow,v]/\Rh ty d w v x.either F
def jZ (d:Nat):World->Value->List IV->List Nat->Prop:=AO ty.pol 2<|EA ty d
def Dq (d:Nat):D9 Bk:=fun w vs x F=> ∃ fv rv cv F1 F2 F3,vs=[fv,rv,cv]/\MR ty d w fv x.facts F1/\Rh ty d w rv x.rules F2/\Xb ty d w cv x.checks F3/\F=F1++(F2++F3)
end
section
variable {ty:Q8} {d d':Nat} {w w':World} {vs:List Value} {F:List Nat}
def BH.up: ∀ {d d':Nat} {w:World} {vs x F},d<=d'->BH ty d w vs x F->BH ty d' w vs x F:=by
 intro d;induction d with
 | zero=>intro d' w vs x F _ h;exact h.elim
 | succ d ih=>
  intro d' w vs x F hd h;obtain⟨d',rfl⟩: ∃ e,d'=e+1:=⟨d'-1,zx⟩;obtain⟨lv,h1,h2,h3,h4,h5⟩:=h;exact⟨lv,h1,h2,h3,h4,h5.keep (fun _ _=>rfl) fun vs x G _ _ q=>ih zx q⟩
def BH.stable: ∀ d,IB (BH ty d):=by
 intro d;induction d with
 | zero=>intro w w' vs x F h;exact h.elim
 | succ d ih=>
  intro w w' vs x F h hb;obtain⟨lv,h1,h2,h3,h4,h5⟩:=h;exact⟨lv,h1,h2,h3,h4,AO.stable ih _ _ _ _ _ h5 hb⟩
def Vz.stable {xs:List T}(h:Vz ty d w v xs F)(hb: ∀ k,k∈F->w'.heap[k]?=w.heap[k]?):Vz ty d w' v xs F:=AO.stable (BH.stable d) _ _ _ _ _ h hb
def Bo.stable (d:Nat):IB (Bo ty d):=by
 intro w w' vs x F h hb;obtain⟨tv,h1,h2,h3⟩:=h;exact⟨tv,h1,h2,h3.stable hb⟩
def MR.stable {xs:List A}(h:MR ty d w v xs F)(hb: ∀ k,k∈F->w'.heap[k]?=w.heap[k]?):MR ty d w' v xs F:=AO.stable (Bo.stable d) _ _ _ _ _ h hb
def Ee.stable (d:Nat):IB (Ee ty d):=by
 intro w w' vs x F h hb;obtain⟨va,vb,Fa,Fb,h1,h2,h3,h4,rfl⟩:=h;exact⟨va,vb,Fa,Fb,h1,h2,BH.stable d _ _ _ _ _ h3 fun k hk=>hb k (UF _ hk),BH.stable d _ _ _ _ _ h4 fun k hk=>hb k (UH _ hk),rfl⟩
def Tj.stable {xs:List G}(h:Tj ty d w v xs F)(hb: ∀ k,k∈F->w'.heap[k]?=w.heap[k]?):Tj ty d w' v xs F:=AO.stable (Ee.stable d) _ _ _ _ _ h hb
def Cj.stable (d:Nat):IB (Cj ty d):=by
 intro w w' vs x F h hb;obtain⟨hv,bv,gv,Fh,Fb,Fg,h1,h2,h3,h4,rfl⟩:=h;exact⟨hv,bv,gv,Fh,Fb,Fg,h1,Bo.stable d _ _ _ _ _ h2 fun k hk=>hb k (by simp[hk]),h3.stable fun k hk=>hb k (by simp[hk]),h4.stable fun k hk=>hb k (by simp[hk]),rfl⟩
def Rh.stable {xs:List R}(h:Rh ty d w v xs F)(hb: ∀ k,k∈F->w'.heap[k]?=w.heap[k]?):Rh ty d w' v xs F:=AO.stable (Cj.stable d) _ _ _ _ _ h hb
def Eo.stable (d:Nat):IB (Eo ty d):=by
 intro w w' vs x F h hb;obtain⟨v,h1,h2⟩:=h;exact⟨v,h1,h2.stable hb⟩
def Xb.stable {xs:List (List R)}(h:Xb ty d w v xs F)(hb: ∀ k,k∈F->w'.heap[k]?=w.heap[k]?):Xb ty d w' v xs F:=AO.stable (Eo.stable d) _ _ _ _ _ h hb
def EA.stable (d:Nat):IB (EA ty d):=by
 intro w w' vs x F h hb;obtain⟨v,h1,h2⟩:=h;exact⟨v,h1,h2.stable hb⟩
def jZ.stable {xs:List IV}(h:jZ ty d w v xs F)(hb: ∀ k,k∈F->w'.heap[k]?=w.heap[k]?):jZ ty d w' v xs F:=AO.stable (EA.stable d) _ _ _ _ _ h hb
def Dq.stable (d:Nat):IB (Dq ty d):=by
 intro w w' vs x F h hb;obtain⟨fv,rv,cv,F1,F2,F3,h1,h2,h3,h4,rfl⟩:=h;exact⟨fv,rv,cv,F1,F2,F3,h1,h2.stable fun k hk=>hb k (by simp[hk]),h3.stable fun k hk=>hb k (by simp[hk]),h4.stable fun k hk=>hb k (by simp[hk]),rfl⟩
def BH.len (h:BH ty d w vs x F):vs.length=4:=by
 cases d with
 | zero=>exact h.elim
 | succ d=>obtain⟨lv,rfl,_⟩:=h;rfl
def BH.one (h:BH ty d w vs x F): ∀ u,u∈vs->u.oneCell'=true:=by
 cases d with
 | zero=>exact h.elim
 | succ d=>
  obtain⟨lv,rfl,_,_,_,h5⟩:=h
  have:=h5.one
  intro u hu;simp only[Be,SA,or_false]at hu;rcases hu with rfl | rfl | rfl | rfl <;> first | rfl | exact this
def Bo.one {x:A}(h:Bo ty d w vs x F): ∀ u,u∈vs->u.oneCell'=true:=by
 obtain⟨tv,rfl,_,h3⟩:=h
 have:=AO.one h3
 intro u hu;simp only[Be,SA,or_false]at hu;rcases hu with rfl | rfl <;> first | rfl | exact this
def Ee.one {x:G}(h:Ee ty d w vs x F): ∀ u,u∈vs->u.oneCell'=true:=by
 obtain⟨va,vb,Fa,Fb,rfl,_,h3,h4,_⟩:=h;intro u hu;simp only[Be,CY]at hu;rcases hu with rfl | hu | hu
 ·rfl
 ·exact h3.one u hu
 ·exact h4.one u hu
def Cj.one {x:R}(h:Cj ty d w vs x F): ∀ u,u∈vs->u.oneCell'=true:=by
 obtain⟨hv,bv,gv,Fh,Fb,Fg,rfl,h2,h3,h4,_⟩:=h;have a3:=AO.one h3;have a4:=AO.one h4;intro u hu;simp only[CY,Be,SA,or_false]at hu;rcases hu with hu | rfl | rfl
 ·exact h2.one u hu
 ·exact a3
 ·exact a4
def Eo.one {x:List R}(h:Eo ty d w vs x F): ∀ u,u∈vs->u.oneCell'=true:=by
 obtain⟨v,rfl,h2⟩:=h
 have:=AO.one h2
 intro u hu;simp only[Be,SA,or_false]at hu;rw[hu];exact this
def EA.one {x:IV}(h:EA ty d w vs x F): ∀ u,u∈vs->u.oneCell'=true:=by
 obtain⟨v,rfl,h2⟩:=h
 have:=AO.one h2
 intro u hu;simp only[Be,SA,or_false]at hu;rcases hu with rfl | rfl
 ·rfl
 ·exact this
def BH.lt: ∀ {d:Nat} {vs x F},BH ty d w vs x F-> ∀ k,k∈F->k<w.heap.size:=by
 intro d;induction d with
 | zero=>intro vs x F h;exact h.elim
 | succ d ih=>
  intro vs x F h;obtain⟨lv,_,_,_,_,h5⟩:=h;exact h5.lt fun vs x G q=>ih q
end
end Go.W
namespace Go.W
variable {B d b o s:Nat}{v:Value}{F:List Nat}{vs:List Value}{x:A}{e:TypeId}{w:World}
def Yb2 {α:Type}(s:Nat): ∀ (zs:List (List Value×α×List Nat)) (_: ∀ z,z∈zs->z.1.length=s) (i:Nat) (z:List Value×α×List Nat) (_:zs[i]?=some z) (j:Nat) (_:j<s),((zs.map (·.1)).flatten)[i*s+j]?=z.1[j]?:=by
 intro zs;induction zs with
 | nil=>intro _ i z hz;simp at hz
 | cons y r ih=>
  intro hl i z hz j hj;have hy:=hl y<|List.mem_cons_self ..;simp only[List.map_cons,List.flatten_cons];cases i with
  | zero=>
   simp at hz;subst hz;rw[Ol,Hr,Q0 zx]
  | succ i=>
   rw[Q7 (by rw[Nat.succ_mul];omega),hy,show(i+1)*s+j-s=i*s+j from by rw[Nat.succ_mul];omega];exact ih (fun z hz=>hl z (List.mem_cons_of_mem _ hz)) i z (by simpa using hz) j hj
section
variable {α:Type} {e:TypeId} {s:Nat} {Q:D9 α} {w w':World} {v:Value} {xs:List α} {F:List Nat}
def AO.rowOf {Q':Nat->Nat->α->Prop}(h:AO e s Q w v xs F)(hF: ∀ k,k∈F->k<B)
  (f: ∀ b o vs x G,(∀ j,j<s->w.cell? ⟨b,o+j,none⟩=vs[j]?)->b<B->(∀ k,k∈G->k<B)->Q w vs x G->Q' b o x):PK s Q' v xs:=by
 obtain⟨zs,ho,hz,rfl,rfl,hl⟩:=h;rcases ho.2 with⟨rfl,h0⟩ | ⟨g,cap,cur,rfl,_,hg,hle,_⟩
 ·have:zs=[]:=List.length_eq_zero_iff.1 h0
  subst this;exact⟨none,0,rfl,JB _,zw,fun i x hx=>by simp at hx⟩
 ·refine⟨some ⟨g,0,none⟩,cap,zw,by simpa using hle,by simpa using hl,fun i x hx=>?_⟩;rw[Jq]at hx;obtain⟨z,X9,rfl⟩:=SE.1 hx;have hm:=U8 X9;have hi:=(Gl.1 X9).1;refine⟨g,0,rfl,f g (0+i*s) z.1 z.2.1 z.2.2 (fun j hj=>?_) (hF g (by simp[Value.ownBlock])) (fun k hk=>hF k (UH _<|List.mem_flatten.2 ⟨z.2.2,List.mem_map.2 ⟨z,hm,rfl⟩,hk⟩)) (hz z hm).2⟩;have hb:i*s+j<zs.length*s:=by
   have:(i+1)*s<=zs.length*s:=Nat.mul_le_mul_right s zx
   rw[Nat.succ_mul]at this;omega
  rw[Hr,ho.cellAt (i*s+j) hb];exact Yb2 s zs (fun z pq=>(hz z pq).1) i z X9 j hj
end
section
variable {ty:Q8} {w:World} {B:Nat}
def BH.at_: ∀ {d:Nat} {vs x F b o},BH ty d w vs x F->(∀ k,k∈F->k<B)->b<B->(∀ j,j<4->w.cell? ⟨b,o+j,none⟩=vs[j]?)->D6 B w d b o x:=by
 intro d;induction d with
 | zero=>intro vs x F b o h;exact h.elim
 | succ d ih=>
  intro vs x F b o h hF hb hc;obtain⟨lv,rfl,h2,h3,h4,h5⟩:=h;exact⟨hb,lv,hc 0 zx,hc 1 zx,hc 2 zx,hc 3 zx,rfl,rfl,rfl,h2,h3,h4,h5.rowOf hF fun _ _ _ _ _ hcc IJ hG q=>ih q hG IJ hcc⟩
def Vz.JR {xs:List T}(h:Vz ty d w v xs F)(hF: ∀ k,k∈F->k<B):jY B w d v xs:=
 AO.rowOf h hF fun _ _ _ _ _ hcc IJ hG q=>BH.at_ q hG IJ hcc
def Bo.at_ (h:Bo ty d w vs x F)(hF: ∀ k,k∈F->k<B)(hb:b<B)(hc: ∀ j,j<2->w.cell? ⟨b,o+j,none⟩=vs[j]?):DX B w d b o x:=by
 obtain⟨tv,rfl,h2,h3⟩:=h;exact⟨hb,hc 0 zx,h2,tv,hc 1 zx,h3.JR hF⟩
def MR.JR {xs:List A}(h:MR ty d w v xs F)(hF: ∀ k,k∈F->k<B):bn B w d v xs:=
 AO.rowOf h hF fun _ _ _ _ _ hcc IJ hG q=>Bo.at_ q hG IJ hcc
def Ee.at_ {x:G}(h:Ee ty d w vs x F)(hF: ∀ k,k∈F->k<B)(hb:b<B)(hc: ∀ j,j<9->w.cell? ⟨b,o+j,none⟩=vs[j]?):JN B w d b o x:=by
 obtain⟨va,vb,Fa,Fb,rfl,h2,h3,h4,rfl⟩:=h;have la:=h3.len;have lb:=h4.len;refine⟨hb,hc 0 zx,h2,h3.at_ (fun k hk=>hF k (by simp[hk])) hb fun j hj=>?_,h4.at_ (fun k hk=>hF k (by simp[hk])) hb fun j hj=>?_⟩
 ·rw[show o+1+j=o+(1+j)from zx,hc (1+j) zx,show 1+j=j+1 from zx,List.getElem?_cons_succ,Q0 zx]
 ·rw[show o+5+j=o+(5+j)from zx,hc (5+j) zx,show 5+j=4+j+1 from zx,List.getElem?_cons_succ,Q7 zx,la,show 4+j-4=j from zx]
def Tj.JR {xs:List G}(h:Tj ty d w v xs F)(hF: ∀ k,k∈F->k<B):iQ B w d v xs:=
 AO.rowOf h hF fun _ _ _ _ _ hcc IJ hG q=>Ee.at_ q hG IJ hcc
def Bo.len (h:Bo ty d w vs x F):vs.length=2:=by
 obtain⟨tv,rfl,_⟩:=h;rfl
def Cj.at_ {x:R}(h:Cj ty d w vs x F)(hF: ∀ k,k∈F->k<B)(hb:b<B)(hc: ∀ j,j<4->w.cell? ⟨b,o+j,none⟩=vs[j]?):E5 B w d b o x:=by
 obtain⟨hv,bv,gv,Fh,Fb,Fg,rfl,h2,h3,h4,rfl⟩:=h;have lh:=h2.len;refine⟨hb,h2.at_ (fun k hk=>hF k (by simp[hk])) hb fun j hj=>?_,⟨bv,?_,h3.JR fun k hk=>hF k (by simp[hk])⟩,gv,?_,h4.JR fun k hk=>hF k (by simp[hk])⟩
 ·rw[hc j zx,Q0 zx]
 ·rw[hc 2 zx,Q7 zx,lh];rfl
 ·rw[hc 3 zx,Q7 zx,lh];rfl
def Rh.JR {xs:List R}(h:Rh ty d w v xs F)(hF: ∀ k,k∈F->k<B):ZN B w d v xs:=
 AO.rowOf h hF fun _ _ _ _ _ hcc IJ hG q=>Cj.at_ q hG IJ hcc
def Eo.at_ {x:List R}(h:Eo ty d w vs x F)(hF: ∀ k,k∈F->k<B)(hb:b<B)(hc: ∀ j,j<1->w.cell? ⟨b,o+j,none⟩=vs[j]?):Qo B w d b o x:=by
 obtain⟨v,rfl,h2⟩:=h;exact⟨hb,v,hc 0 zx,h2.JR hF⟩
def Xb.JR {xs:List (List R)}(h:Xb ty d w v xs F)(hF: ∀ k,k∈F->k<B):iR B w d v xs:=
 AO.rowOf h hF fun _ _ _ _ _ hcc IJ hG q=>Eo.at_ q hG IJ hcc
def EA.at_ {x:IV}(h:EA ty d w vs x F)(hF: ∀ k,k∈F->k<B)(hb:b<B)(hc: ∀ j,j<2->w.cell? ⟨b,o+j,none⟩=vs[j]?):Ni B w d b o x:=by
 obtain⟨v,rfl,h2⟩:=h;exact⟨hb,hc 0 zx,v,hc 1 zx,h2.JR hF⟩
def jZ.JR {xs:List IV}(h:jZ ty d w v xs F)(hF: ∀ k,k∈F->k<B):oP B w d v xs:=
 AO.rowOf h hF fun _ _ _ _ _ hcc IJ hG q=>EA.at_ q hG IJ hcc
def Dq.at_ {x:Bk}(h:Dq ty d w vs x F)(hF: ∀ k,k∈F->k<B)(hb:b<B)(hc: ∀ j,j<3->w.cell? ⟨b,o+j,none⟩=vs[j]?):Jl B w d b o x:=by
 obtain⟨fv,rv,cv,F1,F2,F3,rfl,h2,h3,h4,rfl⟩:=h;exact⟨hb,⟨fv,hc 0 zx,h2.JR fun k hk=>hF k (by simp[hk])⟩,⟨rv,hc 1 zx,h3.JR fun k hk=>hF k (by simp[hk])⟩,cv,hc 2 zx,h4.JR fun k hk=>hF k (by simp[hk])⟩
end
structure MJ {α:Type} (e:TypeId) (s:Nat) (Q:D9 α) (B:Nat) (w w1:World) (xs:List α) (F G:List Nat) (y:α) (g cap:Nat) (F':List Nat):Prop where
 row:AO e s Q w1 (.slice (Qb g 0) (xs.length+1) cap) (xs++[y]) F'
 new:Af B w1 F'
 sub: ∀ k,k∈F'->k∈F\/k∈G\/w.heap.size<=k
 os:w1.os=w.os
 tape:w1.tape=w.tape
 output:w1.output=w.output
 size:w.heap.size<=w1.heap.size
 same: ∀ k,k<w.heap.size->k∉F->w1.heap[k]?=w.heap[k]?
def Z4o {α:Type}{Q:D9 α}{w1:World}{zs:List (List Value×α×List Nat)}{g cap:Nat}{cs:Array Value}{y:α}{G:List Nat}(hQ:IB Q)
  (hz: ∀ z,z∈zs->z.1.length=s/\Q w z.1 z.2.1 z.2.2) (hcs:cs.size=s) (hq:Q w cs.toList y G) (hl:zs.length+1<1000000000)
  (nF:Af B w (v.ownBlock.toList++(zs.map (·.2.2)).flatten)) (nG:Af B w G) (hd: ∀ k,k∈v.ownBlock.toList++(zs.map (·.2.2)).flatten->k∉G) (hB:B<=w.heap.size)
  (ha:jC w w1 0 e s v g cap (zs.length+1) ((zs.map (·.1)).flatten++cs.toList)):
  MJ e s Q B w w1 (zs.map (·.2.1)) (v.ownBlock.toList++(zs.map (·.2.2)).flatten) G y g cap (g::((zs.map (·.2.2)).flatten++G)):=by
 have Il: ∀ k,k<w.heap.size->some k≠v.ownBlock->w1.heap[k]?=w.heap[k]?:=fun k hk hn=>ha.grown.block k hk hn;have nd:=Qy.1 nF.once;have pY: ∀ k,k∈(zs.map (·.2.2)).flatten->k<w.heap.size/\some k≠v.ownBlock/\k≠g:=by
  intro k hk;have h1:=nF.lt k<|UH _ hk;have h2:some k≠v.ownBlock:=fun q=>nd.2.2 k (by simp[<- q]) k hk rfl;refine⟨h1,h2,?_⟩;rcases ha.spot with hs | hs
  ·rintro rfl;exact h2 hs.symm
  ·omega
 have aH: ∀ k,k∈G->k<w.heap.size/\some k≠v.ownBlock/\k≠g:=by
  intro k hk;have h1:=nG.lt k hk;have h2:some k≠v.ownBlock:=fun q=>hd k (UF _ (by simp[<- q])) hk;refine⟨h1,h2,?_⟩;rcases ha.spot with hs | hs
  ·rintro rfl;exact h2 hs.symm
  ·omega
 refine⟨⟨zs++[(cs.toList,y,G)],?_,?_,zw,by simp[Value.ownBlock],by simpa using hl⟩,⟨?_,?_,?_⟩,?_,ha.grown.os,ha.grown.tape,ha.grown.output,ha.grown.size,?_⟩
 ·have:=ha.own
  simpa using this
 ·intro z hm;rcases CY.1 hm with hm | hm
  ·refine⟨(hz z hm).1,hQ _ _ _ _ _ (hz z hm).2 fun k hk=>?_⟩
   have:=pY k<|List.mem_flatten.2 ⟨z.2.2,List.mem_map.2 ⟨z,hm,rfl⟩,hk⟩
   exact Il k this.1 this.2.1
  ·rw[MX.1 hm];exact⟨by simpa using hcs,hQ _ _ _ _ _ hq fun k hk=>Il k (aH k hk).1 (aH k hk).2.1⟩
 ·refine List.nodup_cons.2 ⟨fun hm=>?_,Qy.2 ⟨nd.2.1,nG.once,fun a ha' b hb q=>hd a (UH _ ha') (q▸hb)⟩⟩;rcases CY.1 hm with hm | hm
  ·exact(pY g hm).2.2 rfl
  ·exact(aH g hm).2.2 rfl
 ·intro k hk;rcases Be.1 hk with rfl | hk
  ·rcases ha.spot with hs | hs
   ·exact nF.ge k<|UF _ (by simp[hs])
   ·omega
  ·rcases CY.1 hk with hk | hk
   ·exact nF.ge k<|UH _ hk
   ·exact nG.ge k hk
 ·intro k hk
  have:=ha.grown.size
  rcases Be.1 hk with rfl | hk
  ·exact ha.lt
  ·rcases CY.1 hk with hk | hk
   ·exact Ba (pY k hk).1 this
   ·exact Ba (aH k hk).1 this
 ·intro k hk;rcases Be.1 hk with rfl | hk
  ·rcases ha.spot with hs | hs
   ·exact Or.inl<|UF _ (by simp[hs])
   ·exact Or.inr<|Or.inr zx
  ·rcases CY.1 hk with hk | hk
   ·exact Or.inl<|UH _ hk
   ·exact Or.inr<|Or.inl hk
 ·intro k hk hn;exact Il k hk fun q=>hn (UF _ (by simp[<- q]))
def MW {α:Type}{P:Program}{t:TypeId}{bytes:Nat}(E:Jk P t e s bytes){ops:Array Oper}{rest:List Oper}{o:Oper}{a:Act}{K:Exit->Act->World->Prop}(hgd:o.guard=none)(sl x:Operand)
  (ho:o.op= .call {callee:= .builtin .append,args:=#[sl,x],argTypes:=#[t,t]}) {Q:D9 α} (hQ:IB Q) (C9: ∀ w vs x F,Q w vs x F-> ∀ u,u∈vs->u.oneCell'=true) (B:Nat) (v:Value) (xs:List α) (F:List Nat) (hs:a.eval sl=v) (hrow:AO e s Q w v xs F)
  (b:Nat) (cs:Array Value) (et:TypeId) (fr:Nat×Nat) (y:α) (G:List Nat) (hx:a.eval x= .slice (Qb b 0) 1 1) (hblk:w.heap[b]?=some (.cells cs et fr)) (hcs:cs.size=s) (hq:Q w cs.toList y G)
  (hn:xs.length<100000000) (hB:B<=w.heap.size) (nF:Af B w F) (nG:Af B w G) (hd: ∀ k,k∈F->k∉G)
  (h: ∀ g cap w1 F',MJ e s Q B w w1 xs F G y g cap F'->wpList P ops K rest (a.put o.dst<|.slice (Qb g 0) (xs.length+1) cap) w1):wpList P ops K (o::rest) a w:=by
 obtain⟨zs,hown,hz,rfl,rfl,hl⟩:=hrow;refine Zzv E hgd sl x ho 0 v zs.length _ hs hown b cs et fr hx hblk hcs (C9 w _ _ _ hq) (by simpa using hl) (Ii _) fun g cap w1 ha=>?_
 have:=Z4o (cs:=cs) (y:=y) (G:=G) hQ hz hcs hq (by simp at hn;omega) nF nG hd hB ha
 have h2:=h g cap w1 _ this;simpa using h2
end Go.W
namespace Go.W
def KQ {a b:Bool}(h:a=b):Ending.returned (.bool a)= .returned (.bool b):=by rw[h]
def Z63 {k:IntKind}{a b:Int}(h:a=b):Ending.returned (.int k a)= .returned (.int k b):=by rw[h]
def V5 (t:ByteArray)(q:Nat)(h:q<t.size):(t[q]).toNat=(Ab t).getD q 0:=by
 simp only[Ab,List.getD_eq_getElem?_getD,Jq,UG];rw[Array.getElem?_eq_getElem h];rfl
def Zj (t:ByteArray):t.toList.length=t.size:=by rw[Lr];rfl
def jK {a b:ByteArray}(h:a.toList=b.toList):a=b:=by
 rw[Lr,Lr]at h;cases a;cases b;simp at h;simp[h]
def mg (a b:ByteArray):(a.toList==b.toList)=decide (a=b):=by
 by_cases h:a=b
 ·subst h;simp
 ·rw[Oi h,BK];exact fun q=>h (jK q)
def Xd (t:ByteArray):(t.toList==[])=decide (t.size=0):=by
 rw[Lr];have h:t.size=t.data.toList.length:=rfl;rw[h];cases t.data.toList <;> simp
def Z5w (a b:Int):(a==b)=decide (a=b):=by
 rw[Bool.eq_iff_iff,DJ,decide_eq_true_iff]
def Z9d (n:Nat):((n:Int)=0)=(n=0):=zw
def nJ (w:World)(t:ByteArray)(q:Nat):Bl w (w.iter t q):=(AQ _ _).alloc lr _
def KR {B n:Nat}{a w:World}(h:Below B a w):Below B a (w.drewN n):=⟨h.os,h.tape,h.output,h.size,h.block⟩
def jS {α:Type}(f:α->Int){l:List α}{q:Nat}(h:q<l.length):EF f (l.drop q)=if f l[q]≠0 then f l[q]else EF f (l.drop<|q+1):=by
 rw[List.drop_eq_getElem_cons h,EF]
def DL {P:Program}{f:FuncId}{fn:Func}{c:Code}(hf:P.funcs[f]?=some fn)(hn:(fn.name== "runtime.NumGoroutine")=false)(hb:fn.body=some c)(args:Array Value)(w:World):(callFunc f args).run P w= .ok (.enter f args) w:=by
 have h1:fn.name≠ "runtime.NumGoroutine" :=by simpa using hn
 simp[callFunc,hf,h1,hb]
end Go.W
namespace Go.W
variable {w:World}
structure Off (F:List Nat) (w w':World):Prop where
 os:w'.os=w.os
 tape:w'.tape=w.tape
 output:w'.output=w.output
 size:w.heap.size<=w'.heap.size
 block: ∀ k,k<w.heap.size->k∉F->w'.heap[k]?=w.heap[k]?
section
variable {F G:List Nat} {u v w:World}
def Off.refl (F:List Nat)(w:World):Off F w w:=⟨rfl,rfl,rfl,JB _,fun _ _ _=>rfl⟩
def Off.trans (h:Off F u v)(k:Off G v w)(hG: ∀ i,i∈G->i∈F\/u.heap.size<=i):Off F u w:=
 ⟨k.os.trans h.os,k.tape.trans h.tape,k.output.trans h.output,AU h.size k.size,fun i hi hn=>(k.block i (Ba hi h.size) fun q=>(hG i q).elim hn zx).trans (h.block i hi hn)⟩
def Off.of (h:Bl u v):Off F u v:=⟨h.os,h.tape,h.output,h.size,fun i hi _=>h.block i hi⟩
def Off.mono (h:Off F u v)(hF: ∀ i,i∈F->i∈G):Off G u v:=⟨h.os,h.tape,h.output,h.size,fun i hi hn=>h.block i hi fun q=>hn (hF i q)⟩
def Off.below (h:Off F u v){B:Nat}(hF: ∀ i,i∈F->B<=i)(hB:B<=u.heap.size):Below B u v:=⟨h.os,h.tape,h.output,h.size,fun i hi=>h.block i zx fun q=>by have:=hF i q;omega⟩
def Off.alloc (h:Off F u v)(o:Obj):Off F u (v.alloc o):=h.trans (Off.of (F:=[])<|(AQ _ v).alloc lr o) fun _ q=>(by cases q)
def Off.drew (h:Off F u v):Off F u v.drew:=⟨h.os,h.tape,h.output,h.size,h.block⟩
def Off.set (h:Off F u v)(b o:Nat)(x:Value)(hb:b∈F\/u.heap.size<=b):Off F u (v.setCell ⟨b,o,none⟩ x):=
 ⟨h.os,h.tape,h.output,by simpa[World.setCell]using h.size,fun k hk hn=>(Au v ⟨b,o,none⟩ x k fun e=>by have e:k=b:=e;subst e;exact hb.elim hn zx).trans (h.block k hk hn)⟩
def Off.put (h:Off F u v)(b:Nat)(x:Obj)(hb:b∈F\/u.heap.size<=b):Off F u {v with heap:=v.heap.setIfInBounds b x}:=
 ⟨h.os,h.tape,h.output,by simpa using h.size,fun k hk hn=>by
  have:k≠b:=fun e=>by subst e;exact hb.elim hn zx
  show(v.heap.setIfInBounds b x)[k]?=_;rw[Array.getElem?_setIfInBounds_ne<|Ne.symm this];exact h.block k hk hn⟩
end
def Yap (n:Nat) (P:Program) (K s:Nat) (xs:List Nat) (Z:World->Prop):Prop:=
 ∀ (l:Nat) (J Jx:List Nat->World->Prop) (W:World),(∀ pre W1,J pre W1->Z W1)->(∀ (pre:List Nat) (x:Nat) (rest:List Nat) (W1:World),xs=pre++x::rest->J pre W1->YieldAt Fence.wide (n-1) P l #[.int .i64 (x:Int)] W1 fun e W'=>(e= .returned (.bool true)/\J (pre++[x]) W')\/(e= .returned (.bool false)/\Jx (pre++[x]) W'))->J [] W->
  CallsIn Fence.wide n P K #[.int .u64 (s:Int),.func (.yield l) #[] #[]] W fun e W'=>(∃ v,e= .returned v)/\(J xs W'\/ ∃ pre,Jx pre W')
def uI (B:Nat) (W W':World):Prop:=W'.heap[B]?=W.heap[B]?/\W'.heap[B+1]?=W.heap[B+1]?
def Z8o (B:Nat) (I Ix:List Nat->World->Prop) (xs:List Nat) (W:World):Exit->Act->World->Prop
 | .normal,_,W'=>uI B W W'/\I xs W'
 | .ret,_,W'=>uI B W W'/\Ix xs W'
 | _,_,_=>False
def Off.putObj {F:List Nat}{l:Nat}(o:Obj)(hl:l∈F):Off F w (w.putObj l o):=
 ⟨rfl,rfl,rfl,by simp[World.putObj],fun k _ hn=>World.putObj_heap_other (fun e=>hn (by rw[e];exact hl))⟩
def Zd {n:Nat}{P:Program}{g:Operand}{ps:Array Tmp}{assign body:Code}{Q:Exit->Act->World->Prop}{a:Act}{K s:Nat}{xs:List Nat}{Z:World->Prop}
  (hg:a.eval g= .func (.func K) #[.int .u64 (s:Int)] #[]) (eg: ∀ args w,(callFunc K args).run P w= .ok (.enter K args) w) (hseq:Yap (n-1) P K s xs Z) (YS:ps.size=1)
  (I Ix:List Nat->World->Prop) (hZ: ∀ pre W,I pre W->Z W) (hI: ∀ pre W W',I pre W->Off [w.heap.size,w.heap.size+1] W W'->I pre W') (hIx: ∀ pre W W',Ix pre W->Off [w.heap.size,w.heap.size+1] W W'->Ix pre W') (h0:I [] w) (a₁:Nat->Act)
  (Vb: ∀ (l x:Nat) (W:World) (K:Act->World->Prop),K (a₁ x) W->assign.wpIn (Fence.wide.inRound l) (n-1-1) P (Exit.then K fun _ _ _=>False) {tmps:=(ps.zip #[.int .i64 (x:Int)]).foldl (fun t (p,v)=>t.setIfInBounds p v) a.tmps,defers:=[]} W)
  (fU: ∀ (l:Nat) (pre:List Nat) (x:Nat) (rest:List Nat) (W:World),xs=pre++x::rest->I pre W->w.heap.size+2<=W.heap.size->body.wpIn (Fence.wide.inRound l) (n-1-1) P (Z8o w.heap.size I Ix (pre++[x]) W) (a₁ x) W)
  (hdone: ∀ W,I xs W->W.heap[w.heap.size]?=some (.deferred<|some [])->Q .normal {a with defers:={target:= .collected w.heap.size,args:=#[]}::a.defers} W)
  (eD: ∀ pre W,Ix pre W->W.heap[w.heap.size]?=some (.deferred<|some [])->Code.ret.wpIn Fence.wide n P Q {a with defers:={target:= .collected w.heap.size,args:=#[]}::a.defers} W):
  (Code.rangeFunc g ps assign body).wpIn Fence.wide n P Q a w:=by
 refine wpIn_rangeFunc fun fn hfn=>?_;obtain⟨rc,hrc⟩: ∃ rc:LoopState->Option Code->Loop,rc=fun st pe=>{state:=st,pending:=pe,fn,tmps:=a.tmps,params:=ps,assign,body,defers:=w.heap.size}:=⟨_,rfl⟩;obtain⟨W1,hW1⟩: ∃ W1,(w.alloc<|.deferred<|some []).alloc (.loop<|rc .ready none)=W1:=⟨_,rfl⟩;have hL:W1.heap[w.heap.size+1]?=some (.loop<|rc .ready none):=by
  rw[<- hW1];have:=World.alloc_heap_new (w.alloc<|.deferred<|some [])<|.loop<|rc .ready none;rwa [EH]at this
 have hD:W1.heap[w.heap.size]?=some (.deferred<|some []):=by
  rw[<- hW1];exact(Ah _ _ _ zw).trans<|World.alloc_heap_new w _
 have hI1:I [] W1:=hI _ w _ h0 (by rw[<- hW1];exact((Off.refl _ w).alloc _).alloc _);have DN:w.heap.size+1∈[w.heap.size,w.heap.size+1]:=zw
 refine⟨w.heap.size+1,[{target:= .collected w.heap.size,args:=#[]}],W1,{target:= .fn (.func K) #[],args:=#[.int .u64 (s:Int),.func (.yield<|w.heap.size+1) #[] #[]]},W1,K,#[.int .u64 (s:Int),.func (.yield<|w.heap.size+1) #[] #[]],W1,?_,?_,fun _ _=>trivial,?_,fun h=>(by cases h),?_⟩
 ·rw[<- hW1,hrc];exact run_enterLoop_outer _ _ _ _ _
 ·simp only[resolve,hg];simp[go_sem]
 ·simp[invoke,go_sem,eg]
 refine(hseq (w.heap.size+1) (fun pre W=>I pre W/\W.heap[w.heap.size+1]?=some (.loop<|rc .ready none)/\W.heap[w.heap.size]?=some (.deferred<|some [])) (fun pre W=>Ix pre W/\W.heap[w.heap.size+1]?=some (.loop<|rc .done<|some .ret)/\W.heap[w.heap.size]?=some (.deferred<|some [])) W1 (fun pre W1 h=>hZ pre W1 h.1) ?_ ⟨hI1,hL,hD⟩).mono ?_
 ·rintro pre x rest W hx ⟨hi,hl,hk⟩;have hlt:=(IU.1 hl).1;have hy:=run_yield (P:=P) (args:=#[.int .i64 (x:Int)]) hl (by rw[hrc];exact YS.symm);rw[hrc]at hy;refine⟨fn,_,assign,body,hy,roundIn_of_wpIn hfn<|Vb _ x W _ ⟨_,run_beginRound hl (by rw[hrc]),?_⟩⟩;obtain⟨W2,hW2⟩: ∃ W2,W.putObj (w.heap.size+1) (.loop {rc .ready none with state:= .busy})=W2:=⟨_,rfl⟩;have hl2:W2.heap[w.heap.size+1]?=some (.loop {rc .ready none with state:= .busy}):=by rw[<- hW2];exact World.putObj_heap_same hlt
  have hk2:W2.heap[w.heap.size]?=some (.deferred<|some []):=by rw[<- hW2];exact(World.putObj_heap_other zx).trans hk
  have zq:I pre W2:=hI _ _ _ hi (by rw[<- hW2];exact Off.putObj _ DN);rw[hW2];refine wpIn_mono (fU _ pre x rest W2 hx zq (IU.1 hl2).1) ?_;rintro e a3 W3 hp;cases e with
  | normal=>
   obtain⟨⟨k1,k2⟩,ql⟩:=hp;have fC:=k2.trans hl2;have hr:=run_endRound (P:=P) none fC;rw[hrc]at hr;refine⟨_,_,hr,.inl ⟨rfl,hI _ _ _ ql<|Off.putObj _ DN,?_,(World.putObj_heap_other zx).trans<|k1.trans hk2⟩⟩;rw[hrc];exact World.putObj_heap_same (IU.1 fC).1
  | ret=>
   obtain⟨⟨k1,k2⟩,ql⟩:=hp;have fC:=k2.trans hl2;have hr:=run_endRound (P:=P) (some .ret) fC;rw[hrc]at hr;refine⟨_,_,hr,.inr ⟨rfl,hIx _ _ _ ql<|Off.putObj _ DN,?_,(World.putObj_heap_other zx).trans<|k1.trans hk2⟩⟩;rw[hrc];exact World.putObj_heap_same (IU.1 fC).1
  | exit id=>exact hp.elim
  | goto t=>exact hp.elim
  | panic ch=>exact hp.elim
  | outgrown=>exact hp.elim
 ·rintro e W2 ⟨⟨v,rfl⟩,⟨hi,hl,hk⟩ | ⟨pre,hi,hl,hk⟩⟩
  ·refine⟨none,_,by have:=run_endLoop (P:=P) hl (by rw[hrc];simp);rw[hrc]at this;exact this,hdone _ (hI _ _ _ hi<|Off.putObj _ DN)<|(World.putObj_heap_other zx).trans hk⟩
  ·refine⟨some .ret,_,by have:=run_endLoop (P:=P) hl (by rw[hrc];simp);rw[hrc]at this;exact this,eD pre _ (hIx _ _ _ hi<|Off.putObj _ DN)<|(World.putObj_heap_other zx).trans hk⟩
end Go.W
namespace Go.W
def oO (t:Nat):Nat:=if t % 2=1 then 0 else if t % 4=2 then 1 else 2
def BR (s:Nat):List Nat:=[0,1,2].filter fun i=>s.testBit i
end Go.W
namespace Go.P
open Go.RowKit Go.W Go.Shelf
attribute [local go_sem] MZ
def U6 (w:World):Prop:=w.cell? ⟨21,0,none⟩=some (.int .u8 0)/\w.cell? ⟨21,1,none⟩=some (.int .u8 1)/\w.cell? ⟨21,3,none⟩=some (.int .u8 2)
def Za (t k j m:Nat)(w:World)(ne:((t:Int)==0)=false)(e1:bits BinOp.and IntKind.u64 (t:Int) (IntKind.u64.wrap (-(t:Int)))=(k:Int))(e2:IntKind.u64.wrap ((k:Int)*285870213051353865) / 288230376151711744=(j:Int))(hj:j<64)(hm:m<8)(hc:w.cell? ⟨21,j,none⟩=some (.int .u8 (m:Int))):Calls prog 284 #[.int .u64 (t:Int)] w fun e w'=>e= .returned (.int .i64 (m:Int))/\w'=w:=by
 have kW:(j:Int)<64:=zx
 go_in
 go_wp2
 go_ret
 exact⟨rfl,rfl⟩
def Ye8 (t:Nat)(h0:0<t)(h8:t<8)(w:World)(hb:U6 w):Calls prog 284 #[.int .u64 (t:Int)] w fun e w'=>e= .returned (.int .i64 (oO t:Int))/\w'=w:=by
 obtain⟨b0,b1,b3⟩:=hb;have hc:t=1\/t=2\/t=3\/t=4\/t=5\/t=6\/t=7:=zx
 rcases hc with rfl | rfl | rfl | rfl | rfl | rfl | rfl
 ·exact Za 1 1 0 0 w rfl zt zt zu zu b0
 ·exact Za 2 2 1 1 w rfl zt zt zu zu b1
 ·exact Za 3 1 0 0 w rfl zt zt zu zu b0
 ·exact Za 4 4 3 2 w rfl zt zt zu zu b3
 ·exact Za 5 1 0 0 w rfl zt zt zu zu b0
 ·exact Za 6 2 1 1 w rfl zt zt zu zu b1
 ·exact Za 7 1 0 0 w rfl zt zt zu zu b0
def Yge (t:Nat)(h8:t<8)(h0:0<t):bits BinOp.and IntKind.u64 (t:Int) ((t:Int)-1)=((t &&& (t-1):Nat):Int):=by
 have hc:t=1\/t=2\/t=3\/t=4\/t=5\/t=6\/t=7:=zx
 rcases hc with rfl | rfl | rfl | rfl | rfl | rfl | rfl <;> rfl
def ZV (n s:Nat)(h8:s<8):Yap n prog 255 s (BR s) U6:=fun l J Jx W hJ hY h0=>by
 have CT:=AA Ye8;refine callsIn_of_wp func255 rfl trivial ?_ rfl;simp only[ntmps255,E9,BO,D7,Nat.reduceAdd,Nat.reduceSub,Ju,Jv,Jr,Jt,FK,Gm];have fA: ∀ t,t<8->0<t->BR t=oO t::BR (t &&& (t-1))/\(t &&& (t-1))<t:=zu
 gi_wp2
 gi_loopw [0] (fun sv wr=> ∃ (t:Nat) (pre:List Nat),t<8/\sv= .int .u64 (t:Int)/\BR s=pre++BR t/\J pre wr) (fun sv _=>(intOf sv).toNat)
 case atStart=>exact⟨s,[],h8,rfl,rfl,h0⟩
 case round=>
  obtain⟨t,pre,ru,rfl,hx,hJs⟩:=hrel;by_cases ht:t=0
  ·subst ht;gi_wp2
   go_end0
   refine⟨⟨_,rfl⟩,.inl ?_⟩;rw[hx,show BR 0=[]from rfl,List.append_nil];exact hJs
  ·have hn0:((t:Int)==0)=false:=by rw[BK];omega
   obtain⟨e1,hlt⟩:=fA t ru zx;rw[e1]at hx;obtain⟨fn,tmps,assign,body,hy,hR⟩:=hY pre (oO t) _ wr hx hJs;have C1:=AA<|CT.out t zx ru wr<|hJ _ _ hJs;obtain⟨u,hu⟩: ∃ u,t &&& (t-1)=u:=⟨_,rfl⟩;have e2:bits BinOp.and IntKind.u64 (t:Int) ((t:Int)-1)=(u:Int):=by rw[<- hu];exact Yge t ru zx
   rw[hu]at hlt hx;clear CT fA;gi_wp2_with (refine⟨trivial,fun h=>(by cases h),?_⟩;refine(callsIn_wide.2 C1.out).mono ?_;rintro e w' ⟨rfl,rfl⟩)
   refine⟨fun h=>(by cases h),hR.mono ?_⟩;rintro e W3 (⟨rfl,hJ3⟩ | ⟨rfl,rV⟩)
   ·gi_wp2
    go_roundw
    case rel=>exact⟨u,pre++[oO t],zx,rfl,by rw[hx,GY];rfl,hJ3⟩
    case measure=>simp[intOf];omega
   ·gi_wp2
    refine CQ (results_none rfl _ _ _) rfl ?_;exact⟨⟨_,rfl⟩,.inr ⟨_,rV⟩⟩
end Go.P
namespace Go.W
variable {w:World}
def Tn (w:World) (m:Nat) (xs:List (ByteArray×Nat)):Prop:= ∃ es clock,w.heap[m]?=some (.map es clock)/\es.toList.map (fun e=>(e.key,e.val))=xs.map fun x=>(Value.string x.1,Value.int .i64 (x.2:Int))
def V6 (w:World) (v:Value) (xs:List (ByteArray×Nat)):Prop:=(v= .map none/\xs=[])\/ ∃ m,v= .map (some m)/\Tn w m xs
def V6.of {w':World}{v:Value}{xs:List (ByteArray×Nat)}(h:V6 w v xs)(hb: ∀ m,v= .map (some m)->w'.heap[m]?=w.heap[m]?):V6 w' v xs:=by
 rcases h with h | ⟨m,rfl,es,c,h1,h2⟩
 ·exact .inl h
 ·exact .inr ⟨m,rfl,es,c,(hb m rfl).trans h1,h2⟩
def Jg (s:ByteArray):List (ByteArray×Nat)->Nat->Option (Nat×Nat)
 | [],_=>none
 | b::bs,i=>if s=b.1 then some (i,b.2)else Jg s bs (i+1)
def nU (s:ByteArray): ∀ (l:List MapEntry) (xs:List (ByteArray×Nat)) (i:Nat),l.map (fun e=>(e.key,e.val))=xs.map (fun x=>(Value.string x.1,Value.int .i64 (x.2:Int)))->Instr.findNow .string (.string s) l i=some ((Jg s xs i).map fun k=>(k.1,Value.int .i64 (k.2:Int)))
 | [],xs,i,h=>by
  have:xs=[]:=by simpa using h.symm
  subst this;rfl
 | e::l,[],i,h=>by simp at h
 | e::l,b::xs,i,h=>by
  rw[List.map_cons,List.map_cons]at h;injection h with h1 h2;injection h1 with hk hv;have ih:=nU s l xs (i+1) h2;obtain⟨r,hr,TF⟩:=Go.MapKept.sameNow_of_keys (d:= .string) (a:= .string s) (b:= .string b.1) trivial trivial;unfold Instr.findNow Jg;rw[hk,hr];cases r with
  | true=>
   obtain rfl:s=b.1:=by injection TF.1 rfl
   rw[if_pos rfl,hv];simp
  | false=>
   rw[if_neg (fun e=>by have:=TF.2 (by rw[e]);cases this)];exact ih
def OP:D9 ByteArray:=fun _ vs x F=>F=[]/\vs=[.string x]
def OP.stable:IB OP:=fun _ _ _ _ _ h _=>h
def OP.one {vs:List Value}{x:ByteArray}{F:List Nat}(h:OP w vs x F): ∀ u,u∈vs->u.oneCell'=true:=by
 obtain⟨_,rfl⟩:=h;intro u hu;simp at hu;rw[hu];rfl
def GK (xs:List (ByteArray×Nat)) (s:ByteArray×Nat):Nat×Bool:=if s.1.size=0 then(s.2,true)else((((Jg s.1 xs 0).map (·.2)).getD 0),(Jg s.1 xs 0).isSome)
end Go.W
namespace Go.P
variable {w:World}{v:Value}{xs:List (ByteArray×Nat)}{r:Nat}
def Zyr (h:V6 w v xs)(s:ByteArray):(Instr.lookup 313 v (.string s) true).run prog w= .ok (.tuple #[.int .i64 ((((Jg s xs 0).map (·.2)).getD 0:Nat):Int),.bool (Jg s xs 0).isSome]) w:=by
 have hz:(zeroValue 3).run prog w= .ok (.int .i64 0) w:=zt
 rcases h with⟨rfl,rfl⟩ | ⟨r,rfl,es,clock,hb,hm⟩
 ·have FW:=Go.MapKept.run_checkKey (P:=prog) (w:=w) underlying9 (k:= .string s) trivial true 9999;replace FW:(Instr.checkKey true 10000 9<|.string s).run prog w= .ok () w:=FW
  have Fq:=Go.MapKept.run_findKey (P:=prog) (w:=w) (k:= .string s) (l:=[]) (a:=none) underlying9 rfl;simp[Instr.lookup,Jo underlying313,Fq,hz,FW,Jg]
 have hf:=nU s es.toList xs 0 hm;have FW:=Go.MapKept.run_checkKey (P:=prog) (w:=w) underlying9 (k:= .string s) trivial es.isEmpty 9999;have hgo:=WL (P:=prog) hb;have Fq:=Go.MapKept.run_findKey (P:=prog) (w:=w) underlying9 hf;have FW:(Instr.checkKey es.isEmpty 10000 9<|.string s).run prog w= .ok () w:=FW;cases hp:Jg s xs 0 with
 | none=>
  rw[hp]at Fq;simp only[Option.map_none]at Fq;simp[Instr.lookup,Jo underlying313,hgo,Fq,hz,FW]
 | some k=>
  rw[hp]at Fq;simp only[Option.map_some]at Fq;simp[Instr.lookup,Jo underlying313,hgo,Fq,FW]
def Zzq (h:Tn w r xs)(s:ByteArray)(v:Nat)(hp:Jg s xs 0=none): ∃ o,(Instr.mapUpdate 313 (.map<|some r) (.string s)<|.int .i64 (v:Int)).run prog w= .ok () {w with heap:=w.heap.setIfInBounds r o}/\Tn {w with heap:=w.heap.setIfInBounds r o} r (xs++[(s,v)]):=by
 obtain⟨es,clock,hb,hm⟩:=h;have hf:=nU s es.toList xs 0 hm;rw[hp]at hf;have FW:=Go.MapKept.run_checkKey (P:=prog) (w:=w) underlying9 (k:= .string s) trivial false 9999;replace FW:(Instr.checkKey false 10000 9<|.string s).run prog w= .ok () w:=FW
 have hgo:=WL (P:=prog) hb;have Fq:=Go.MapKept.run_findKey (P:=prog) (w:=w) underlying9 hf;simp only[Option.map_none]at Fq;have VO:=Go.MapKept.run_setObj_map (P:=prog) (.map (es.push {key:= .string s,val:= .int .i64 (v:Int),born:=clock})<|clock+1) hb;refine⟨.map (es.push {key:= .string s,val:= .int .i64 (v:Int),born:=clock})<|clock+1,?_,es.push {key:= .string s,val:= .int .i64 (v:Int),born:=clock},clock+1,(Go.MapKept.heap_set hb).1,?_⟩
 ·simp[Instr.mapUpdate,Jo underlying313,hgo,FW,Fq,VO]
 ·simp[hm]
def Zx4 {s:ByteArray}{v:Nat}(h:Tn w r [(s,v)]): ∃ o,(∀ ty,(Builtin.delete_ #[313,9] ty #[.map<|some r,.string s]).run prog w= .ok (.tuple #[]) {w with heap:=w.heap.setIfInBounds r o})/\Tn {w with heap:=w.heap.setIfInBounds r o} r []:=by
 obtain⟨es,clock,hb,hm⟩:=h;have hf:=nU s es.toList [(s,v)] 0 hm;have hl:Jg s [(s,v)] 0=some (0,v):=by simp[Jg]
 rw[hl]at hf;have hlen:es.toList.length=1:=by have:=congrArg List.length hm;simpa using this
 obtain⟨e,he⟩: ∃ e,es=#[e]:=by
  obtain⟨l⟩:=es;match l,hlen with
  | [e],_=>exact⟨e,rfl⟩
 subst he;have FW:=Go.MapKept.run_checkKey (P:=prog) (w:=w) underlying9 (k:= .string s) trivial false 9999;replace FW:(Instr.checkKey false 10000 9<|.string s).run prog w= .ok () w:=FW
 have hgo:=WL (P:=prog) hb;have Fq:=Go.MapKept.run_findKey (P:=prog) (w:=w) underlying9 hf;simp only[Option.map_some]at Fq;have VO:=Go.MapKept.run_setObj_map (P:=prog) (.map #[] clock) hb;refine⟨.map #[] clock,fun ty=>?_,#[],clock,(Go.MapKept.heap_set hb).1,rfl⟩;unfold Builtin.delete_;simp only[QM,Qz,List.getElem?_cons_zero,List.getElem?_cons_succ,Jo underlying313,Rw,hgo,Array.isEmpty];rw[show decide (#[e].size=0)=false from rfl,FW];simp only[Rw];rw[Fq];simp[VO]
def uG {q o:Nat}(h:V6 w v xs)(c0:w.cell? ⟨q,o,none⟩=some v)(hq:q<w.heap.size)(hv: ∀ m,v= .map (some m)->m<w.heap.size)(s:ByteArray×Nat)(hs:s.1.size<1000000000):
  Calls prog 250 #[.pointer<|Qb q o,.agg #[.string s.1,.int .i64 (s.2:Int)]] w fun e w'=>e= .returned (.tuple #[.int .i64 ((GK xs s).1:Int),.bool (GK xs s).2])/\Bl w w':=by
 have hl:=fun o n=>Zyr (w:=(w.alloc o).drewN n) (h.of fun m hm=>Ah _ _ _ (hv m hm)) s.1;obtain⟨x,n⟩:=s;dsimp only at hs hl⊢;have B0:=fun o=>(AQ w.heap.size w).alloc lr o;by_cases h0:x.size=0
 ·have E:AC (GK xs (x,n)=(n,true)):=⟨if_pos h0⟩;rw[E.out];have g:(x.toList==[])=true:=by rw[Xd];simp[h0]
  clear hl;go_in
  go_wp2
  go_ret2
  exact⟨rfl,B0 _⟩
 ·have E:AC (GK xs (x,n)=((((Jg x xs 0).map (·.2)).getD 0),(Jg x xs 0).isSome)):=⟨if_neg h0⟩;rw[E.out];have g:(x.toList==[])=false:=by rw[Xd];simp[h0]
  generalize ((Jg x xs 0).map (·.2)).getD 0=k at*;generalize (Jg x xs 0).isSome=kn at*;have su:=fun ob=>(Ah w ob q hq);have c1: ∀ ob,(w.alloc ob).cell? ⟨q,o,none⟩=some v:=fun ob=>(Am (a:=⟨q,o,none⟩)<|su ob).trans c0;clear su c0;go_in
  go_wp2
  go_quiet (fail)
  go_wp2
  go_ret2
  exact⟨rfl,KR<|B0 _⟩
end Go.P
namespace Go.W
variable {w:World}{m:Nat}{xs:List (ByteArray×Nat)}
def Tn.lt (h:Tn w m xs):m<w.heap.size:=by
 obtain⟨es,c,h,_⟩:=h;exact(IU.1 h).1
def Tn.of {w':World}(h:Tn w m xs)(hb:w'.heap[m]?=w.heap[m]?):Tn w' m xs:=by
 obtain⟨es,c,h,h2⟩:=h;exact⟨es,c,hb.trans h,h2⟩
end Go.W
namespace Go.P
variable {w:World}{q o m:Nat}{cs:Array Value}{xs:List (ByteArray×Nat)}{ov:Value}{Fo:List Nat}{x:ByteArray}
structure Bd (w:World) (q:Nat) (T:TypeId) (o m:Nat) (cs:Array Value) (xs:List (ByteArray×Nat)) (ov:Value) (Fo:List Nat):Prop where
 blk:AJ w q (cs.setIfInBounds (o+1) ov) T
 c0:cs[o]?=some (.map<|some m)
 sz:o+1<cs.size
 row:AO 9 1 OP w ov (xs.map (·.1)) Fo
 map:Tn w m xs
 ne:q≠m
 new:Af 0 w Fo
 qF:q∉Fo
 mF:m∉Fo
section
variable {w w':World} {q o m:Nat} {T:TypeId} {cs:Array Value} {xs:List (ByteArray×Nat)} {ov:Value} {Fo G:List Nat}
def Bd.of (h:Bd w q T o m cs xs ov Fo)(hs:w.heap.size<=w'.heap.size)(hb: ∀ k,k∈q::m::Fo->w'.heap[k]?=w.heap[k]?):Bd w' q T o m cs xs ov Fo:=
 ⟨h.blk.of<|hb _ zw,h.c0,h.sz,AO.stable OP.stable _ _ _ _ _ h.row fun j hj=>hb j (by simp[hj]),h.map.of<|hb _ zw,h.ne,h.new.later lr hs,h.qF,h.mF⟩
def Bd.lt (h:Bd w q T o m cs xs ov Fo): ∀ k,k∈q::m::Fo->k<w.heap.size:=by
 intro k hk;simp at hk;rcases hk with rfl | rfl | hk
 ·exact h.blk.lt
 ·exact h.map.lt
 ·exact h.new.lt k hk
def Bd.off (h:Bd w q T o m cs xs ov Fo)(k:Off G w w')(hd: ∀ j,j∈q::m::Fo->j∉G):Bd w' q T o m cs xs ov Fo:=
 h.of k.size fun j hj=>k.block j (h.lt j hj) (hd j hj)
def Bd.cells (h:Bd w q T o m cs xs ov Fo):w.cell? ⟨q,o,none⟩=some (.map<|some m)/\w.cell? ⟨q,o+1,none⟩=some ov/\ ∀ j,w.frozen? ⟨q,j,none⟩=false:=by
 refine⟨?_,?_,h.blk.soft⟩
 ·rw[h.blk.cell];simp only[Bc];rw[if_neg zx];exact h.c0
 ·rw[h.blk.cell];simp[h.sz]
end
def Ybv:Jk prog 29 9 1 16:=by
 obtain⟨i0,hi,hz0,hz1,hz2⟩:=info_parts (by kernel_rfl:(prog.info? 9).map (fun i=>(i.zero,i.size,i.bytes))=some (some<|.string ⟨#[]⟩,1,16));exact⟨i0,_,underlying29,hi,hz0,hz1,hz2,rfl,zu,zu⟩
def Zz8 {T:TypeId}(h:Bd w q T o m cs xs ov Fo)(x:ByteArray)(k:Nat)(hx:Jg x xs 0=none)(hl:xs.length<1000):
  Calls prog 287 #[.pointer<|Qb q o,.string x,.int .i64 (k:Int)] w fun e w'=>e= .returned (.tuple #[])/\ ∃ Aw Aj,Bd w' q T o m cs (xs++[(x,k)]) Aw Aj/\Off (q::m::Fo) w w'/\ ∀ i,i∈Aj->i∈Fo\/w.heap.size<=i:=by
 obtain⟨c0,c1,sf⟩:=h.cells;obtain⟨ob,RP,Ym⟩:=Zzq h.map x k hx;obtain⟨W1,hW1⟩: ∃ W1,AC ({w with heap:=w.heap.setIfInBounds m ob}=W1):=⟨_,⟨rfl⟩⟩;rw[hW1.out]at RP Ym;have O1:AC (Off [m] w W1):=⟨hW1.out▸(Off.refl _ w).put m ob zw⟩;have H:=AA h;have b1:W1.heap[q]?=w.heap[q]?:=O1.out.block q h.blk.lt (by simpa using h.ne);have su:W1.cell? ⟨q,o,none⟩=some (.map<|some m):=(Am (a:=⟨q,o,none⟩) b1).trans c0;have RX:W1.cell? ⟨q,o+1,none⟩=some ov:=(Am (a:=⟨q,o+1,none⟩) b1).trans c1;have yV: ∀ j,W1.frozen? ⟨q,j,none⟩=false:=fun j=>(Xj (a:=⟨q,j,none⟩) b1).trans (sf j);have R1:=AA (AO.stable OP.stable _ W1 _ _ _ h.row fun j hj=>O1.out.block j (h.new.lt j hj) (fun e=>by simp at e;subst e;exact h.mF hj));have o9:=AA Ym;have hs1:=O1.out.size;have N1:AC (Af 0 W1 Fo):=⟨h.new.later lr O1.out.size⟩;have Dv:q<W1.heap.size:=Ba h.blk.lt hs1;have zg:(xs.map (·.1)).length<100000000:=by simp;omega
 clear h Ym hx c1 sf;go_in
 go_wp2_with (at_builtin;go_must (refine MW Ybv rfl (.tmp 16) (.tmp 18) rfl OP.stable (fun _ _ _ _ h=>OP.one h) 0 ov (xs.map (·.1)) Fo rfl (AO.stable OP.stable _ _ _ _ _ R1.out fun j hj=>Ah _ _ _ (N1.out.lt j hj)) W1.heap.size #[.string x] 9 (0,0) x [] rfl (IC _ _) rfl ⟨rfl,rfl⟩ zg (Ii _) (N1.out.later lr zw) (Af.nil _ _) (fun _ _ h=>by cases h) ?_);intro g8 TW w8 F8 AM;have b8:=(AM.same q (by simp;omega) H.out.qF).trans<|Ah _ _ _ Dv;have c8:=(Am (a:=⟨q,o+1,none⟩) b8).trans RX;have s8:=fun j=>(Xj (a:=⟨q,j,none⟩) b8).trans (yV j))
 go_end0
 have Sv:=o9.out.lt;have hz:W1.heap.size<w8.heap.size:=by have:=AM.size;simp at this;omega
 have nF: ∀ j,j<W1.heap.size->j∉Fo->j∉F8:=fun j hj hn hF=>by
  rcases AM.sub j hF with h | h | h
  ·exact hn h
  ·cases h
  ·simp at h;omega
 have hsm: ∀ j,j<W1.heap.size->j∉Fo->w8.heap[j]?=W1.heap[j]?:=fun j hj hn=>(AM.same j (by simp;omega) hn).trans (Ah _ _ _ hj);have zV:=nF q Dv H.out.qF;refine⟨rfl,.slice (Qb g8 0) (xs.length+1) TW,F8,⟨?_,H.out.c0,H.out.sz,?_,?_,H.out.ne,⟨AM.new.once,fun _ _=>Ii _,fun j hj=>by have:=AM.new.lt j hj;simpa[World.setCell]using this⟩,zV,nF m Sv H.out.mF⟩,?_,?_⟩
 ·have:=(H.out.blk.of<|b8.trans b1).set (o+1) (.slice (Qb g8 0) (xs.length+1) TW)
  rwa [ja]at this
 ·have:=AO.stable OP.stable _ (w8.setCell ⟨q,o+1,none⟩<|.slice (Qb g8 0) (xs.length+1) TW) _ _ _ AM.row fun j hj=>Au _ _ _ _ (fun e=>zV (by rw[show q=j from e.symm];exact hj))
  simpa using this
 ·exact o9.out.of<|(Au _ _ _ _ fun e=>H.out.ne e.symm).trans<|hsm m Sv H.out.mF
 ·refine Off.set ⟨AM.os.trans O1.out.os,AM.tape.trans O1.out.tape,AM.output.trans O1.out.output,zx,fun j hj hn=>?_⟩ q (o+1) _ zw;simp at hn;exact(hsm j zx hn.2.2).trans<|O1.out.block j hj (by simpa using hn.2.1)
 ·intro i hi;rcases AM.sub i hi with h | h | h
  ·exact .inl h
  ·cases h
  ·simp at h;exact .inr zx
def Z5g {T:TypeId}(h:Bd w q T o m cs [] ov Fo):
  Calls prog 283 #[.pointer<|Qb q o,.int .i64 0] w fun e w'=>e= .returned (.tuple #[])/\ ∃ Aw,Bd w' q T o m cs [] Aw Fo/\Off (q::m::Fo) w w':=by
 obtain⟨c0,c1,sf⟩:=h.cells;obtain⟨p,c,rfl⟩:=h.row.form;have H:=AA h;clear h;simp only[List.map_nil,D7]at c1 H;go_in
 go_wp2
 refine Dt 1 ?_;rw[A8];go_wp2
 go_end0
 refine⟨rfl,.slice p 0 c,⟨?_,H.out.c0,H.out.sz,?_,?_,H.out.ne,⟨H.out.new.once,fun _ _=>Ii _,fun j hj=>by have:=H.out.new.lt j hj;simpa[World.setCell]using this⟩,H.out.qF,H.out.mF⟩,(Off.refl _ w).set q (o+1) _ zw⟩
 ·have:=H.out.blk.set (o+1) (.slice p 0 c)
  rwa [ja]at this
 ·exact AO.stable OP.stable _ _ _ _ _ H.out.row fun j hj=>Au _ _ _ _ (fun e=>H.out.qF (by rw[show q=j from e.symm];exact hj))
 ·exact H.out.map.of<|Au _ _ _ _ fun e=>H.out.ne e.symm
def AO.dS {e:TypeId}{v:Value}{F:List Nat}(h:AO e 1 OP w v [x] F): ∃ g cap,v= .slice (Qb g 0) 1 cap/\w.cell? ⟨g,0,none⟩=some (.string x)/\AO e 1 OP w (.slice (Qb g 0) 0 cap) [] F/\1<=cap:=by
 obtain⟨zs,hown,hz,hx,rfl,hl⟩:=h;match zs,hx with
 | [z],hx=>
  simp at hx;obtain⟨hz1,hz2,hz3⟩:=hz z zw;rw[<- hx]at hz3;have pm:=hz2;rcases hown.2 with⟨_,h0⟩ | ⟨g,cap,cur,rfl,h1,h2,h3,h4,h5,h6⟩
  ·simp at h0
  ·refine⟨g,cap,rfl,?_,⟨[],⟨zw,.inr ⟨g,cap,cur,rfl,h1,h2,Ii _,h4,h5,zw⟩⟩,fun _ h=>(by cases h),rfl,?_,zw⟩,by simpa using h3⟩
   ·have:=hown.cells (g:=g) rfl 0 (.string x) (by simp[hz3])
    exact this
   ·simp[pm,Value.ownBlock]
def Z8z {k:Nat}{T:TypeId}(h:Bd w q T o m cs [(x,k)] ov Fo):
  Calls prog 283 #[.pointer<|Qb q o,.int .i64 0] w fun e w'=>e= .returned (.tuple #[])/\ ∃ Aw,Bd w' q T o m cs [] Aw Fo/\Off (q::m::Fo) w w':=by
 obtain⟨c0,c1,sf⟩:=h.cells;obtain⟨g,c,rfl,cg,IY,hc1⟩:=AO.dS h.row;obtain⟨ob,RP,Ym⟩:=Zx4 h.map;obtain⟨W1,hW1⟩: ∃ W1,AC ({w with heap:=w.heap.setIfInBounds m ob}=W1):=⟨_,⟨rfl⟩⟩;rw[hW1.out]at RP Ym;have O1:AC (Off [m] w W1):=⟨hW1.out▸(Off.refl _ w).put m ob zw⟩;have b1:W1.heap[q]?=w.heap[q]?:=O1.out.block q h.blk.lt (by simpa using h.ne);have RX:W1.cell? ⟨q,o+1,none⟩=some (.slice (Qb g 0) 1 c):=(Am (a:=⟨q,o+1,none⟩) b1).trans c1;have yV: ∀ j,W1.frozen? ⟨q,j,none⟩=false:=fun j=>(Xj (a:=⟨q,j,none⟩) b1).trans (sf j);have H:=AA h;have o9:=AA Ym;have R0:=AA IY;clear h Ym IY;go_in
 go_wp2
 refine Dt 2 ?_;rw[A8];go_wp2_with fail
 rw[A8];go_wp2
 go_end0
 have nF:=H.out.new;refine⟨rfl,.slice (Qb g 0) 0 c,⟨?_,H.out.c0,H.out.sz,?_,?_,H.out.ne,⟨nF.once,fun _ _=>Ii _,fun j hj=>Ba (nF.lt j hj) (by simpa[World.setCell]using O1.out.size)⟩,H.out.qF,H.out.mF⟩,(O1.out.mono zw).set q (o+1) _ zw⟩
 ·have:=(H.out.blk.of b1).set (o+1) (.slice (Qb g 0) 0 c)
  rwa [ja]at this
 ·exact AO.stable OP.stable _ _ _ _ _ R0.out fun j hj=>(Au _ _ _ _ fun e=>H.out.qF (by rw[show q=j from e.symm];exact hj)).trans (O1.out.block j (nF.lt j hj) fun e=>H.out.mF (by rw[<- MX.1 e];exact hj))
 ·exact o9.out.of<|Au _ _ _ _ fun e=>H.out.ne e.symm
def jG {T:TypeId}(h:Bd w q T o m cs xs ov Fo)(hl:xs.length<=1):
  Calls prog 283 #[.pointer<|Qb q o,.int .i64 0] w fun e w'=>e= .returned (.tuple #[])/\ ∃ Aw,Bd w' q T o m cs [] Aw Fo/\Off (q::m::Fo) w w':=by
 match xs,hl with
 | [],_=>exact Z5g h
 | [(x,k)],_=>exact Z8z h
end Go.P
namespace Go.W
variable {s:ByteArray×Nat}
def JL (w:World) (g:Nat) (s:ByteArray×Nat):Prop:=g<w.heap.size/\w.cell? ⟨g,0,none⟩=some (.string s.1)/\w.cell? ⟨g,1,none⟩=some (.int .i64 (s.2:Int))/\s.1.size<1000000000
def JL.of {w w':World}{g:Nat}(h:JL w g s)(hs:w.heap.size<=w'.heap.size)(hb:w'.heap[g]?=w.heap[g]?):JL w' g s:=
 ⟨Ba h.1 hs,(Am (a:=⟨g,0,none⟩) hb).trans h.2.1,(Am (a:=⟨g,1,none⟩) hb).trans h.2.2.1,h.2.2.2⟩
def He (x:ByteArray×Nat):List Value:=[.string x.1,.int .i64 1,.int .i64 (x.2:Int),.int .i64 0,.int .i64 0,.int .i64 0,.int .i64 0,.int .i64 0]
def GU (xs:List (ByteArray×Nat)) (pn:ByteArray) (s x:ByteArray×Nat):Bool×List (ByteArray×Nat):=
 if pn≠x.1 then(false,xs)else if(GK xs s).2=false then(true,xs++[(s.1,x.2)])else(decide<|(GK xs s).1=x.2,xs)
def Zw5 {xs:List (ByteArray×Nat)}(h:(GK xs s).2=false):Jg s.1 xs 0=none:=by
 unfold GK at h;split at h
 ·cases h
 ·simpa using h
end Go.W
namespace Go.P
def Jd (w:World)(o:Obj)(cs:Array Value)(e:TypeId):AJ ((w.alloc o).alloc<|.cells cs e) (w.heap.size+1) cs e:=by
 have:=AJ.new (w.alloc o) cs e
 rwa [EH]at this
def UC (w:World)(o o':Obj)(cs:Array Value)(e:TypeId):AJ (((w.alloc o).alloc o').alloc<|.cells cs e) (w.heap.size+1+1) cs e:=by
 have:=AJ.new ((w.alloc o).alloc o') cs e
 rwa [EH,EH]at this
def ut {w:World}{q o m:Nat}{T:TypeId}{cs:Array Value}{xs:List (ByteArray×Nat)}{ov:Value}{Fo:List Nat}(h:Bd w q T o m cs xs ov Fo){g c:Nat}{s:ByteArray×Nat}(hg:JL w g s)(pn:ByteArray)(x:ByteArray×Nat)(hl:xs.length<1000):
  Calls prog 282 #[.pointer<|Qb q o,.agg #[.string pn,.slice (Qb g 0) 1 c],.agg (He x).toArray] w fun e w'=>e= .returned (.bool (GU xs pn s x).1)/\ ∃ Aw Aj,Bd w' q T o m cs (GU xs pn s x).2 Aw Aj/\Off (q::m::Fo) w w'/\ ∀ i,i∈Aj->i∈Fo\/w.heap.size<=i:=by
 obtain⟨Kq,g0,g1,hsz⟩:=hg;unfold He;have H:=AA h;have B2:=fun o1 o2=>((AQ w.heap.size w).alloc lr o1).alloc zw o2;have CO:=AA fun u (hu:Bl w u)=>uG (w:=u) (q:=q) (o:=o) (v:= .map<|some m) (xs:=xs) (.inr ⟨m,rfl,h.map.of<|hu.block m h.map.lt⟩) ((Am (a:=⟨q,o,none⟩)<|hu.block q h.blk.lt).trans h.cells.1) (Ba h.blk.lt hu.size) (fun j hj=>by injection hj with hj;injection hj with hj;subst hj;exact Ba h.map.lt hu.size) s hsz;have CB:=AA fun u (hu:Bl w u) (h0:Jg s.1 xs 0=none)=>Zz8 (h.of (w':=u) hu.size fun k hk=>hu.block k (h.lt k hk)) s.1 x.2 h0 hl;have B3:=fun o1 o2 o3=>(B2 o1 o2).alloc (by simp;omega) o3;clear h;by_cases hn:pn=x.1
 ·subst hn;have e1:(x.1.toList==x.1.toList)=true:=zw
  have EM:AC (GU xs x.1 s x=if(GK xs s).2=false then(true,xs++[(s.1,x.2)])else(decide<|(GK xs s).1=x.2,xs)):=⟨if_neg zw⟩;generalize GU xs x.1 s x=r at*;go_in
  go_wp2
  refine Dt 2 ?_;rw[A8];go_wp2_with fail
  refine(CO.out _<|B3 _ _ _).mono ?_;rintro e w1 ⟨rfl,hb1⟩;have f1:=(((Jd w _ _ _).alloc _).of<|hb1.block (w.heap.size+1) zw).cell 2;have s1:=((UC w _ _ _ _).of<|hb1.block (w.heap.size+1+1) zw).cell 0;simp at f1 s1;have HB:=AA<|(B3 _ _ _).trans<|hb1.mono (by simp;omega);clear hb1 CO;have EN:=AA<|Zw5 (xs:=xs) (s:=s);generalize (GK xs s).1=v at*;generalize (GK xs s).2=kn at*;cases kn
  ·replace EN:AC (Jg s.1 xs 0=none):=⟨EN.out rfl⟩
   replace EM:AC (r=(true,xs++[(s.1,x.2)])):=⟨EM.out⟩
   go_wp2
   go_region_with (go_at_call 287;refine(CB.out _ HB.out.drew EN.out).mono ?_;rintro e w2 ⟨rfl,dR,F2,Kt,Dj,hF2⟩)
   all_goals
    have Do:=AA<|AF Kt<|AF ((Off.of (F:=q::m::Fo) HB.out.drew).trans Dj fun _ h=> .inl h) hF2;clear Kt Dj hF2;go_wp2_with fail
    rw[A8];go_wp2
    go_ret
    have:=HB.out.size
    rw[EM.out];exact⟨rfl,dR,F2,Do.out.1,Do.out.2.1,fun i hi=>(Do.out.2.2 i hi).imp id fun h=>AU this h⟩
  ·clear EN CB;replace EM:AC (r=(decide<|v=x.2,xs)):=⟨EM.out⟩
   have H1:AC (Bd w1 q T o m cs xs ov Fo):=⟨H.out.of HB.out.size fun k hk=>HB.out.block k (H.out.lt k hk)⟩;by_cases hv:v=x.2
   ·have e2:((v:Int) != (x.2:Int))=false:=by simp[hv]
    go_wp2_with fail
    rw[A8];go_wp2
    go_ret
    rw[EM.out,QJ hv];exact⟨rfl,ov,Fo,H1.out,Off.of HB.out,fun _ h=> .inl h⟩
   ·have e2:((v:Int) != (x.2:Int))=true:=by simp;omega
    go_wp2
    go_ret
    rw[EM.out,Oi hv];exact⟨rfl,ov,Fo,H1.out,Off.of HB.out,fun _ h=> .inl h⟩
 ·have e1:(pn.toList==x.1.toList)=false:=by rw[mg];simp[hn]
  have E:AC (GU xs pn s x=(false,xs)):=⟨if_pos hn⟩;rw[E.out];clear CO;go_in
  go_wp2
  go_ret
  exact⟨rfl,ov,Fo,H.out.of (B2 _ _).size fun k hk=>(B2 _ _).block k (H.out.lt k hk),Off.of<|B2 _ _,fun _ h=> .inl h⟩
end Go.P
