import Derived.Test.YtghnjdpgbldlkaaGreatDoorW00
import Derived.Lib.ValidU
import Derived.Lib.LaidU8
import Derived.Laws.BitsAllLaws
import Derived.Lib.AppendZerosOnto
set_option linter.defProp false
set_option maxRecDepth 100000
set_option maxHeartbeats 8000000
set_option linter.unusedSimpArgs false
open Go.Proofs Go.RowKit Go.W Tryz
namespace Go.P
variable {b' o' c':Nat}
section
variable {w:World} {p b o c:Nat} {hn:ByteArray} {pt pb pg:Option Addr} {nt ct nb cb ng cg:Nat} {J:World->Prop}
def Z3e (r0:w.cell? ⟨b,o,none⟩=some (.string hn))(r1:w.cell? ⟨b,o+1,none⟩=some (.slice pt nt ct))(r2:w.cell? ⟨b,o+2,none⟩=some (.slice pb nb cb))(r3:w.cell? ⟨b,o+3,none⟩=some (.slice pg ng cg))(CH:Calls prog 195 #[.pointer<|Qb p 0,.agg #[.string hn,.slice pt nt ct,.slice pb nb cb,.slice pg ng cg]] w fun e w'=>e= .returned (.bool true)/\J w'):
  Calls prog 229 #[.slice (Qb b o) 1 c,.func (.func 195) #[.pointer<|Qb p 0] #[]] w fun e w'=>e= .returned (.int .i64 0)/\J w':=by
 have hen: ∀ args w,(callFunc 195 args).run prog w= .ok (.enter 195 args) w:=DL func195 zt rfl;have C:=AA CH;clear CH;go_in
 go_wp2
 refine Dt 1 ?_;rw[A8];go_wp2_with fail
 refine mq C.out ?_;rintro w1 j;have J1:=AA j;clear j;go_wp2
 go_ret
 exact⟨rfl,J1.out⟩
def Zt2 (r0:w.cell? ⟨b,o,none⟩=some (.string hn))(r1:w.cell? ⟨b,o+1,none⟩=some (.slice pt nt ct))(r2:w.cell? ⟨b,o+2,none⟩=some (.slice pb nb cb))(r3:w.cell? ⟨b,o+3,none⟩=some (.slice pg ng cg))(CH:Calls prog 195 #[.pointer<|Qb p 0,.agg #[.string hn,.slice pt nt ct,.slice pb nb cb,.slice pg ng cg]] w fun e w'=>e= .returned (.bool true)/\J w'):
  Calls prog 194 #[.slice (Qb b o) 1 c,.func (.func 195) #[.pointer<|Qb p 0] #[]] w fun e w'=>e= .returned (.bool true)/\J w':=by
 have C:=AA<|Z3e (c:=c) r0 r1 r2 r3 CH;clear CH r0 r1 r2 r3;go_in
 go_wp2_with fail
 refine mq C.out ?_;rintro w1 j;have J1:=AA j;clear j;go_wp2
 go_ret
 exact⟨rfl,J1.out⟩
def Znn (r0:w.cell? ⟨b,o,none⟩=some (.string hn))(r1:w.cell? ⟨b,o+1,none⟩=some (.slice pt nt ct))(r2:w.cell? ⟨b,o+2,none⟩=some (.slice pb nb cb))(r3:w.cell? ⟨b,o+3,none⟩=some (.slice pg ng cg))(CH:Calls prog 195 #[.pointer<|Qb p 0,.agg #[.string hn,.slice pt nt ct,.slice pb nb cb,.slice pg ng cg]] w fun e w'=>e= .returned (.bool true)/\J w'):
  Calls prog 143 #[.pointer<|Qb p 0,.slice (Qb b o) 1 c] w fun e w'=>e= .returned (.bool true)/\J w':=by
 have C:=AA<|Zt2 (c:=c) r0 r1 r2 r3 CH;have Dw:=fun(fn:Fn) (first cap:Array Value) (w:World)=>(rfl:(Instr.makeFunc fn first cap).run prog w= .ok (.func fn first cap) w);clear CH r0 r1 r2 r3;go_in
 go_wp2_with fail
 refine mq C.out ?_;rintro w1 j;have J1:=AA j;clear j;go_wp2
 go_ret
 exact⟨rfl,J1.out⟩
def Zy3 (pc:Option Addr)(cc:Nat):Calls prog 94 #[.pointer<|Qb p 0,.slice pc 0 cc] w fun e w'=>e= .returned (.bool true)/\w'=w:=by
 go_in
 go_wp2
 refine Dt 1 ?_;rw[A8];go_wp2
 go_ret
 exact⟨rfl,rfl⟩
def Z24 (k0:w.cell? ⟨b',o',none⟩=some (.slice (Qb b o) 1 c))(CH: ∀ u,Bl w u->Calls prog 143 #[.pointer<|Qb p 0,.slice (Qb b o) 1 c] u fun e w'=>e= .returned (.bool true)/\J w'):
  Calls prog 94 #[.pointer<|Qb p 0,.slice (Qb b' o') 1 c'] w fun e w'=>e= .returned (.bool true)/\J w':=by
 have C:=AA CH;clear CH;go_in
 go_wp2
 refine Dt 2 ?_;rw[A8];go_wp2_with fail
 refine(C.out _<|(AQ _ w).alloc lr _).mono ?_;rintro e w1 ⟨rfl,j⟩;have J1:=AA j;clear j;go_wp2_with fail
 rw[A8];go_wp2
 go_ret
 exact⟨rfl,J1.out⟩
def Z1n (k0:w.cell? ⟨b',o',none⟩=some (.bool true))(k1:w.cell? ⟨b',o'+1,none⟩=some (.slice (Qb b o) 1 c))(CH: ∀ u,Bl w u->w.heap.size<u.heap.size->Calls prog 143 #[.pointer<|Qb p 0,.slice (Qb b o) 1 c] u fun e w'=>e= .returned (.bool true)/\J w'/\w'.heap[w.heap.size]?=u.heap[w.heap.size]?):
  Calls prog 95 #[.pointer<|Qb p 0,.slice (Qb b' o') 1 c'] w fun e w'=>e= .returned (.bool true)/\J w':=by
 have C:=AA CH;clear CH;go_in
 go_wp2
 refine Dt 2 ?_;rw[A8];go_wp2_with fail
 refine(C.out _ ((AQ _ w).alloc lr _) zw).mono ?_;rintro e w1 ⟨rfl,j,hk⟩;have J1:=AA j;have y0:=((AJ.new w #[.bool true,.slice (Qb b o) 1 c] 162).of hk).two.1;clear j hk;go_wp2
 go_ret
 exact⟨rfl,J1.out⟩
end
end Go.P
namespace Go.W
variable {B d b o B':Nat}{w w':World}{x:T}{vs:List Value}
def av (t:ByteArray):Bool:=Lib.validD t.data.toList
def Pq (k i:Int) (t:ByteArray) (n:Nat) (named valid:Bool):Bool:=
 if k=1 then decide (i=0) && decide (n=0) && named else if k=3 then decide (i=0) && decide (n=0) && valid else if k=4 then decide (i=0) && decide (n=0)
 else if k=2\/k=5 then decide (t.size=0) && decide (n=0)else if k=6 then decide (t.size=0) && decide (n=0) && (decide (i=0) || decide (i=1))else if k=7 then decide (i=0) && decide (t.size=0)else false
def GN (k i:Int) (t:ByteArray) (n:Nat):Bool:=Pq k i t n (En t)<|av t
def MI (d:Nat) (k i:Int) (t:ByteArray) (n:Nat):Int:=if GN k i t n=false\/k=1/\0<d then 2 else if 64<t.size\/6<n then 4 else if k=7/\d=3 then 3 else 0
mutual
def A9 (d:Nat):T->Int
 | .mk k i t l=>if MI d k i t l.length≠0 then MI d k i t l.length else ZY (d+1) l
def ZY (d:Nat):List T->Int
 | []=>0
 | x::r=>if A9 d x≠0 then A9 d x else ZY d r
end
def Zsy (d:Nat)(l:List T):ZY d l=EF (A9 d) l:=by
 induction l with
 | nil=>simp[ZY,EF]
 | cons x r ih=>simp[ZY,EF,ih]
def mJ (d:Nat)(x:T):A9 d x=if MI d x.k x.i x.t x.l.length≠0 then MI d x.k x.i x.t x.l.length else EF (A9<|d+1) x.l:=by
 cases x;rw[A9,Zsy];rfl
def ES {α:Type} (f:α->Int) (m:Nat) (l:List α):Int:=if m<l.length then 4 else EF f l
def ER (a:A):Int:=if En a.name=false then 2 else ES (A9 0) 6 a.terms
def Ez (l:List T) (body:List A):Bool:=l.all fun t=> !Z85 t || body.any fun a=>a.terms.any fun x=>Z85 x && decide (x.t=t.t)
def MU (body:List A) (t:T):Int:=if A9 0 t≠0 then A9 0 t else if Ez [t] body=false then 5 else 0
def MP (body:List A) (g:G):Int:=if g.op<1\/7<g.op then 2 else if MU body g.a≠0 then MU body g.a else MU body g.b
def GX (r:R):Int:=if r.body.length=0/\r.guards.length=0 then 2 else if 4<r.body.length\/4<r.guards.length then 4 else if EF ER r.body≠0 then EF ER r.body else EF (MP r.body) r.guards
def MV (r:R):Int:=if ER r.head≠0 then ER r.head else if GX r≠0 then GX r else if Ez r.head.terms r.body=false then 5 else 0
def Og (r:R):Int:=if r.head.name.size≠0\/0<r.head.terms.length then 2 else GX r
def Hq (l:List R):Int:=if l.length=0 then 2 else ES Og 4 l
def PP (a:A):Int:=if ER a≠0 then ER a else if Ez a.terms []=false then 5 else 0
def GV (b:Bk):Int:=if ES PP 24 b.facts≠0 then ES PP 24 b.facts else if ES MV 24 b.rules≠0 then ES MV 24 b.rules else ES Hq 24 b.checks
def JO:List ByteArray:=[FH 1,FH 2,FH 3,FH 4,FH 5,FH 6,FH 7]
def xC:List Nat:=[34,34,92,92,110,10,116,9,114,13]
def oH:List Nat:=[0x6a09e667,0xbb67ae85,0x3c6ef372,0xa54ff53a,0x510e527f,0x9b05688c,0x1f83d9ab,0x5be0cd19]
def XQ:List Nat:=[0x428a2f98,0x71374491,0xb5c0fbcf,0xe9b5dba5,0x3956c25b,0x59f111f1,0x923f82a4,0xab1c5ed5,0xd807aa98,0x12835b01,0x243185be,0x550c7dc3,0x72be5d74,0x80deb1fe,0x9bdc06a7,0xc19bf174,0xe49b69c1,0xefbe4786,0x0fc19dc6,0x240ca1cc,0x2de92c6f,0x4a7484aa,0x5cb0a9dc,0x76f988da,0x983e5152,0xa831c66d,0xb00327c8,0xbf597fc7,0xc6e00bf3,0xd5a79147,0x06ca6351,0x14292967,0x27b70a85,0x2e1b2138,0x4d2c6dfc,0x53380d13,0x650a7354,0x766a0abb,0x81c2c92e,0x92722c85,0xa2bfe8a1,0xa81a664b,0xc24b8b70,0xc76c51a3,0xd192e819,0xd6990624,0xf40e3585,0x106aa070,0x19a4c116,0x1e376c08,0x2748774c,0x34b0bcb5,0x391c0cb3,0x4ed8aa4a,0x5b9cca4f,0x682e6ff3,0x748f82ee,0x78a5636f,0x84c87814,0x8cc70208,0x90befffa,0xa4506ceb,0xbef9a3f7,0xc67178f2]
def Dn (B:Nat) (w:World) (d:Nat) (vs:List Value) (x:T):Prop:= ∃ p c,vs=[.int .i64 x.k,.int .i64 x.i,.string x.t,.slice p x.l.length c]/\x.t.size<1000000000/\Ey x.k/\Ey x.i/\x.l.length<=c/\Ap 4 (D6 B w d) p x.l
def FM (B:Nat) (w:World) (d:Nat) (vs:List Value) (x:A):Prop:= ∃ p c,vs=[.string x.name,.slice p x.terms.length c]/\x.name.size<1000000000/\x.terms.length<=c/\Ap 4 (D6 B w<|d+1) p x.terms
def LY (B:Nat) (w:World) (d:Nat) (vs:List Value) (x:G):Prop:= ∃ va vb,vs= .int .i64 x.op::(va++vb)/\Ey x.op/\Dn B w d va x.a/\Dn B w d vb x.b
def GR (B:Nat) (w:World) (d:Nat) (vs:List Value) (x:R):Prop:= ∃ va p c p' c',vs=va++[.slice p x.body.length c,.slice p' x.guards.length c']/\FM B w d va x.head/\x.body.length<=c/\Ap 2 (DX B w<|d+1) p x.body/\x.guards.length<=c'/\Ap 9 (JN B w<|d+1) p' x.guards
def P6 (B:Nat) (w:World) (d:Nat) (vs:List Value) (x:List R):Prop:= ∃ p c,vs=[.slice p x.length c]/\x.length<=c/\Ap 4 (E5 B w<|d+1) p x
def cK (B:Nat) (w:World) (d:Nat) (vs:List Value) (x:IV):Prop:= ∃ p c,vs=[.bool x.allow,.slice p x.either.length c]/\x.either.length<=c/\Ap 4 (E5 B w<|d+1) p x.either
def DW (B:Nat) (w:World) (d:Nat) (vs:List Value) (x:Bk):Prop:= ∃ p c p' c' p2 c2,vs=[.slice p x.facts.length c,.slice p' x.rules.length c',.slice p2 x.checks.length c2]/\x.facts.length<=c/\Ap 2 (DX B w<|d+1) p x.facts/\x.rules.length<=c'/\Ap 4 (E5 B w<|d+1) p' x.rules/\x.checks.length<=c2/\Ap 1 (Qo B w<|d+1) p2 x.checks
def D6.vals (h:D6 B w (d+1) b o x):b<B/\ ∃ p c,w.cell? ⟨b,o,none⟩=some (.int .i64 x.k)/\w.cell? ⟨b,o+1,none⟩=some (.int .i64 x.i)/\w.cell? ⟨b,o+2,none⟩=some (.string x.t)/\w.cell? ⟨b,o+3,none⟩=some (.slice p x.l.length c)/\Dn B w d [.int .i64 x.k,.int .i64 x.i,.string x.t,.slice p x.l.length c] x:=by
 obtain⟨hb,lv,c0,c1,c2,c3,hi⟩:=h;obtain⟨p,c,rfl,hc,hr⟩:=hi.l;exact⟨hb,p,c,c0,c1,c2,c3,p,c,rfl,hi.tr,hi.kr,hi.ir,hc,hr⟩
def Ap.carry {α:Type}{s:Nat}{Q Q':Nat->Nat->α->Prop}{p:Option Addr}{xs:List α}(h:Ap s Q p xs)(f: ∀ b o x,Q b o x->Q' b o x):Ap s Q' p xs:=
 ⟨h.len,fun i x hx=>by obtain⟨b,o,e,q⟩:=h.at_ i x hx;exact⟨b,o,e,f _ _ _ q⟩⟩
def Dn.carry (h:Dn B w d vs x)(c:Dy B B' w w'):Dn B' w' d vs x:=by
 obtain⟨p,k,h0,h1,h2,h3,h4,h5⟩:=h;exact⟨p,k,h0,h1,h2,h3,h4,h5.carry fun _ _ _ q=>q.carry c lr⟩
def FM.carry {x:A}(h:FM B w d vs x)(c:Dy B B' w w'):FM B' w' d vs x:=by
 obtain⟨p,k,h0,h1,h2,h5⟩:=h;exact⟨p,k,h0,h1,h2,h5.carry fun _ _ _ q=>q.carry c lr⟩
def DX.vals {x:A}(h:DX B w (d+1) b o x):b<B/\ ∃ p c,w.cell? ⟨b,o,none⟩=some (.string x.name)/\w.cell? ⟨b,o+1,none⟩=some (.slice p x.terms.length c)/\FM B w d [.string x.name,.slice p x.terms.length c] x:=by
 obtain⟨hb,c0,hs,tv,c1,p,c,rfl,hc,hr⟩:=h;exact⟨hb,p,c,c0,c1,p,c,rfl,hs,hc,hr⟩
def JN.vals {x:G}(h:JN B w (d+1) b o x):b<B/\ ∃ p c p' c',w.cell? ⟨b,o,none⟩=some (.int .i64 x.op)/\w.cell? ⟨b,o+1,none⟩=some (.int .i64 x.a.k)/\w.cell? ⟨b,o+2,none⟩=some (.int .i64 x.a.i)/\w.cell? ⟨b,o+3,none⟩=some (.string x.a.t)/\w.cell? ⟨b,o+4,none⟩=some (.slice p x.a.l.length c)/\w.cell? ⟨b,o+5,none⟩=some (.int .i64 x.b.k)/\w.cell? ⟨b,o+6,none⟩=some (.int .i64 x.b.i)/\w.cell? ⟨b,o+7,none⟩=some (.string x.b.t)/\w.cell? ⟨b,o+8,none⟩=some (.slice p' x.b.l.length c')/\LY B w d [.int .i64 x.op,.int .i64 x.a.k,.int .i64 x.a.i,.string x.a.t,.slice p x.a.l.length c,.int .i64 x.b.k,.int .i64 x.b.i,.string x.b.t,.slice p' x.b.l.length c'] x:=by
 obtain⟨hb,c0,ho,ha,hb2⟩:=h;obtain⟨_,p,c,a0,a1,a2,a3,sa⟩:=ha.vals;obtain⟨_,p',c',b0,b1,b2,b3,sb⟩:=hb2.vals;exact⟨hb,p,c,p',c',c0,a0,a1,a2,a3,b0,b1,b2,b3,_,_,rfl,ho,sa,sb⟩
def E5.vals {x:R}(h:E5 B w (d+1) b o x):b<B/\ ∃ p c p' c' p2 c2,w.cell? ⟨b,o,none⟩=some (.string x.head.name)/\w.cell? ⟨b,o+1,none⟩=some (.slice p x.head.terms.length c)/\w.cell? ⟨b,o+2,none⟩=some (.slice p' x.body.length c')/\w.cell? ⟨b,o+3,none⟩=some (.slice p2 x.guards.length c2)/\GR B w d [.string x.head.name,.slice p x.head.terms.length c,.slice p' x.body.length c',.slice p2 x.guards.length c2] x:=by
 obtain⟨hb,hh,⟨bv,c2,p2,k2,rfl,h2,r2⟩,gv,c3,p3,k3,rfl,h3,r3⟩:=h;obtain⟨_,p,c,c0,c1,sh⟩:=hh.vals;exact⟨hb,p,c,p2,k2,p3,k3,c0,c1,c2,c3,_,p2,k2,p3,k3,rfl,sh,h2,r2,h3,r3⟩
def Qo.vals {x:List R}(h:Qo B w (d+1) b o x):b<B/\ ∃ p c,w.cell? ⟨b,o,none⟩=some (.slice p x.length c)/\P6 B w d [.slice p x.length c] x:=by
 obtain⟨hb,v,c0,p,c,rfl,hc,hr⟩:=h;exact⟨hb,p,c,c0,p,c,rfl,hc,hr⟩
def Ni.vals {x:IV}(h:Ni B w (d+1) b o x):b<B/\ ∃ p c,w.cell? ⟨b,o,none⟩=some (.bool x.allow)/\w.cell? ⟨b,o+1,none⟩=some (.slice p x.either.length c)/\cK B w d [.bool x.allow,.slice p x.either.length c] x:=by
 obtain⟨hb,c0,v,c1,p,c,rfl,hc,hr⟩:=h;exact⟨hb,p,c,c0,c1,p,c,rfl,hc,hr⟩
def LY.carry {x:G}(h:LY B w d vs x)(c:Dy B B' w w'):LY B' w' d vs x:=by
 obtain⟨va,vb,h0,h1,h2,h3⟩:=h;exact⟨va,vb,h0,h1,Dn.carry h2 c,Dn.carry h3 c⟩
def GR.carry {x:R}(h:GR B w d vs x)(c:Dy B B' w w'):GR B' w' d vs x:=by
 obtain⟨va,p,k,p',k',h0,h1,h2,h3,h4,h5⟩:=h;exact⟨va,p,k,p',k',h0,FM.carry h1 c,h2,h3.carry fun _ _ _ q=>q.carry c lr,h4,h5.carry fun _ _ _ q=>q.carry c lr⟩
def P6.carry {x:List R}(h:P6 B w d vs x)(c:Dy B B' w w'):P6 B' w' d vs x:=by
 obtain⟨p,k,h0,h2,h3⟩:=h;exact⟨p,k,h0,h2,h3.carry fun _ _ _ q=>q.carry c lr⟩
def cK.carry {x:IV}(h:cK B w d vs x)(c:Dy B B' w w'):cK B' w' d vs x:=by
 obtain⟨p,k,h0,h2,h3⟩:=h;exact⟨p,k,h0,h2,h3.carry fun _ _ _ q=>q.carry c lr⟩
def DW.carry {x:Bk}(h:DW B w d vs x)(c:Dy B B' w w'):DW B' w' d vs x:=by
 obtain⟨p,k,p1,k1,p2,k2,h0,h2,h3,h4,h5,h6,h7⟩:=h;exact⟨p,k,p1,k1,p2,k2,h0,h2,h3.carry fun _ _ _ q=>q.carry c lr,h4,h5.carry fun _ _ _ q=>q.carry c lr,h6,h7.carry fun _ _ _ q=>q.carry c lr⟩
def BJ {u:World}(h:Bl w u)(hB:B<=w.heap.size):Dy B B w u:=Go.W.Below.carry (h.mono hB) lr
def Hl (o:Obj)(hB:B<=w.heap.size):Dy B B w (w.alloc o):=BJ ((AQ _ w).alloc lr o) hB
def jB {α:Type} (w:World) (f:α->Int) (l:List α) (iv:Value) (wr:World):Prop:= ∃ q:Nat,q<=l.length/\iv= .int .i64 q/\EF f (l.drop q)=EF f l/\Bl w wr
end Go.W
namespace Go.P
def tr {w u v:World}(h:AC (Bl w u))(k:Bl u v):AC (Bl w v):=⟨h.out.trans<|k.mono h.out.size⟩
variable {w:World}{p:Addr}{x:Value}
def BS (a:Nat->Addr) (n:Int):Value:=if n=0 then .nilIface else .iface 411 (.pointer<|some<|a<|n.toNat-1)
def Ih (a:Nat->Addr):BS a 0= .nilIface:=rfl
def DC (a:Nat->Addr){n:Int}(h:n≠0):BS a n= .iface 411 (.pointer<|some<|a<|n.toNat-1):=if_neg h
structure Yfw (a:Nat->Addr) (w:World):Prop where
 c1:w.cell? ⟨0,0,none⟩=some (BS a 1)
 c2:w.cell? ⟨1,0,none⟩=some (BS a 2)
 c3:w.cell? ⟨2,0,none⟩=some (BS a 3)
 c4:w.cell? ⟨3,0,none⟩=some (BS a 4)
 c5:w.cell? ⟨4,0,none⟩=some (BS a 5)
 c6:w.cell? ⟨5,0,none⟩=some (BS a 6)
 c7:w.cell? ⟨6,0,none⟩=some (BS a 7)
 c8:w.cell? ⟨7,0,none⟩=some (BS a 8)
 c9:w.cell? ⟨8,0,none⟩=some (BS a 9)
 c10:w.cell? ⟨9,0,none⟩=some (BS a 10)
 aC:Lib.Utf8Tabs 16 17 w
 syn: ∃ te pe,w.cell? ⟨19,0,none⟩=some (.iface te pe)
 rng: ∃ te pe,w.cell? ⟨20,0,none⟩=some (.iface te pe)
 ops: ∀ (i:Nat) (s:ByteArray),(JO:List ByteArray)[i]?=some s->w.cell? ⟨13,i,none⟩=some (.string s)
 marks: ∀ (i:Nat) (s:ByteArray),(PM:List ByteArray)[i]?=some s->w.cell? ⟨12,i,none⟩=some (.string s)
 esc: ∀ (i c:Nat),(xC:List Nat)[i]?=some c->w.cell? ⟨14,i,none⟩=some (.int .u8 (c:Int))
 start: ∀ (i c:Nat),(oH:List Nat)[i]?=some c->w.cell? ⟨11,i,none⟩=some (.int .u32 (c:Int))
 steps: ∀ (i c:Nat),(XQ:List Nat)[i]?=some c->w.cell? ⟨15,i,none⟩=some (.int .u32 (c:Int))
 bits:w.cell? ⟨21,0,none⟩=some (.int .u8 0)/\w.cell? ⟨21,1,none⟩=some (.int .u8 1)/\w.cell? ⟨21,3,none⟩=some (.int .u8 2)
def Aa (a:Nat->Addr) (w:World):Prop:= ∃ w0,Yfw a w0/\ ∀ g o,g<23->g<w.heap.size/\w.cell? ⟨g,o,none⟩=w0.cell? ⟨g,o,none⟩
def Ll (h:w.cell? p=some x):p.block<w.heap.size:=by
 rcases QL p.block w.heap.size with hl | hl
 ·exact hl
 ·simp[World.cell?,Zm hl]at h
def Aq {u:World}(h:w.cell? p=some x)(hb:Bl w u):u.cell? p=some x:=(hb.cell<|Ll h).trans h
section
variable {a:Nat->Addr} {w u:World}
def Aa.below (h:Aa a w)(hb:Bl w u):Aa a u:=by
 obtain⟨w0,h0,h1⟩:=h;exact⟨w0,h0,fun g o hg=>⟨Ba (h1 g o hg).1 hb.size,(hb.cell (p:=⟨g,o,none⟩) (h1 g o hg).1).trans (h1 g o hg).2⟩⟩
def Aa.size (h:Aa a w):23<=w.heap.size:=by
 obtain⟨w0,_,h1⟩:=h
 have:=(h1 (23-1) 0 zu).1
 omega
def Aa.c1 (h:Aa a w):w.cell? ⟨0,0,none⟩=some (BS a 1):=by obtain⟨_,h0,h1⟩:=h;exact(h1 _ _ zu).2.trans h0.c1
def Aa.c2 (h:Aa a w):w.cell? ⟨1,0,none⟩=some (BS a 2):=by obtain⟨_,h0,h1⟩:=h;exact(h1 _ _ zu).2.trans h0.c2
def Aa.c3 (h:Aa a w):w.cell? ⟨2,0,none⟩=some (BS a 3):=by obtain⟨_,h0,h1⟩:=h;exact(h1 _ _ zu).2.trans h0.c3
def Aa.c4 (h:Aa a w):w.cell? ⟨3,0,none⟩=some (BS a 4):=by obtain⟨_,h0,h1⟩:=h;exact(h1 _ _ zu).2.trans h0.c4
def Aa.c5 (h:Aa a w):w.cell? ⟨4,0,none⟩=some (BS a 5):=by obtain⟨_,h0,h1⟩:=h;exact(h1 _ _ zu).2.trans h0.c5
def Aa.c6 (h:Aa a w):w.cell? ⟨5,0,none⟩=some (BS a 6):=by obtain⟨_,h0,h1⟩:=h;exact(h1 _ _ zu).2.trans h0.c6
def Aa.c7 (h:Aa a w):w.cell? ⟨6,0,none⟩=some (BS a 7):=by obtain⟨_,h0,h1⟩:=h;exact(h1 _ _ zu).2.trans h0.c7
def Aa.c8 (h:Aa a w):w.cell? ⟨7,0,none⟩=some (BS a 8):=by obtain⟨_,h0,h1⟩:=h;exact(h1 _ _ zu).2.trans h0.c8
def Aa.c9 (h:Aa a w):w.cell? ⟨8,0,none⟩=some (BS a 9):=by obtain⟨_,h0,h1⟩:=h;exact(h1 _ _ zu).2.trans h0.c9
def Aa.c10 (h:Aa a w):w.cell? ⟨9,0,none⟩=some (BS a 10):=by obtain⟨_,h0,h1⟩:=h;exact(h1 _ _ zu).2.trans h0.c10
def Aa.aC (h:Aa a w):Lib.Utf8Tabs 16 17 w:=by
 obtain⟨_,h0,h1⟩:=h;exact⟨fun c hc=>(h1 _ _ zu).2.trans (h0.aC.1 c hc),fun i hi=>⟨(h1 _ _ zu).2.trans (h0.aC.2 i hi).1,(h1 _ _ zu).2.trans (h0.aC.2 i hi).2⟩⟩
end
def EE (a:Nat->Addr) (n:Int) (w:World) (e:Ending) (w':World):Prop:=e= .returned (BS a n)/\Bl w w'
def Bj (K:Nat):Prop:= ∀ args w,(callFunc K args).run prog w= .ok (.enter K args) w
end Go.P
namespace Go.W
variable {e:Int}
abbrev By:=List UInt8
def ba (l:By):ByteArray:=⟨l.toArray⟩
abbrev De (α:Type):=By->Except Int (α×By)
def De.then {α β:Type} (f:De α) (g:α->De β):De β:=fun l=>match f l with
 | .error e=> .error e
 | .ok (x,r)=>g x r
def De.map {α β:Type} (f:De α) (g:α->β):De β:=fun l=>match f l with
 | .error e=> .error e
 | .ok (x,r)=> .ok (g x,r)
def KI (n:Nat):De By:=fun l=>if l.length<n then .error 6 else .ok (l.take n,l.drop n)
def KM:De Nat:=fun l=>match l with
 | []=> .error 6
 | c::r=> .ok (c.toNat,r)
def Qt (k n:Nat):De Nat:=fun l=>match l with
 | []=> .error 6
 | c::r=>if(k=9/\1<c.toNat)\/(0<k/\c.toNat=0)then .error 7 else if c.toNat<128 then .ok (n+c.toNat*128 ^ k,r)else Qt (k+1) (n+(c.toNat-128)*128 ^ k) r
def QC:De Nat:=Qt 0 0
def Vp:De ByteArray:=(QC.then KI).map ba
def GD {α:Type} (f:De α):Nat->De (List α)
 | 0=>fun l=> .ok ([],l)
 | n+1=>f.then fun x=>(GD f n).map fun r=>x::r
def DI {α:Type} (m:Nat) (f:De α):De (List α):=QC.then fun n=>if m<n then fun _=> .error 4 else GD f n
def Td (n:Nat):Int:=if n % 2=0 then(n / 2:Nat)else -((n / 2:Nat):Int)-1
def KH:Nat->De T
 | 0=>KM.then fun k=>if k=2\/k=5 then QC.map fun n=> .mk k (Td n) ByteArray.empty []else if k=6 then KM.map fun n=> .mk k n ByteArray.empty []else if k=7 then fun _=> .error 3 else if k=1\/k=3\/k=4 then Vp.map fun t=> .mk k 0 t []else fun _=> .error 7
 | d+1=>KM.then fun k=>if k=2\/k=5 then QC.map fun n=> .mk k (Td n) ByteArray.empty []else if k=6 then KM.map fun n=> .mk k n ByteArray.empty []else if k=7 then(DI 6<|KH d).map fun x=> .mk k 0 ByteArray.empty x else if k=1\/k=3\/k=4 then Vp.map fun t=> .mk k 0 t []else fun _=> .error 7
def XP:De A:=Vp.then fun n=>(DI 6<|KH 3).map fun l=>⟨n,l⟩
def bG:De G:=KM.then fun o=>(KH 3).then fun a=>(KH 3).map fun b=>⟨o,a,b⟩
def XO:De R:=(DI 4 XP).then fun l=>(DI 4 bG).map fun g=>⟨⟨ByteArray.empty,[]⟩,l,g⟩
def bZ:De R:=XP.then fun h=>XO.map fun b=>⟨h,b.body,b.guards⟩
def ax:De (List R):=DI 4 XO
def Vy:De Bk:=(DI 24 XP).then fun f=>(DI 24 bZ).then fun r=>(DI 24 ax).map fun c=>⟨f,r,c⟩
def JK {α:Type} (f:De α) (l:By):Except Int α:=match f l with
 | .error e=> .error e
 | .ok (x,r)=>if r=[]then .ok x else .error 7
def Tf (l:By):Except Int Bk:=if 4000<l.length then .error 4 else match JK Vy l with
 | .error e=> .error e
 | .ok x=>if GV x≠0 then .error (GV x)else .ok x
def De.Ad {α β:Type}{f:De α}{g:α->De β}{l:By}(h:f l= .error e):f.then g l= .error e:=by unfold De.then;rw[h]
def De.then_ok {α β:Type}{f:De α}{g:α->De β}{l r:By}{x:α}(h:f l= .ok (x,r)):f.then g l=g x r:=by unfold De.then;rw[h]
def De.Av {α β:Type}{f:De α}{g:α->β}{l:By}(h:f l= .error e):f.map g l= .error e:=by unfold De.map;rw[h]
def De.map_ok {α β:Type}{f:De α}{g:α->β}{l r:By}{x:α}(h:f l= .ok (x,r)):f.map g l= .ok (g x,r):=by unfold De.map;rw[h]
def Ybk (l:By)(n:Nat):(ba l).extract 0 n=ba (l.take n):=by
 apply jK
 rw[Lr,Lr];simp[ba]
def Ybj (l:By)(n:Nat):(ba l).extract n (ba l).size=ba (l.drop n):=by
 apply jK
 rw[Lr,Lr];simp[ba,ByteArray.size];rw[Rx zw]
def Bh (l:By):(ba l).size=l.length:=by simp[ba,ByteArray.size]
end Go.W
namespace Go.W
variable {b L k B:Nat}{u v w w0:World}{x0 x1 x2 x3:Value}
structure Ac (b:Nat) (w w':World):Prop where
 os:w'.os=w.os
 tape:w'.tape=w.tape
 output:w'.output=w.output
 size:w.heap.size<=w'.heap.size
 block: ∀ k,k<w.heap.size->k≠b->w'.heap[k]?=w.heap[k]?
def Ac.refl (b:Nat)(w:World):Ac b w w:=⟨rfl,rfl,rfl,JB _,fun _ _ _=>rfl⟩
def Ac.trans (h:Ac b u v)(k:Ac b v w):Ac b u w:=
 ⟨k.os.trans h.os,k.tape.trans h.tape,k.output.trans h.output,AU h.size k.size,fun i hi hn=>(k.block i (Ba hi h.size) hn).trans (h.block i hi hn)⟩
def Ac.alloc (h:Ac b w0 w)(o:Obj):Ac b w0 (w.alloc o):=
 ⟨h.os,h.tape,h.output,AU h.size zw,fun k hk hn=>(Ah w o k<|Ba hk h.size).trans (h.block k hk hn)⟩
def Ac.Ai (h:Ac b w0 w)(L o:Nat)(v:Value)(hL:w0.heap.size<=L):Ac b w0 (w.setCell ⟨L,o,none⟩ v):=
 ⟨h.os,h.tape,h.output,by simpa[World.setCell]using h.size,fun k hk hn=>(Au w ⟨L,o,none⟩ v k (by show k≠L;omega)).trans (h.block k hk hn)⟩
def Ac.set (h:Ac b w0 w)(o:Nat)(v:Value):Ac b w0 (w.setCell ⟨b,o,none⟩ v):=
 ⟨h.os,h.tape,h.output,by simpa[World.setCell]using h.size,fun k hk hn=>(Au w ⟨b,o,none⟩ v k hn).trans (h.block k hk hn)⟩
def Z5l (hk:k≠L):(w.setCell ⟨L,0,none⟩ x0).heap[k]?=w.heap[k]?:=Au _ _ _ _ hk
def lm (hk:k≠L):((w.setCell ⟨L,0,none⟩ x0).setCell ⟨L,1,none⟩ x1).heap[k]?=w.heap[k]?:=by
 rw[Au _ _ _ _ hk,Au _ _ _ _ hk]
def Rk (hk:k≠L):(((w.setCell ⟨L,0,none⟩ x0).setCell ⟨L,1,none⟩ x1).setCell ⟨L,2,none⟩ x2).heap[k]?=w.heap[k]?:=by
 rw[Au _ _ _ _ hk,Au _ _ _ _ hk,Au _ _ _ _ hk]
def Iz (hk:k≠L):((((w.setCell ⟨L,0,none⟩ x0).setCell ⟨L,1,none⟩ x1).setCell ⟨L,2,none⟩ x2).setCell ⟨L,3,none⟩ x3).heap[k]?=w.heap[k]?:=by
 rw[Au _ _ _ _ hk,Au _ _ _ _ hk,Au _ _ _ _ hk,Au _ _ _ _ hk]
def Ac.r1 (h:Ac b w0 w)(hL:w0.heap.size<=L):Ac b w0 (w.setCell ⟨L,0,none⟩ x0):=h.Ai _ _ _ hL
def Ac.r2 (h:Ac b w0 w)(hL:w0.heap.size<=L):Ac b w0 ((w.setCell ⟨L,0,none⟩ x0).setCell ⟨L,1,none⟩ x1):=(h.Ai _ _ _ hL).Ai _ _ _ hL
def Ac.r3 (h:Ac b w0 w)(hL:w0.heap.size<=L):Ac b w0 (((w.setCell ⟨L,0,none⟩ x0).setCell ⟨L,1,none⟩ x1).setCell ⟨L,2,none⟩ x2):=(h.r2 hL).Ai _ _ _ hL
def Ac.r4 (h:Ac b w0 w)(hL:w0.heap.size<=L):Ac b w0 ((((w.setCell ⟨L,0,none⟩ x0).setCell ⟨L,1,none⟩ x1).setCell ⟨L,2,none⟩ x2).setCell ⟨L,3,none⟩ x3):=(h.r3 hL).Ai _ _ _ hL
def Ac.dr (h:Ac b w0 w)(n:Nat):Ac b w0 (w.drewN n):=⟨h.os,h.tape,h.output,h.size,h.block⟩
def Ac.drew (h:Ac b w0 w):Ac b w0 w.drew:=⟨h.os,h.tape,h.output,h.size,h.block⟩
def Ac.Qf {α:Type}{e:TypeId}{s:Nat}{Q:D9 α}{w1:World}{xs:List α}{F G:List Nat}{y:α}{g cap:Nat}{F':List Nat}(h:MJ e s Q B w w1 xs F G y g cap F')(k:Ac b w0 w)(hF: ∀ i,i∈F->w0.heap.size<=i):Ac b w0 w1:=
 ⟨h.os.trans k.os,h.tape.trans k.tape,h.output.trans k.output,AU k.size h.size,fun i hi hn=>(h.same i (Ba hi k.size) fun q=>by have:=hF i q;omega).trans (k.block i hi hn)⟩
def Ac.below (h:Ac b w0 w)(hB:B<=b)(hw:B<=w0.heap.size):Below B w0 w:=⟨h.os,h.tape,h.output,h.size,fun k hk=>h.block k zx zx⟩
def Ac.later {w':World}(h:Bl w u)(k:Ac b u w'):Ac b w w':=
 ⟨k.os.trans h.os,k.tape.trans h.tape,k.output.trans h.output,AU h.size k.size,fun i hi hn=>(k.block i (Ba hi h.size) hn).trans (h.block i hi)⟩
def Ac.AR (h:Ac b w u)(k:Bl u v):Ac b w v:=
 ⟨k.os.trans h.os,k.tape.trans h.tape,k.output.trans h.output,AU h.size k.size,fun i hi hn=>(k.block i<|Ba hi h.size).trans (h.block i hi hn)⟩
end Go.W
namespace Go.P
variable {a:Nat->Addr}{b n c k:Nat}{w:World}{l:By}
def Dc (w:World) (b:Nat) (l:By):Prop:=AJ w b #[.string<|ba l] 280/\l.length<1000000000/\23<=b
def Aa.keeps {u:World}(h:Aa a w)(k:Ac b w u)(hb:23<=b):Aa a u:=by
 obtain⟨w0,h0,h1⟩:=h;exact⟨w0,h0,fun g o hg=>⟨Ba (h1 g o hg).1 k.size,(Am (w:=w) (w':=u) (a:=⟨g,o,none⟩)<|k.block g (h1 g o hg).1 zx).trans (h1 g o hg).2⟩⟩
def tY (a:Nat->Addr) (n:Int):Ending:= .panicked [{v:= .iface 278<|.agg #[BS a n],recovered:=false}]
def Hg {α:Type} (a:Nat->Addr) (b:Nat) (V:World->Value->α->Prop) (w:World) (Y:Except Int (α×By)) (e:Ending) (w':World):Prop:=
 Ac b w w'/\((∃ n,Y= .error n/\n≠0/\e=tY a n)\/ ∃ x r v,Y= .ok (x,r)/\e= .returned v/\V w' v x/\Dc w' b r)
def Dc.drew (h:Dc w b l):Dc w.drew b l:=h
def Dc.alloc (h:Dc w b l)(o:Obj):Dc (w.alloc o) b l:=⟨h.1.alloc o,h.2⟩
def Dc.of {w':World}(h:Dc w b l)(k:w'.heap[b]?=w.heap[b]?):Dc w' b l:=⟨h.1.of k,h.2⟩
def Nu (a:Nat->Addr)(b:Nat)(w:World){n:Int}(hn:n≠0):Calls prog 184 #[.pointer<|Qb b 0,BS a n] w fun e w'=>e=tY a n/\w'=w:=by
 unfold tY;rw[DC _ hn];go_in
 go_wp2_with fail
 exact⟨rfl,rfl,rfl⟩
def jA (Z:Aa a w)(h:Dc w b l)(n:Nat)(hn:n<18446744073709551616):
  Calls prog 185 #[.pointer<|Qb b 0,.int .u64 (n:Int)] w (Hg a b (fun _ v x=>v= .string (ba x)) w<|KI n l):=by
 obtain⟨hb,hl,hg⟩:=h;obtain⟨c0,sf⟩:=hb.one;have E1:=AA<|Ybk l n;have E2:=AA<|Ybj l n;have HB:=AA hb;have z6:=Z.c6;have C:=AA<|Nu a b w (n:=6) zu;have Md:(ba l).size<1000000000:=by rw[Bh];exact hl
 have HS:=AA<|Bh l;clear Z hb;generalize ba l=s at*;by_cases h:l.length<n
 ·have F:AC (KI n l= .error 6):=⟨if_pos h⟩;have g:(s.size:Int)<(n:Int):=by have:=HS.out;omega
  go_in
  go_wp2_with fail
  refine mq C.out ?_;rintro w1 rfl;exact⟨rfl,Ac.refl _ _,Or.inl ⟨6,F.out,zu,rfl⟩⟩
 ·have F:AC (KI n l= .ok (l.take n,l.drop n)):=⟨if_neg h⟩;have g: ¬ (s.size:Int)<(n:Int):=by have:=HS.out;omega
  have g2:n<=s.size:=by have:=HS.out;omega
  clear z6 C;go_in
  go_wp2
  go_ret
  refine⟨(Ac.refl b w).set _ _,Or.inr ⟨_,_,_,F.out,rfl,by simp[E1.out],?_,by rw[List.length_drop];omega,hg⟩⟩;rw[<- E2.out];exact HB.out.set 0 _
def Yd1 (c:UInt8)(r:By)(h:0<(ba<|c::r).size):(ba<|c::r)[0]=c:=rfl
def ic (Z:Aa a w)(h:Dc w b l):
  Calls prog 186 #[.pointer<|Qb b 0] w (Hg a b (fun _ v (x:Nat)=>v= .int .u8 (x:Int)/\x<256) w<|KM l):=by
 have C:=AA<|jA Z h 1 zu;go_in
 go_wp2_with fail
 refine C.out.mono ?_;rintro e w1 ⟨hk,⟨n,hy,hn,rfl⟩ | ⟨x,r,v,hy,rfl,rfl,hd⟩⟩
 ·have Y:AC (KM l= .error n):=⟨by
   cases l with
   | nil=>simp[KI]at hy;rw[<- hy];rfl
   | cons c r=>simp[KI]at hy⟩
  exact⟨rfl,hk,Or.inl ⟨n,Y.out,hn,rfl⟩⟩
 ·cases l with
  | nil=>simp[KI]at hy
  | cons c l'=>
   obtain⟨rfl,rfl⟩:x=[c]/\r=l':=by simp[KI]at hy;exact⟨hy.1.symm,hy.2.symm⟩
   have h0:0<(ba [c]).size:=by rw[Bh];simp
   have hg:=Yd1 c [] h0;have HD:=AA hd;have HK:=AA hk;have gz:=c.toNat_lt;clear hd hk hy;generalize ba [c]=s at*;go_wp2
   go_ret
   exact⟨HK.out,Or.inr ⟨c.toNat,_,_,rfl,rfl,⟨zw,gz⟩,HD.out⟩⟩
def Z9h (n c k:Nat)(h:n<128 ^ k):n ||| (c*128 ^ k)=n+c*128 ^ k:=by
 rw[Nat.or_comm];have e:(128:Nat) ^ k=2 ^ (7*k):=by rw[show(128:Nat)=2 ^ 7 by rfl,<- Nat.pow_mul]
 rw[e]at h⊢;rw[nat_join (7*k) (c*2 ^ (7*k)) n (Nat.mul_mod_left _ _) h,Nat.add_comm]
def Yez (k:Nat):(128:Nat) ^ k=2 ^ (7*k):=by rw[show(128:Nat)=2 ^ 7 by rfl,<- Nat.pow_mul]
def Zwt (hn:n<128 ^ k)(hk:k<=9)(hc:c<128)(h9:k=9->c<=1):n+c*128 ^ k<18446744073709551616:=by
 rcases QL k 9 with h | h
 ·have:(128:Nat) ^ k<=128 ^ 8:=Nat.pow_le_pow_right zx zx
  have h2:c*128 ^ k<=127*128 ^ k:=Nat.mul_le_mul_right _ zx;have e:(128:Nat) ^ 8=72057594037927936:=zu
  omega
 ·obtain rfl:k=9:=zx
  have e:(128:Nat) ^ 9=9223372036854775808:=zu
  rw[e]at hn⊢
  have:=h9 rfl
  omega
def Yex (hn:n<128 ^ k)(hk:k<=9)(hc:c<128)(h9:k=9->c<=1):bits .or .u64 (n:Int) (IntKind.u64.wrap<|(c:Int)*2 ^ (7*k))=((n+c*128 ^ k:Nat):Int):=by
 have hs:=Zwt hn hk hc h9;have e:(c:Int)*2 ^ (7*k)=((c*128 ^ k:Nat):Int):=by rw[Yez];simp
 rw[e,IntKind.wrap_u64,show((c*128 ^ k:Nat):Int) % 18446744073709551616=((c*128 ^ k:Nat):Int)by omega,u64_or_nat _ _ zx zx,Z9h n c k hn]
def Ybi: ∀ X:Fin 256,bits .and .u8 ((X.val:Nat):Int) 127=((X.val % 128:Nat):Int):=zu
def Ydy (c:Nat)(h:c<256):bits .and .u8 (c:Int) 127=((c % 128:Nat):Int):=Ybi ⟨c,h⟩
def Yfc (a:Nat->Addr) (b:Nat) (w:World) (l:By) (nv sv:Value) (wr:World):Prop:= ∃ (k n:Nat) (r:By),k<=9/\n<128 ^ k/\nv= .int .u64 (n:Int)/\sv= .int .i64 ((7*k:Nat):Int)/\Qt k n r=QC l/\Dc wr b r/\Ac b w wr/\Aa a wr
def jV (b:Nat) (w:World):Nat:=match w.cell? ⟨b,0,none⟩with
 | some (.string s)=>s.size
 | _=>0
def Z0r (h:Dc w b l):jV b w=l.length:=by
 unfold jV;rw[h.1.one.1];exact Bh l
def WF (Z:Aa a w)(h:Dc w b l):
  Calls prog 219 #[.pointer<|Qb b 0] w (Hg a b (fun _ v (x:Nat)=>v= .int .u64 (x:Int)/\x<18446744073709551616) w<|QC l):=by
 have hgb:=h.2.2;go_in
 go_wp2
 go_loopw [3,4] (fun nv sv wr=>Yfc a b w l nv sv wr) (fun _ _ wr=>jV b wr)
 case atStart=>exact⟨0,0,l,zx,zu,rfl,rfl,rfl,h,Ac.refl _ _,Z⟩
 case round=>
  obtain⟨k,n,r,hk,hn,rfl,rfl,hE,hd,hK,hZ⟩:=hrel;have C:=AA<|ic hZ hd;have HK:=AA hK;have HZ:=AA hZ;have HD:=AA hd;have HE:=AA hE;clear hK hZ hd hE h Z;go_wp2_with fail
  refine C.out.mono ?_;rintro e w1 ⟨AZ,⟨m,hy,hm,rfl⟩ | ⟨c,r1,v,hy,rfl,⟨rfl,hc⟩,Bg⟩⟩
  ·exact⟨rfl,HK.out.trans AZ,Or.inl ⟨m,by
    rw[<- HE.out];cases r with
    | nil=>simp[KM]at hy;subst hy;rfl
    | cons c r=>simp[KM]at hy,hm,rfl⟩⟩
  ·have NX:AC (∃ c8:UInt8,r=c8::r1/\c8.toNat=c):=⟨by
    cases r with
    | nil=>simp[KM]at hy
    | cons c' r'=>simp[KM]at hy;exact⟨c',by rw[hy.2],hy.1⟩⟩
   have Gw:=AA<|HK.out.trans AZ;have HZ1:=AA<|HZ.out.keeps AZ hgb;have QS:=AA Bg;clear hy AZ Bg HK HZ C;have A1:=Ydy c hc;have hk9:((7*k:Nat):Int)<=63:=zx
   by_cases bad:(k=9/\1<c)\/(0<k/\c=0)
   ·have Y:AC (QC l= .error 7):=⟨by
     obtain⟨c8,rfl,rfl⟩:=NX.out;rw[<- HE.out,Qt,if_pos bad]⟩
    have z7:=HZ1.out.c7;have CR:=AA<|Nu a b w1 (n:=7) zu;have W:((((7*k:Nat):Int)==63)=true/\(1:Int)<c)\/((((7*k:Nat):Int)==63)=true/\decide ((1:Int)<c)=false/\(0:Int)<((7*k:Nat):Int)/\((c:Int)==0)=true)\/((((7*k:Nat):Int)==63)=false/\(0:Int)<((7*k:Nat):Int)/\((c:Int)==0)=true):=by
     simp only[DJ,BK,decide_eq_false_iff_not];omega
    clear bad A1 HD HE NX;generalize 7*k=k7 at*;rcases W with⟨g1,g2⟩ | ⟨g1,g2,g3,g4⟩ | ⟨g1,g2,g3⟩;all_goals
     go_wp2_with fail
     refine mq CR.out ?_;rintro w2 rfl;exact⟨rfl,Gw.out,Or.inl ⟨7,Y.out,zu,rfl⟩⟩
   ·have h9:k=9->c % 128<=1:=zx
    have hc1:k=9->c<128:=zx
    have OV:AC (bits .or .u64 (n:Int) (IntKind.u64.wrap<|(c:Int) % 128*2 ^ (7*k))=((n+c % 128*128 ^ k:Nat):Int)):=⟨by have:=Yex hn hk (Nat.mod_lt c zx) h9;rwa [show((c % 128:Nat):Int)=(c:Int) % 128 by omega]at this⟩;have PS:=AA<|Zwt hn hk (Nat.mod_lt c zx) h9;have W:((((7*k:Nat):Int)==63)=true/\decide ((1:Int)<c)=false/\(0:Int)<((7*k:Nat):Int)/\((c:Int)==0)=false/\c<128)\/((((7*k:Nat):Int)==63)=false/\(0:Int)<((7*k:Nat):Int)/\((c:Int)==0)=false)\/((((7*k:Nat):Int)==63)=false/\ ¬ 0<7*k):=by
     simp only[DJ,BK,decide_eq_false_iff_not];by_cases a1:k=9
     ·exact Or.inl zx
     ·by_cases a2:k=0
      ·exact Or.inr<|Or.inr zx
      ·exact Or.inr<|Or.inl zx
    have zn:((7*k:Nat):Int)+7=((7*(k+1):Nat):Int):=zx
    have lJ:=AA hk;have oV:AC ((c<128->QC l= .ok (n+c % 128*128 ^ k,r1))/\(128<=c->Qt (k+1) (n+c % 128*128 ^ k) r1=QC l/\k+1<=9/\n+c % 128*128 ^ k<128 ^ (k+1))):=⟨by
     obtain⟨c8,rfl,rfl⟩:=NX.out;rw[<- HE.out,Qt,if_neg bad];refine⟨fun h=>by rw[if_pos h,Nat.mod_eq_of_lt h],fun h=>⟨by rw[if_neg zx,show c8.toNat-128=c8.toNat % 128 by omega],zx,?_⟩⟩
     have:c8.toNat % 128*128 ^ k<=127*128 ^ k:=Nat.mul_le_mul_right _ zx
     rw[Nat.pow_succ]
     omega⟩
    have E7:AC ((7*k:Nat)=7*k):=⟨rfl⟩;generalize h7:7*k=k7 at*;have LEN:AC (jV b w1<jV b wr):=⟨by rw[Z0r QS.out,Z0r HD.out];obtain⟨c8,rfl,_⟩:=NX.out;simp⟩;clear bad h9 hc1 NX HE HD hk hn h7 E7;rcases W with⟨g1,g2,g3,g4,g5⟩ | ⟨g1,g2,g3⟩ | ⟨g1,g2⟩;all_goals
     go_wp2_with fail
     all_goals first
      | (go_ret;exact⟨Gw.out,Or.inr ⟨_,_,_,oV.out.1 zx,rfl,⟨by simp only[<- OV.out];rfl,PS.out⟩,QS.out⟩⟩)
      | exact⟨⟨k+1,_,r1,(oV.out.2 zx).2.1,(oV.out.2 zx).2.2,by rw[OV.out],zw,(oV.out.2 zx).1,QS.out,Gw.out,HZ1.out⟩,LEN.out⟩
      | trace_state
end Go.P
namespace Go.P
def AY:Q8:=⟨100,95,102,98,65,162⟩
def Z5u:(prog.info? 100).map (fun i=>(i.zero,i.size,i.bytes))=some (some<|.agg #[.int .i64 0,.int .i64 0,.string ⟨#[]⟩,.slice none 0 0],4,56):=zt
def vF:Jk prog 93 100 4 56:=by
 obtain⟨i0,hi,hz0,hz1,hz2⟩:=info_parts Z5u;exact⟨i0,_,underlying93,hi,hz0,hz1,hz2,rfl,zu,zu⟩
def uz:(prog.info? 95).map (fun i=>(i.zero,i.size,i.bytes))=some (some<|.agg #[.string ⟨#[]⟩,.slice none 0 0],2,40):=zt
def Zvp:Jk prog 34 95 2 40:=by
 obtain⟨i0,hi,hz0,hz1,hz2⟩:=info_parts uz;exact⟨i0,_,underlying34,hi,hz0,hz1,hz2,rfl,zu,zu⟩
def Z2l:(prog.info? 102).map (fun i=>(i.zero,i.size,i.bytes))=some (some<|.agg #[.int .i64 0,.int .i64 0,.int .i64 0,.string ⟨#[]⟩,.slice none 0 0,.int .i64 0,.int .i64 0,.string ⟨#[]⟩,.slice none 0 0],9,120):=zt
def Zrz:Jk prog 96 102 9 120:=by
 obtain⟨i0,hi,hz0,hz1,hz2⟩:=info_parts Z2l;exact⟨i0,_,underlying96,hi,hz0,hz1,hz2,rfl,zu,zu⟩
def uy:(prog.info? 98).map (fun i=>(i.zero,i.size,i.bytes))=some (some<|.agg #[.string ⟨#[]⟩,.slice none 0 0,.slice none 0 0,.slice none 0 0],4,88):=zt
def Zvr:Jk prog 35 98 4 88:=by
 obtain⟨i0,hi,hz0,hz1,hz2⟩:=info_parts uy;exact⟨i0,_,underlying35,hi,hz0,hz1,hz2,rfl,zu,zu⟩
def Z2k:(prog.info? 65).map (fun i=>(i.zero,i.size,i.bytes))=some (some<|.agg #[.slice none 0 0],1,24):=zt
def Zry:Jk prog 36 65 1 24:=by
 obtain⟨i0,hi,hz0,hz1,hz2⟩:=info_parts Z2k;exact⟨i0,_,underlying36,hi,hz0,hz1,hz2,rfl,zu,zu⟩
def Z83:(prog.info? 162).map (fun i=>(i.zero,i.size,i.bytes))=some (some<|.agg #[.bool false,.slice none 0 0],2,32):=zt
def Z8r:Jk prog 28 162 2 32:=by
 obtain⟨i0,hi,hz0,hz1,hz2⟩:=info_parts Z83;exact⟨i0,_,underlying28,hi,hz0,hz1,hz2,rfl,zu,zu⟩
def Ig:Prop:= ∀ (s:ByteArray) (w:World),s.size<1000000000->Calls prog 167 #[.string s] w fun e w'=>e= .returned (.string s)/\Bl w w'
def G5 {α:Type} (Q:D9 α) (N:Nat) (w:World) (v:Value) (x:α):Prop:= ∃ vs F,v= .agg vs.toArray/\Q w vs x F/\Af N w F
def Px {α:Type} (e:TypeId) (s:Nat) (Q:D9 α) (N:Nat) (w:World) (v:Value) (xs:List α):Prop:= ∃ F,AO e s Q w v xs F/\Af N w F
def Zvm (CL:Ig){a:Nat->Addr}{w:World}{b:Nat}{l:By}(Z:Aa a w)(h:Dc w b l):
  Calls prog 290 #[.pointer<|Qb b 0] w (Hg a b (fun _ v (x:ByteArray)=>v= .string x/\x.size<1000000000) w<|Vp l):=by
 have C:=AA<|WF Z h;have ZZ:=AA Z;have hgb:=h.2.2;have hl:=h.2.1;clear Z h;go_in
 go_wp2_with fail
 refine C.out.mono ?_;rintro e w1 ⟨AZ,⟨m,hy,hm,rfl⟩ | ⟨n,r1,v,hy,rfl,⟨rfl,hn⟩,Bg⟩⟩
 ·exact⟨rfl,AZ,Or.inl ⟨m,De.Av<|De.Ad hy,hm,rfl⟩⟩
 ·have Y:=AA fun x (h:KI n r1=x)=>(De.then_ok (g:=KI) hy).trans h;have HK:=AA AZ;have Fp:=Bg.2.1;have C2:=AA<|jA (ZZ.out.keeps AZ hgb) Bg n hn;clear AZ Bg hy C;go_wp2_with fail
  refine C2.out.mono ?_;rintro e w2 ⟨hk2,⟨m,hy,hm,rfl⟩ | ⟨x,r2,v,hy,rfl,rfl,Cf⟩⟩
  ·exact⟨rfl,HK.out.trans hk2,Or.inl ⟨m,De.Av<|Y.out _ hy,hm,rfl⟩⟩
  ·have hx:(ba x).size<1000000000:=by
    rw[Bh];unfold KI at hy;split at hy
    ·cases hy
    ·injection hy with hy;injection hy with hy _;rw[<- hy,List.length_take];omega
   have Y2:AC (Vp l= .ok (ba x,r2)):=⟨De.map_ok<|Y.out _ hy⟩;have IE:=AA<|HK.out.trans hk2;have HD:=AA Cf;have C3:=AA<|CL (ba x) w2 hx;clear hk2 Cf hy C2 Y HK;generalize ba x=s at*;go_wp2_with fail
   refine mq C3.out ?_;rintro w3 hb3;have hbl:=HD.out.1.lt;go_wp2
   go_ret
   exact⟨IE.out.AR hb3,Or.inr ⟨s,r2,_,Y2.out,rfl,⟨rfl,hx⟩,HD.out.of<|hb3.block b hbl⟩⟩
end Go.P
namespace Go.W
variable {s n y k:Nat}{w:World}{v:Value}{cs:List Value}{P:Program}{tx:TypeId}{z:Option Value}{xs:List (Nat×List Value)}{x:Nat×List Value}
def NZ (s:Nat) (w:World) (v:Value) (n:Nat) (cs:List Value):Prop:= ∃ p c,v= .slice p n c/\n<1000000/\cs.length=n*s/\(∀ u∈cs,u.oneCell'=true)/\(∀ a,p=some a-> ∀ j u,cs[j]?=some u->a.block<w.heap.size/\w.cell? (a.add j)=some u)/\(p=none->n=0)
def NZ.below {u:World}(h:NZ s w v n cs)(hb:Bl w u):NZ s u v n cs:=by
 obtain⟨p,c,h0,h1,h2,h3,h4,h5⟩:=h;refine⟨p,c,h0,h1,h2,h3,fun a ha j u hj=>⟨Ba (h4 a ha j u hj).1 hb.size,?_⟩,h5⟩;have e:(a.add j).block=a.block:=by unfold Addr.add;split <;> rfl
 exact(hb.cell (p:=a.add j) (by rw[e];exact(h4 a ha j u hj).1)).trans (h4 a ha j u hj).2
def NZ.src {e':TypeId}(h:NZ s w v n cs)(hk:P.underlying tx=some (.slice e')):Src P s tx v n cs w:=by
 obtain⟨p,c,rfl,h1,h2,h3,h4,h5⟩:=h;cases p with
 | none=>
  obtain rfl:=h5 rfl;obtain rfl:cs=[]:=Ht (by simpa using h2);exact Src.ofNil w hk c
 | some a=>exact Src.ofSlice w hk a n c cs h2 (fun j u hj=>(h4 a rfl j u hj).2) h3
def Z5v {e:TypeId}(h:(P.info? e).map (fun i=>(i.zero,i.size,i.bytes))=some (z,s,y)): ∃ i,P.info? e=some i/\i.zero=z/\i.size=s/\i.bytes=y:=by
 obtain⟨i,hi,he⟩:=SE.1 h;simp at he;exact⟨i,hi,he.1,he.2.1,he.2.2⟩
def uS (w:World)(t tn e:TypeId)(z:Value)(s y:Nat)(ht:P.underlying t=some (.slice e))(qH:P.underlying tn=some (.int .i64))(hi:(P.info? e).map (fun i=>(i.zero,i.size,i.bytes))=some (some z,s,y))(hzs:z.cells.size=s)(hs:0<s)(hb:y<=1000)(n:Nat)(h0:0<n)(hn:n<1000000000):
  ∃ cap cells,n<=cap/\cells.size=cap*s/\ ∀ ty,(Builtin.append_ #[t,tn] ty #[.slice none 0 0,.int .i64 (n:Int)]).run P w= .ok (.slice (Qb w.heap.size 0) n cap) (w.drew.alloc<|.cells cells e):=by
 obtain⟨i,h9,hz,rfl,rfl⟩:=Z5v hi;clear hi;have hi:=h9;have kY:=grownCap_ge w (0+n) 0 e;refine⟨grownCap w (0+n) 0 e,Builtin.zeroCells z.cells n++Builtin.zeroCells z.cells (grownCap w (0+n) 0 e-(0+n)),zx,?_,fun ty=>?_⟩
 ·rw[Array.size_append,size_zeroCells,size_zeroCells,hzs,<- Nat.add_mul];congr 1
  omega
 ·have:=Lib.run_append_grow_zeros (P:=P) w t tn ty e i z .i64 .i64 ht qH hi hz none 0 0 [] (run_firstCells_none w.drew i.size 0 0 0) n h0 hs zx zx (by have:=Nat.mul_le_mul (Nat.le_of_lt hn) hb;omega)<|growslice_fits zx (by have:=Nat.mul_le_mul (show 0+n<=1000000000 by omega) hb;omega)
  simpa using this
def Z8k (w:World)(t tx e:TypeId)(i:TypeInfo)(ht:P.underlying t=some (.slice e))(hi:P.info? e=some i)(g Oo Xw:Nat)(cur:Array Value)(hg:w.heap[g]?=some (.cells cur e (0,0)))(x:Value)(n:Nat)(news:List Value)(hs:Src P i.size tx x n news w)(hroom:Oo+n<=Xw)(BG:Oo*i.size+news.length<=cur.size)(ty:TypeId):
  (Builtin.append_ #[t,tx] ty #[.slice (Qb g 0) Oo Xw,x]).run P w= .ok (.slice (Qb g 0) (Oo+n) Xw) (w.setRow g (cur.toList.take (Oo*i.size)++news++cur.toList.drop (Oo*i.size+news.length)).toArray):=by
 have hst:=run_storeCells_at P g (Oo*i.size) e news 0 cur w hg (by simpa using BG) hs.one;simp only[Oj]at hst;rcases hs.kind with⟨e',hk⟩ | hk <;> simp[Builtin.append_,Jo ht,Jo hk,sizeOf,typeInfo,hi,hs.len,hroom,hs.cells,Addr.add_lit,hst]
def Dp (xs:List (Nat×List Value)):Nat:=xs.foldr (fun x s=>x.1+s) 0
def Ui (xs:List (Nat×List Value)):List Value:=xs.flatMap (·.2)
def Zqi (xs ys:List (Nat×List Value)):Dp (xs++ys)=Dp xs+Dp ys:=by
 induction xs with
 | nil=>simp[Dp]
 | cons x xs ih=>simp only[Dp,Gm,List.foldr_cons]at ih⊢;omega
def WE (h:xs[k]?=some x):Dp (xs.take<|k+1)=Dp (xs.take k)+x.1/\Dp (xs.take k)+x.1<=Dp xs:=by
 have e1:xs.take (k+1)=xs.take k++[x]:=by rw[PR,h];rfl
 have e2:Dp (xs.take<|k+1)=Dp (xs.take k)+x.1:=by rw[e1,Zqi];simp[Dp]
 refine⟨e2,?_⟩;rw[<- e2]
 have:=Zqi (xs.take<|k+1)<|xs.drop<|k+1
 rw[List.take_append_drop]at this;omega
def vo (h:xs[k]?=some x):Ui (xs.take<|k+1)=Ui (xs.take k)++x.2:=by
 have e1:xs.take (k+1)=xs.take k++[x]:=by rw[PR,h];rfl
 rw[e1];simp[Ui]
def Nj (E s:Nat) (w:World) (nv:Value) (done:List Value) (m total:Nat) (wr:World):Prop:=Bl w wr/\done.length=m*s/\((total=0/\m=0/\nv= .slice none 0 0/\done=[])\/ ∃ cap vs,total<=cap/\nv= .slice (Qb w.heap.size 0) m cap/\AJ wr w.heap.size vs E/\vs.size=cap*s/\vs.toList.take done.length=done)
def Nj.step {E m total:Nat}{wr:World}{nv x:Value}{done news:List Value}{t:TypeId}(ht:P.underlying t=some (.slice E))(hi:(P.info? E).map (fun i=>(i.zero,i.size,i.bytes))=some (z,s,y))(h:Nj E s w nv done m total wr)(hs:Src P s tx x n news wr)(hle:m+n<=total): ∃ dV yO,(∀ ty,(Builtin.append_ #[t,tx] ty #[nv,x]).run P wr= .ok dV yO)/\Nj E s w dV (done++news) (m+n) total yO:=by
 obtain⟨i,h9,_,rfl,_⟩:=Z5v hi;clear hi;have hi:=h9;obtain⟨hb,hd,h⟩:=h;have M9:=hs.newsLen;rcases h with⟨rfl,rfl,rfl,rfl⟩ | ⟨cap,vs,hc,rfl,hB,Gy,L9⟩
 ·obtain rfl:n=0:=zx
  obtain rfl:news=[]:=Ht (by simpa using M9);exact⟨_,_,fun ty=>by rcases hs.kind with⟨e',hk⟩ | hk <;> simp[Builtin.append_,Jo ht,Jo hk,sizeOf,typeInfo,hi,hs.len,hs.cells],hb,zw,Or.inl ⟨rfl,rfl,rfl,rfl⟩⟩
 ·have BG:m*i.size+news.length<=vs.size:=by
   rw[Gy,M9,<- Nat.add_mul];exact Nat.mul_le_mul_right _ zx
  refine⟨_,_,fun ty=>Z8k wr t tx E i ht hi w.heap.size m cap vs hB x n news hs zx BG ty,?_,by rw[Bq,hd,M9,Nat.add_mul],Or.inr ⟨cap,_,hc,rfl,Gj wr _ vs _ _ _ hB,?_,?_⟩⟩
  ·exact⟨hb.os,hb.tape,hb.output,by rw[ET];exact hb.size,fun j hj=>(Db _ _ j _ zx).trans (hb.block j hj)⟩
  ·simp[<- Gy];omega
  ·have:m*i.size=done.length:=hd.symm
   rw[this,L9];show List.take (done++news).length ((done++news)++_)=_;exact List.take_left
end Go.W
namespace Go.P
variable {w:World}{b o c:Nat}{xs:List (Nat×List Value)}
def uQ:(prog.info? 9).map (fun i=>(i.zero,i.size,i.bytes))=some (some<|.string ⟨#[]⟩,1,16):=zt
def uH (w:World) (xs:List (Nat×List Value)) (iv sv:Value) (wr:World):Prop:= ∃ k:Nat,k<=xs.length/\iv= .int .i64 (k:Int)/\sv= .int .i64 (Dp (xs.take k):Int)/\wr=w
def wz (E s:Nat) (w:World) (xs:List (Nat×List Value)) (iv nv:Value) (wr:World):Prop:= ∃ k:Nat,k<=xs.length/\iv= .int .i64 (k:Int)/\Nj E s w nv (Ui<|xs.take k) (Dp<|xs.take k) (Dp xs) wr
def Z80 (n:Nat)(hn:n<1000000000)(w:World):Calls prog 132 #[.slice none 0 0,.int .i64 (n:Int)] w fun e w'=> ∃ nv,e= .returned nv/\Nj 9 1 w nv [] 0 n w':=by
 have h1: ¬ ((n:Int)<0):=zx
 by_cases h0:n=0
 ·subst h0;go_in
  go_wp2
  go_ret
  exact⟨_,rfl,AQ _ w,rfl,Or.inl ⟨rfl,rfl,rfl,rfl⟩⟩
 ·have h3:wrap64 ((n:Int)-0)=(n:Int):=by unfold wrap64;omega
  have h4:(n:Int) > 0:=zx
  obtain⟨cap,cells,hc,hs,hrun⟩:=uS (P:=prog) w 29 3 9 _ 1 16 underlying29 underlying3 uQ rfl zu zu n zx hn;have H:=AA<|AF hc hs;clear hc hs;go_in
  go_wp2_with (at_builtin;refine Lib.wpList_append_run _ rfl _ _ _ _ rfl _ _ rfl rfl _ _ (hrun _) ?_)
  go_ret
  exact⟨_,rfl,(AQ _ w).drew.alloc lr _,rfl,Or.inr ⟨cap,cells,H.out.1,rfl,AJ.new _ _ _,H.out.2,rfl⟩⟩
def Z10 (hX: ∀ i x,xs[i]?=some x->b<w.heap.size/\ ∃ v,w.cell? ⟨b,o+i,none⟩=some v/\NZ 1 w v x.1 x.2)(hl:xs.length<1000000)(hs:Dp xs<1000000000):Calls prog 76 #[.slice (Qb b o) xs.length c] w fun e w'=> ∃ nv,e= .returned nv/\Nj 9 1 w nv (Ui xs) (Dp xs) (Dp xs) w':=by
 obtain⟨n,hn⟩: ∃ n,xs.length=n:=⟨_,rfl⟩;rw[hn];have HX:=AA hX;have HN:=AA hn;have HS:=AA hs;have CG:=AA<|Z80 (Dp xs) hs w;clear hX hn hs;go_in
 go_wp2
 go_loopw [11,3] (fun iv sv wr=>uH w xs iv sv wr) (fun iv _ _=>xs.length-(intOf iv).toNat)
 case atStart=>exact⟨0,zx,rfl,rfl,rfl⟩
 case round=>
  obtain⟨k,hk,rfl,rfl,hw⟩:=hrel;obtain rfl:=hw.symm;by_cases hlt:k<n
  ·have g:(k:Int)<(n:Int):=zx
   obtain⟨x,hx⟩: ∃ x,xs[k]?=some x:=⟨xs[k]'(by have:=HN.out;omega),DK _⟩;obtain⟨AX,v,hc,hv⟩:=HX.out k x hx;obtain⟨p,c1,rfl,G8,hr⟩:=hv;have ht:=WE hx;have hS:=HS.out;have E:=AA ht;have e1:wrap64 ((Dp (xs.take k):Int)+(x.1:Int))=((Dp (xs.take k)+x.1:Nat):Int):=by unfold wrap64;omega
   have e2: ¬ (((Dp (xs.take k)+x.1:Nat):Int)<0):=Int.not_lt.2<|Int.natCast_nonneg _;clear hx ht hS hr;go_wp2_with fail
   rw[e1,<- E.out.1];exact⟨⟨k+1,by have:=HN.out;omega,zw,rfl,rfl⟩,by simp[intOf];have:=HN.out;omega⟩
  ·obtain rfl:k=n:=by have:=HN.out;omega
   rw[<- HN.out,JQ,HN.out];go_wp2_with fail
   refine CG.out.mono ?_;rintro e w2 ⟨nv,rfl,hC⟩;have H2:=AA hC;clear hC CG;obtain⟨WT,htot⟩: ∃ WT,Dp xs=WT:=⟨_,rfl⟩;rw[htot]at H2⊢;go_wp2
   go_loopw [27,6] (fun iv nv wr=>wz 9 1 w xs iv nv wr) (fun iv _ _=>xs.length-(intOf iv).toNat)
   case atStart=>exact⟨0,zx,rfl,by rw[htot];exact H2.out⟩
   case round=>
    clear H2;obtain⟨j,hj,rfl,hC⟩:=hrel;by_cases hlt:j<k
    ·have g:(j:Int)<(k:Int):=zx
     obtain⟨x,hx⟩: ∃ x,xs[j]?=some x:=⟨xs[j]'(by have:=HN.out;omega),DK _⟩;obtain⟨AX,v,hc,hv⟩:=HX.out j x hx;have hc':=(hC.1.cell AX).trans hc;obtain⟨dV,w4,hrun,TS⟩:=hC.step (t:=29) (tx:=29) underlying29 uQ ((hv.below hC.1).src underlying29) (WE hx).2;rw[<- (WE hx).1,<- vo hx]at TS;obtain⟨p,c1,rfl,G8,hr⟩:=hv;have H4:=AA TS;have hrun:=AA hrun;clear hC hc TS hx hr;go_wp2_with (at_builtin;refine Lib.wpList_append_run _ rfl _ _ _ _ rfl _ _ rfl rfl _ _ (hrun.out _) ?_)
     exact⟨⟨j+1,by have:=HN.out;omega,zw,H4.out⟩,by simp[intOf];have:=HN.out;omega⟩
    ·obtain rfl:j=k:=by have:=HN.out;omega
     have H4:=AA hC;clear hC;go_wp2
     go_ret
     have:=H4.out
     rw[<- HN.out,JQ]at this;exact⟨u6,rfl,this⟩
def Z5j (n:Nat)(hn:n<1000000000)(w:World):Calls prog 221 #[.slice none 0 0,.int .i64 (n:Int)] w fun e w'=> ∃ nv,e= .returned nv/\Nj 95 2 w nv [] 0 n w':=by
 have h1: ¬ ((n:Int)<0):=zx
 by_cases h0:n=0
 ·subst h0;go_in
  go_wp2
  go_ret
  exact⟨_,rfl,AQ _ w,rfl,Or.inl ⟨rfl,rfl,rfl,rfl⟩⟩
 ·have h3:wrap64 ((n:Int)-0)=(n:Int):=by unfold wrap64;omega
  have h4:(n:Int) > 0:=zx
  obtain⟨cap,cells,hc,hs,hrun⟩:=uS (P:=prog) w 34 3 95 _ 2 40 underlying34 underlying3 uz rfl zu zu n zx hn;have H:=AA<|AF hc hs;clear hc hs;go_in
  go_wp2_with (at_builtin;refine Lib.wpList_append_run _ rfl _ _ _ _ rfl _ _ rfl rfl _ _ (hrun _) ?_)
  go_ret
  exact⟨_,rfl,(AQ _ w).drew.alloc lr _,rfl,Or.inr ⟨cap,cells,H.out.1,rfl,AJ.new _ _ _,H.out.2,rfl⟩⟩
def Zx0 (hX: ∀ i x,xs[i]?=some x->b<w.heap.size/\ ∃ v,w.cell? ⟨b,o+i,none⟩=some v/\NZ 2 w v x.1 x.2)(hl:xs.length<1000000)(hs:Dp xs<1000000000):Calls prog 189 #[.slice (Qb b o) xs.length c] w fun e w'=> ∃ nv,e= .returned nv/\Nj 95 2 w nv (Ui xs) (Dp xs) (Dp xs) w':=by
 obtain⟨n,hn⟩: ∃ n,xs.length=n:=⟨_,rfl⟩;rw[hn];have HX:=AA hX;have HN:=AA hn;have HS:=AA hs;have CG:=AA<|Z5j (Dp xs) hs w;clear hX hn hs;go_in
 go_wp2
 go_loopw [11,3] (fun iv sv wr=>uH w xs iv sv wr) (fun iv _ _=>xs.length-(intOf iv).toNat)
 case atStart=>exact⟨0,zx,rfl,rfl,rfl⟩
 case round=>
  obtain⟨k,hk,rfl,rfl,hw⟩:=hrel;obtain rfl:=hw.symm;by_cases hlt:k<n
  ·have g:(k:Int)<(n:Int):=zx
   obtain⟨x,hx⟩: ∃ x,xs[k]?=some x:=⟨xs[k]'(by have:=HN.out;omega),DK _⟩;obtain⟨AX,v,hc,hv⟩:=HX.out k x hx;obtain⟨p,c1,rfl,G8,hr⟩:=hv;have ht:=WE hx;have hS:=HS.out;have E:=AA ht;have e1:wrap64 ((Dp (xs.take k):Int)+(x.1:Int))=((Dp (xs.take k)+x.1:Nat):Int):=by unfold wrap64;omega
   have e2: ¬ (((Dp (xs.take k)+x.1:Nat):Int)<0):=Int.not_lt.2<|Int.natCast_nonneg _;clear hx ht hS hr;go_wp2_with fail
   rw[e1,<- E.out.1];exact⟨⟨k+1,by have:=HN.out;omega,zw,rfl,rfl⟩,by simp[intOf];have:=HN.out;omega⟩
  ·obtain rfl:k=n:=by have:=HN.out;omega
   rw[<- HN.out,JQ,HN.out];go_wp2_with fail
   refine CG.out.mono ?_;rintro e w2 ⟨nv,rfl,hC⟩;have H2:=AA hC;clear hC CG;obtain⟨WT,htot⟩: ∃ WT,Dp xs=WT:=⟨_,rfl⟩;rw[htot]at H2⊢;go_wp2
   go_loopw [27,6] (fun iv nv wr=>wz 95 2 w xs iv nv wr) (fun iv _ _=>xs.length-(intOf iv).toNat)
   case atStart=>exact⟨0,zx,rfl,by rw[htot];exact H2.out⟩
   case round=>
    clear H2;obtain⟨j,hj,rfl,hC⟩:=hrel;by_cases hlt:j<k
    ·have g:(j:Int)<(k:Int):=zx
     obtain⟨x,hx⟩: ∃ x,xs[j]?=some x:=⟨xs[j]'(by have:=HN.out;omega),DK _⟩;obtain⟨AX,v,hc,hv⟩:=HX.out j x hx;have hc':=(hC.1.cell AX).trans hc;obtain⟨dV,w4,hrun,TS⟩:=hC.step (t:=34) (tx:=34) underlying34 uz ((hv.below hC.1).src underlying34) (WE hx).2;rw[<- (WE hx).1,<- vo hx]at TS;obtain⟨p,c1,rfl,G8,hr⟩:=hv;have H4:=AA TS;have hrun:=AA hrun;clear hC hc TS hx hr;go_wp2_with (at_builtin;refine Lib.wpList_append_run _ rfl _ _ _ _ rfl _ _ rfl rfl _ _ (hrun.out _) ?_)
     exact⟨⟨j+1,by have:=HN.out;omega,zw,H4.out⟩,by simp[intOf];have:=HN.out;omega⟩
    ·obtain rfl:j=k:=by have:=HN.out;omega
     have H4:=AA hC;clear hC;go_wp2
     go_ret
     have:=H4.out
     rw[<- HN.out,JQ]at this;exact⟨u6,rfl,this⟩
def Z5k (n:Nat)(hn:n<1000000000)(w:World):Calls prog 222 #[.slice none 0 0,.int .i64 (n:Int)] w fun e w'=> ∃ nv,e= .returned nv/\Nj 98 4 w nv [] 0 n w':=by
 have h1: ¬ ((n:Int)<0):=zx
 by_cases h0:n=0
 ·subst h0;go_in
  go_wp2
  go_ret
  exact⟨_,rfl,AQ _ w,rfl,Or.inl ⟨rfl,rfl,rfl,rfl⟩⟩
 ·have h3:wrap64 ((n:Int)-0)=(n:Int):=by unfold wrap64;omega
  have h4:(n:Int) > 0:=zx
  obtain⟨cap,cells,hc,hs,hrun⟩:=uS (P:=prog) w 35 3 98 _ 4 88 underlying35 underlying3 uy rfl zu zu n zx hn;have H:=AA<|AF hc hs;clear hc hs;go_in
  go_wp2_with (at_builtin;refine Lib.wpList_append_run _ rfl _ _ _ _ rfl _ _ rfl rfl _ _ (hrun _) ?_)
  go_ret
  exact⟨_,rfl,(AQ _ w).drew.alloc lr _,rfl,Or.inr ⟨cap,cells,H.out.1,rfl,AJ.new _ _ _,H.out.2,rfl⟩⟩
def Zx1 (hX: ∀ i x,xs[i]?=some x->b<w.heap.size/\ ∃ v,w.cell? ⟨b,o+i,none⟩=some v/\NZ 4 w v x.1 x.2)(hl:xs.length<1000000)(hs:Dp xs<1000000000):Calls prog 190 #[.slice (Qb b o) xs.length c] w fun e w'=> ∃ nv,e= .returned nv/\Nj 98 4 w nv (Ui xs) (Dp xs) (Dp xs) w':=by
 obtain⟨n,hn⟩: ∃ n,xs.length=n:=⟨_,rfl⟩;rw[hn];have HX:=AA hX;have HN:=AA hn;have HS:=AA hs;have CG:=AA<|Z5k (Dp xs) hs w;clear hX hn hs;go_in
 go_wp2
 go_loopw [11,3] (fun iv sv wr=>uH w xs iv sv wr) (fun iv _ _=>xs.length-(intOf iv).toNat)
 case atStart=>exact⟨0,zx,rfl,rfl,rfl⟩
 case round=>
  obtain⟨k,hk,rfl,rfl,hw⟩:=hrel;obtain rfl:=hw.symm;by_cases hlt:k<n
  ·have g:(k:Int)<(n:Int):=zx
   obtain⟨x,hx⟩: ∃ x,xs[k]?=some x:=⟨xs[k]'(by have:=HN.out;omega),DK _⟩;obtain⟨AX,v,hc,hv⟩:=HX.out k x hx;obtain⟨p,c1,rfl,G8,hr⟩:=hv;have ht:=WE hx;have hS:=HS.out;have E:=AA ht;have e1:wrap64 ((Dp (xs.take k):Int)+(x.1:Int))=((Dp (xs.take k)+x.1:Nat):Int):=by unfold wrap64;omega
   have e2: ¬ (((Dp (xs.take k)+x.1:Nat):Int)<0):=Int.not_lt.2<|Int.natCast_nonneg _;clear hx ht hS hr;go_wp2_with fail
   rw[e1,<- E.out.1];exact⟨⟨k+1,by have:=HN.out;omega,zw,rfl,rfl⟩,by simp[intOf];have:=HN.out;omega⟩
  ·obtain rfl:k=n:=by have:=HN.out;omega
   rw[<- HN.out,JQ,HN.out];go_wp2_with fail
   refine CG.out.mono ?_;rintro e w2 ⟨nv,rfl,hC⟩;have H2:=AA hC;clear hC CG;obtain⟨WT,htot⟩: ∃ WT,Dp xs=WT:=⟨_,rfl⟩;rw[htot]at H2⊢;go_wp2
   go_loopw [27,6] (fun iv nv wr=>wz 98 4 w xs iv nv wr) (fun iv _ _=>xs.length-(intOf iv).toNat)
   case atStart=>exact⟨0,zx,rfl,by rw[htot];exact H2.out⟩
   case round=>
    clear H2;obtain⟨j,hj,rfl,hC⟩:=hrel;by_cases hlt:j<k
    ·have g:(j:Int)<(k:Int):=zx
     obtain⟨x,hx⟩: ∃ x,xs[j]?=some x:=⟨xs[j]'(by have:=HN.out;omega),DK _⟩;obtain⟨AX,v,hc,hv⟩:=HX.out j x hx;have hc':=(hC.1.cell AX).trans hc;obtain⟨dV,w4,hrun,TS⟩:=hC.step (t:=35) (tx:=35) underlying35 uy ((hv.below hC.1).src underlying35) (WE hx).2;rw[<- (WE hx).1,<- vo hx]at TS;obtain⟨p,c1,rfl,G8,hr⟩:=hv;have H4:=AA TS;have hrun:=AA hrun;clear hC hc TS hx hr;go_wp2_with (at_builtin;refine Lib.wpList_append_run _ rfl _ _ _ _ rfl _ _ rfl rfl _ _ (hrun.out _) ?_)
     exact⟨⟨j+1,by have:=HN.out;omega,zw,H4.out⟩,by simp[intOf];have:=HN.out;omega⟩
    ·obtain rfl:j=k:=by have:=HN.out;omega
     have H4:=AA hC;clear hC;go_wp2
     go_ret
     have:=H4.out
     rw[<- HN.out,JQ]at this;exact⟨u6,rfl,this⟩
end Go.P
namespace Go.W
variable {s:Nat}
def Z0k: ∀ (OA:List (List Value)),(∀ v,v∈OA->v.length=s)-> ∀ j u,OA.flatten[j]?=some u-> ∃ i r v,j=i*s+r/\OA[i]?=some v/\v[r]?=some u
 | [],_,j,u,h=>by simp at h
 | v::l,hv,j,u,h=>by
  have h0:=hv v zw;rw[List.flatten_cons]at h;by_cases hj:j<v.length
  ·rw[Q0 hj]at h;exact⟨0,j,v,zw,zw,h⟩
  ·rw[Q7 zx]at h;obtain⟨i,r,v',e,h1,h2⟩:=Z0k l (fun v hm=>hv v (by simp[hm])) _ _ h;exact⟨i+1,r,v',by rw[Nat.succ_mul];omega,by simpa using h1,h2⟩
def Z0m: ∀ (OA:List (List Value)),(∀ v,v∈OA->v.length=s)-> ∀ i v r u,OA[i]?=some v->v[r]?=some u->OA.flatten[i*s+r]?=some u
 | [],_,i,v,r,u,h,_=>by simp at h
 | v0::l,hv,0,v,r,u,h,h2=>by
  simp at h;subst h;rw[List.flatten_cons,Ol,Hr,Q0 (Gl.1 h2).1];exact h2
 | v0::l,hv,i+1,v,r,u,h,h2=>by
  have h0:=hv v0 zw;rw[List.flatten_cons,Q7 (by rw[Nat.succ_mul];omega),show(i+1)*s+r-v0.length=i*s+r by rw[Nat.succ_mul];omega];exact Z0m l (fun v hm=>hv v (by simp[hm])) i v r u (by simpa using h) h2
def Z0l: ∀ (OA:List (List Value)),(∀ v,v∈OA->v.length=s)->OA.flatten.length=OA.length*s
 | [],_=>zw
 | v::l,hv=>by rw[List.flatten_cons,Bq,hv v zw,Z0l l fun v hm=>hv v (by simp[hm])];simp[Nat.succ_mul];omega
def Zvn {α β:Type}{R:α->β->Prop}: ∀ (xs:List α),(∀ (i:Nat) x,xs[i]?=some x-> ∃ y,R x y)-> ∃ ys:List β,ys.length=xs.length/\ ∀ (i:Nat) x,xs[i]?=some x-> ∃ y,ys[i]?=some y/\R x y
 | [],_=>⟨[],rfl,fun i x h=>by simp at h⟩
 | x::l,h=>by
  obtain⟨y,hy⟩:=h 0 x rfl;obtain⟨ys,h1,h2⟩:=Zvn l fun i z hz=>h (i+1) z (by simpa using hz);refine⟨y::ys,by simp[h1],fun i z hz=>?_⟩;cases i with
  | zero=>simp at hz;subst hz;exact⟨y,rfl,hy⟩
  | succ i=>simpa using h2 i z (by simpa using hz)
def Ap.sl {α:Type}{c:Nat}{w:World}{p:Option Addr}{Q:Nat->Nat->α->Prop}{S:List Value->α->Prop}{xs:List α}(h:Ap s Q p xs)(hv: ∀ b o x,Q b o x->b<w.heap.size/\ ∃ vs:List Value,(vs.length=s/\(∀ u,u∈vs->u.oneCell'=true)/\S vs x)/\ ∀ j u,vs[j]?=some u->w.cell? ⟨b,o+j,none⟩=some u)(hl:xs.length<1000000)(hp:p=none->xs=[]): ∃ OA:List (List Value),OA.length=xs.length/\(∀ v,v∈OA->v.length=s)/\(∀ (i:Nat) x,xs[i]?=some x-> ∃ vs,OA[i]?=some vs/\S vs x)/\NZ s w (.slice p xs.length c) xs.length OA.flatten:=by
 cases p with
 | none=>
  obtain rfl:=hp rfl;exact⟨[],rfl,fun _ h=>(by cases h),fun i x h=>(by simp at h),none,c,rfl,zw,zw,fun _ h=>(by simp at h),fun _ h=>(by cases h),fun _=>rfl⟩
 | some a=>
  by_cases h0:xs=[]
  ·subst h0;exact⟨[],rfl,fun _ h=>(by cases h),fun i x h=>(by simp at h),some a,c,rfl,zw,zw,fun _ h=>(by simp at h),fun _ _ j u h=>(by simp at h),fun h=>(by cases h)⟩
  ·obtain⟨x0,hx0⟩: ∃ x0,xs[0]?=some x0:=⟨_,DK<|List.length_pos_iff.2 h0⟩;obtain⟨b,o,e,Hw⟩:=h.at_ 0 x0 hx0;injection e with e;subst e;have hb:=(hv _ _ _ Hw).1;obtain⟨ps,h1,h2⟩:=Zvn (R:=fun(ix:Nat×α) (vs:List Value)=>(vs.length=s/\(∀ u,u∈vs->u.oneCell'=true)/\S vs ix.2)/\ ∀ j u,vs[j]?=some u->w.cell? ⟨b,o+ix.1*s+j,none⟩=some u) ((List.range xs.length).zip xs) fun i ix hix=>by
    obtain⟨h3,h4⟩:=List.getElem?_zip_eq_some.1 hix;obtain⟨b',o',e,hq⟩:=h.at_ i ix.2 h4;injection e with e;injection e with e1 e2;subst e1 e2
    have:ix.1=i:=by rw[List.getElem?_range (by have:=(Gl.1 h4).1;omega)]at h3;injection h3 with h3;exact h3.symm
    rw[this];exact(hv _ _ _ hq).2
   have YS:ps.length=xs.length:=by rw[h1];simp
   have key: ∀ i v,ps[i]?=some v-> ∃ x,xs[i]?=some x/\(v.length=s/\(∀ u,u∈v->u.oneCell'=true)/\S v x)/\ ∀ j u,v[j]?=some u->w.cell? ⟨b,o+i*s+j,none⟩=some u:=fun i v hi=>by
    have hlt:i<xs.length:=by have:=(Gl.1 hi).1;omega
    obtain⟨v',hv',hR,hcell⟩:=h2 i (i,xs[i])<|List.getElem?_zip_eq_some.2 ⟨List.getElem?_range hlt,DK hlt⟩;rw[hi]at hv';injection hv' with hv';subst hv';exact⟨xs[i],DK hlt,hR,hcell⟩
   have hlen: ∀ v,v∈ps->v.length=s:=fun v hm=>by
    obtain⟨i,hi⟩:=List.getElem?_of_mem hm;obtain⟨_,_,h3,_⟩:=key i v hi;exact h3.1
   refine⟨ps,YS,hlen,fun i x hx=>?_,some ⟨b,o,none⟩,c,rfl,hl,by rw[Z0l ps hlen,YS],fun u hu=>?_,fun a' e j u hj=>?_,fun h=>(by cases h)⟩
   ·have hlt:i<ps.length:=by have:=(Gl.1 hx).1;omega
    obtain⟨x',Mc,h3,_⟩:=key i _<|DK hlt;rw[hx]at Mc;injection Mc with Mc;subst Mc;exact⟨_,DK hlt,h3.2.2⟩
   ·obtain⟨v,FL,hv2⟩:=List.mem_flatten.1 hu;obtain⟨i,hi⟩:=List.getElem?_of_mem FL;obtain⟨_,_,h3,_⟩:=key i v hi;exact h3.2.1 u hv2
   ·injection e with e;subst e;obtain⟨i,r,v,rfl,h3,h4⟩:=Z0k ps hlen j u hj;obtain⟨_,_,_,h5⟩:=key i v h3;refine⟨hb,?_⟩
    have:=h5 r u h4
    rwa [show(Addr.mk b o none).add (i*s+r)=⟨b,o+i*s+r,none⟩from by simp[Addr.add_lit,Nat.add_assoc]]
end Go.W
namespace Go.P
def Ztx (w:World):(Instr.makeMap 312 none).run prog w= .ok (.map<|some w.heap.size) (w.alloc<|.map #[] 0):=zt
def Zjc (w:World):(Instr.makeMap 313 none).run prog w= .ok (.map<|some w.heap.size) (w.alloc<|.map #[] 0):=zt
def Zwl (w:World):Calls prog 191 #[] w fun e w'=>e= .returned (.pointer<|Qb (w.heap.size+2) 0)/\w'=((w.alloc<|.map #[] 0).alloc<|.map #[] 0).alloc (.cells #[.slice none 0 0,.map<|some w.heap.size,.slice none 0 0,.map<|some<|w.heap.size+1] 316):=by
 have h1:=Ztx w;have h2:=fun o=>Zjc (w.alloc o);go_in
 go_wp2
 go_ret
 exact⟨rfl,rfl⟩
def jH (n:Nat)(hn:n<=60)(w:World):Calls prog 254 #[.int .i64 (n:Int)] w fun e w'=>e= .returned (.int .u64 ((2 ^ n-1:Nat):Int))/\w'=w:=by
 have h0:(1:Nat)<=2 ^ n:=Nat.one_le_two_pow;have h1:(2:Nat) ^ n<=2 ^ 60:=Nat.pow_le_pow_right zu hn;have e0:((2:Int) ^ n)=((2 ^ n:Nat):Int):=zw
 have e1:IntKind.u64.wrap ((2:Int) ^ n)=((2 ^ n:Nat):Int):=by
  rw[e0];generalize (2:Nat) ^ n=m at*;rw[IntKind.wrap_u64];omega
 have e2:IntKind.u64.wrap (((2 ^ n:Nat):Int)-1)=((2 ^ n-1:Nat):Int):=by
  clear e0 e1;generalize (2:Nat) ^ n=m at*;rw[IntKind.wrap_u64];omega
 have E:=AA<|AF e1 e2;clear e0 e1 e2;go_in
 go_wp2
 go_ret
 exact⟨by rw[<- E.out.2,<- E.out.1];rfl,rfl⟩
end Go.P
namespace Go.W
def Qn (w:World) (r:Nat) (bs:List ByteArray):Prop:= ∃ es clock,w.heap[r]?=some (.map es clock)/\es.toList.map (fun e=>(e.key,e.val))=bs.mapIdx fun i b=>(Value.string b,Value.int .i64 (i:Int))
def Ul (s:ByteArray):List ByteArray->Nat->Option Nat
 | [],_=>none
 | b::bs,i=>if s=b then some i else Ul s bs (i+1)
def wN (s:ByteArray): ∀ (l:List MapEntry) (bs:List ByteArray) (i:Nat),l.map (fun e=>(e.key,e.val))=bs.mapIdx (fun j b=>(Value.string b,Value.int .i64 ((j+i:Nat):Int)))->Instr.findNow .string (.string s) l i=some ((Ul s bs i).map fun(k:Nat)=>(k,Value.int .i64 (k:Int)))
 | [],bs,i,h=>by
  have:bs=[]:=by
   have:=congrArg List.length h
   simp at this;exact Ht this.symm
  subst this;rfl
 | e::l,[],i,h=>by simp at h
 | e::l,b::bs,i,h=>by
  rw[List.map_cons,List.mapIdx_cons]at h;injection h with h1 h2;injection h1 with hk hv;have ih:=wN s l bs (i+1) (by rw[h2];congr 1;funext j b;congr 3;omega);obtain⟨r,hr,TF⟩:=Go.MapKept.sameNow_of_keys (d:= .string) (a:= .string s) (b:= .string b) trivial trivial;unfold Instr.findNow Ul;rw[hk,hr];cases r with
  | true=>
   obtain rfl:s=b:=by injection TF.1 rfl
   rw[if_pos rfl,hv];simp
  | false=>
   rw[if_neg (fun e=>by have:=TF.2 (by rw[e]);cases this)];exact ih
end Go.W
namespace Go.P
variable {w:World}{r:Nat}{bs:List ByteArray}
def Z2r (h:Qn w r bs)(s:ByteArray):(Instr.lookup 313 (.map<|some r) (.string s) true).run prog w= .ok (.tuple #[.int .i64 (((Ul s bs 0).getD 0:Nat):Int),.bool (Ul s bs 0).isSome]) w:=by
 obtain⟨es,clock,hb,hm⟩:=h;have hf:=wN s es.toList bs 0 (by simpa using hm);have hz:(zeroValue 3).run prog w= .ok (.int .i64 0) w:=zt
 have FW:=Go.MapKept.run_checkKey (P:=prog) (w:=w) underlying9 (k:= .string s) trivial es.isEmpty 9999;have hgo:=WL (P:=prog) hb;have Fq:=Go.MapKept.run_findKey (P:=prog) (w:=w) underlying9 hf;have FW:(Instr.checkKey es.isEmpty 10000 9<|.string s).run prog w= .ok () w:=FW;cases hp:Ul s bs 0 with
 | none=>
  rw[hp]at Fq;simp only[Option.map_none]at Fq;simp[Instr.lookup,Jo underlying313,hgo,Fq,hz,FW]
 | some k=>
  rw[hp]at Fq;simp only[Option.map_some]at Fq;simp[Instr.lookup,Jo underlying313,hgo,Fq,FW]
def Z33 (h:Qn w r bs)(s:ByteArray)(hp:Ul s bs 0=none): ∃ o,(Instr.mapUpdate 313 (.map<|some r) (.string s)<|.int .i64 (bs.length:Int)).run prog w= .ok () {w with heap:=w.heap.setIfInBounds r o}/\Qn {w with heap:=w.heap.setIfInBounds r o} r (bs++[s]):=by
 obtain⟨es,clock,hb,hm⟩:=h;have hf:=wN s es.toList bs 0 (by simpa using hm);rw[hp]at hf;have FW:=Go.MapKept.run_checkKey (P:=prog) (w:=w) underlying9 (k:= .string s) trivial false 9999;replace FW:(Instr.checkKey false 10000 9<|.string s).run prog w= .ok () w:=FW
 have hgo:=WL (P:=prog) hb;have Fq:=Go.MapKept.run_findKey (P:=prog) (w:=w) underlying9 hf;simp only[Option.map_none]at Fq;have VO:=Go.MapKept.run_setObj_map (P:=prog) (.map (es.push {key:= .string s,val:= .int .i64 (bs.length:Int),born:=clock})<|clock+1) hb;refine⟨.map (es.push {key:= .string s,val:= .int .i64 (bs.length:Int),born:=clock})<|clock+1,?_,es.push {key:= .string s,val:= .int .i64 (bs.length:Int),born:=clock},clock+1,(Go.MapKept.heap_set hb).1,?_⟩
 ·simp[Instr.mapUpdate,Jo underlying313,hgo,FW,Fq,VO]
 ·simp[hm]
end Go.P
namespace Go.P
variable {t:ByteArray}{q:Nat}
def wL (c:Nat)(w:World):Calls prog 110 #[.int .u8 (c:Int)] w fun e w'=>e= .returned (.bool<|Jm c)/\w'=w:=by
 go_in
 go_wp2
 all_goals (go_ret;exact⟨KQ (by rw[Bool.eq_iff_iff];simp[Jm];omega),rfl⟩)
def wM (c:Nat)(w:World):Calls prog 114 #[.int .u8 (c:Int)] w fun e w'=>e= .returned (.bool<|Dr c)/\w'=w:=by
 go_in
 go_wp2
 all_goals (go_ret;exact⟨KQ (by rw[Bool.eq_iff_iff];simp[Dr];omega),rfl⟩)
def Zii (c:Nat)(w:World):Calls prog 164 #[.int .u8 (c:Int)] w fun e w'=>e= .returned (.bool<|EX c)/\w'=w:=by
 go_in
 go_wp2
 all_goals (go_ret;exact⟨KQ (by rw[Bool.eq_iff_iff];simp[EX,Jm,Dr];omega),rfl⟩)
def Z9c (h:q<t.size)(hq:Rq (Ab t) q=false):false=En t:=by
 unfold En;rw[Oi (fun hall=>by rw[hall q h]at hq;cases hq)];rfl
def l9 (w:World) (t:ByteArray) (wr:World):Prop:= ∃ q,q<=t.size/\wr=w.iter t q/\ ∀ i,i<q->Rq (Ab t) i=true
def l9.next {w:World}{ok:Bool}(hall: ∀ i,i<q->Rq (Ab t) i=true)(hlt:q<t.size)(h:Rq (Ab t) q=ok)(Az:ok=true):l9 w t (w.iter t<|q+1):=
 ⟨q+1,hlt,rfl,fun i hi=>by
  by_cases hiq:i=q
  ·rw[hiq,h,Az]
  ·exact hall i zx⟩
def vZ (t:ByteArray)(w:World)(ht:t.size<1000000000):Calls prog 144 #[.string t] w (fun e w'=>e= .returned (.bool<|En t)/\Bl w w'):=by
 have E0:=Xd t;by_cases h0:t.size=0
 ·have h:t.toList=[]:=Ht<|(Zj t).trans h0;clear E0;go_in
  go_wp2
  go_ret
  exact⟨KQ (by simp[En,h0]),AQ _ _⟩
 have h: ¬ t.toList=[]:=fun q=>h0 ((Zj t).symm.trans (by rw[q];rfl));clear E0;by_cases Ug:t.size<=16
 ·have g1:t.toList.isEmpty=false:=by simp[h]
  have g2:decide ((16:Int)<(t.size:Int))=false:=by simp;omega
  go_in
  go_wp2
  go_loopw [3] (fun _ wr=>l9 w t wr) (fun _ wr=>t.size-wr.iterPos w.heap.size)
  case atStart=>exact⟨0,zx,rfl,fun i hi=>absurd hi zx⟩
  case round=>
   obtain⟨q,hq,rfl,hall⟩:=hrel;by_cases hlt:q<t.size
   ·have hx:=V5 t q hlt;have HN:=AA fun h=>Z9c (q:=q) hlt h;have HO:AC (Rq (Ab t) q=(Jm ((Ab t).getD q 0) || (decide (q≠0) && (Dr ((Ab t).getD q 0) || decide ((Ab t).getD q 0=95))))):=⟨rfl⟩;have hn:=fun ty=>run_next_any (P:=prog) w t q ty hlt;have gz:=Zs7 t q;have FI:=AA fun ok (h:Rq (Ab t) q=ok) (hk:ok=true)=>l9.next (w:=w) hall hlt h hk;by_cases iE:(Ab t).getD q 0<128
    ·have e:Utf8.decode t q=((Ab t).getD q 0,1):=by
      rw[<- hx]at iE⊢;simp only[Utf8.decode,get_at t q hlt,if_pos iE]
     rw[e]at hn;clear e hx;generalize (Ab t).getD q 0=x at*;have S:AC (EX x=(Jm x || Dr x || decide (x=95))):=⟨rfl⟩;have n128: ¬ (128:Int)<=(x:Int):=zx
     generalize Rq (Ab t) q=ok at*;have C1:=AA<|Zii x;have C2:=AA<|wL x;generalize Jm x=b1 at*;generalize Dr x=b2 at*;generalize EX x=b3 at*;clear hall;by_cases Hw:q=0
     ·have q0:((q:Int)==0)=true:=by rw[DJ];omega
      have WQ:AC (ok=b1):=⟨by rw[HO.out];simp[Hw]⟩;clear HO Hw;cases b1 with
      | true=>
       obtain rfl:b3=true:=by rw[S.out];rfl
       go_wp2_with (first | (go_at_call 164;refine(C1.out _).mono ?_;rintro e w' ⟨rfl,rfl⟩) | (go_at_call 110;refine(C2.out _).mono ?_;rintro e w' ⟨rfl,rfl⟩))
       go_roundw
       case rel=>exact FI.out _ rfl WQ.out
       case measure=>simp;omega
      | false=>
       clear S;cases b3;all_goals
        go_wp2_with (first | (go_at_call 164;refine(C1.out _).mono ?_;rintro e w' ⟨rfl,rfl⟩) | (go_at_call 110;refine(C2.out _).mono ?_;rintro e w' ⟨rfl,rfl⟩))
        go_ret
        exact⟨KQ<|HN.out WQ.out,nJ _ _ _⟩
     ·have q0:((q:Int)==0)=false:=by rw[BK];omega
      have WQ:AC (ok=b3):=⟨by rw[HO.out,S.out];simp[Hw,Bool.or_assoc]⟩;clear HO Hw S;cases b3 with
      | true=>
       go_wp2_with (go_at_call 164;refine(C1.out _).mono ?_;rintro e w' ⟨rfl,rfl⟩)
       go_roundw
       case rel=>exact FI.out _ rfl WQ.out
       case measure=>simp;omega
      | false=>
       go_wp2_with (go_at_call 164;refine(C1.out _).mono ?_;rintro e w' ⟨rfl,rfl⟩)
       go_ret
       exact⟨KQ<|HN.out WQ.out,nJ _ _ _⟩
    ·have e:=(decode_high t q hlt (by rw[hx];omega)).1;have e2:(128:Int)<=((Utf8.decode t q).1:Int):=zx
     have NO:AC (Rq (Ab t) q=false):=⟨by
      rw[HO.out];generalize (Ab t).getD q 0=x at*;simp[Jm,Dr]
      omega⟩
     go_wp2
     go_ret
     exact⟨KQ<|HN.out NO.out,nJ _ _ _⟩
   ·obtain rfl:q=t.size:=zx
    have hn:=fun ty=>run_next_end (P:=prog) w t t.size ty zx;have HY:AC (true=En t):=⟨by unfold En;rw[QJ hall,QJ (by omega:1<=t.size),QJ Ug];rfl⟩;go_wp2
    go_ret
    exact⟨KQ HY.out,nJ _ _ _⟩
 ·have g2:(16:Int)<(t.size:Int):=zx
  have g1:t.toList.isEmpty=false:=by simp[h]
  go_in
  go_wp2
  go_ret
  exact⟨KQ (by unfold En;rw[Oi Ug];simp),AQ _ _⟩
end Go.P
