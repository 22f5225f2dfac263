import Derived.Test.YtgnakaplmhmdcaaGreatDoorW00
import Derived.Deep.RegionWith
import Derived.Lib.ValidU
import Derived.Lib.LaidU8
import Derived.Laws.BitsAllLaws
set_option maxRecDepth 100000
set_option maxHeartbeats 8000000
open Go.Proofs Go.RowKit Go.W
namespace Go.W
variable {s:ByteArray×Nat}
def Zdl (w:World) (g:Nat) (s:ByteArray×Nat):Prop:=g < w.heap.size/\w.cell? ⟨g,0,none⟩=some (.string s.1)/\w.cell? ⟨g,1,none⟩=some (.int .i64 (s.2:Int))/\s.1.size < 1000000000
theorem Zdl.of {w w':World}{g:Nat}(h:Zdl w g s)(hs:w.heap.size<=w'.heap.size)(hb:w'.heap[g]?=w.heap[g]?):Zdl w' g s:=
 ⟨Ycz h.1 hs,(Ycw (a:=⟨g,0,none⟩) hb).trans h.2.1,(Ycw (a:=⟨g,1,none⟩) hb).trans h.2.2.1,h.2.2.2⟩
def Zem (x:ByteArray×Nat):List Value:=[.string x.1,.int .i64 1,.int .i64 (x.2:Int),.int .i64 0,.int .i64 0,.int .i64 0,.int .i64 0,.int .i64 0]
def Zcf (xs:List (ByteArray×Nat)) (pn:ByteArray) (s x:ByteArray×Nat):Bool×List (ByteArray×Nat):=
 if pn≠x.1 then(false,xs)else if(Zbm xs s).2=false then(true,xs++[(s.1,x.2)])else(decide ((Zbm xs s).1=x.2),xs)
theorem Ztg {xs:List (ByteArray×Nat)}(h:(Zbm xs s).2=false):Zgj s.1 xs 0=none:=by
 unfold Zbm at h;split at h
 ·cases h
 ·simpa using h
end Go.W
namespace Go.P
theorem Zpo (w:World)(o:Obj)(cs:Array Value)(e:TypeId):Blk ((w.alloc o).alloc (.cells cs e)) (w.heap.size+1) cs e:=by
 have:=Blk.new (w.alloc o) cs e
 rwa [Yc4]at this
theorem Z1v (w:World)(o o':Obj)(cs:Array Value)(e:TypeId):Blk (((w.alloc o).alloc o').alloc (.cells cs e)) (w.heap.size+1+1) cs e:=by
 have:=Blk.new ((w.alloc o).alloc o') cs e
 rwa [Yc4,Yc4]at this
theorem Znr {w:World}{q o m:Nat}{T:TypeId}{cs:Array Value}{xs:List (ByteArray×Nat)}{ov:Value}{Fo:List Nat}(h:Bd w q T o m cs xs ov Fo){g c:Nat}{s:ByteArray×Nat}(hg:Zdl w g s)(pn:ByteArray)(x:ByteArray×Nat)(hl:xs.length < 1000):
  Calls Tryz.prog 260 #[.pointer (some ⟨q,o,none⟩),.agg #[.string pn,.slice (some ⟨g,0,none⟩) 1 c],.agg (Zem x).toArray] w fun e w'=>e= .returned (.bool (Zcf xs pn s x).1)/\ ∃ ov' Fo',Bd w' q T o m cs (Zcf xs pn s x).2 ov' Fo'/\Off (q::m::Fo) w w'/\ ∀ i,i∈Fo'->i∈Fo\/w.heap.size<=i:=by
 obtain⟨hgl,g0,g1,hsz⟩:=hg;unfold Zem;have H:=Zaa h;have B2:=fun o1 o2=>((Yct w.heap.size w).alloc lr o1).alloc (by simp) o2;have CO:=Zaa (fun u (hu:Below w.heap.size w u)=>Zv6 (w:=u) (q:=q) (o:=o) (v:= .map (some m)) (xs:=xs) (.inr ⟨m,rfl,h.map.of (hu.block m h.map.lt)⟩) ((Ycw (a:=⟨q,o,none⟩) (hu.block q h.blk.lt)).trans h.cells.1) (Ycz h.blk.lt hu.size) (fun j hj=>by injection hj with hj;injection hj with hj;subst hj;exact Ycz h.map.lt hu.size) s hsz);have CB:=Zaa (fun u (hu:Below w.heap.size w u) (h0:Zgj s.1 xs 0=none)=>Zx3 (h.of (w':=u) hu.size fun k hk=>hu.block k (h.lt k hk)) s.1 x.2 h0 hl);have B3:=fun o1 o2 o3=>(B2 o1 o2).alloc (by simp;omega) o3;clear h;by_cases hn:pn=x.1
 ·subst hn;have e1:(x.1.toList==x.1.toList)=true:=by simp
  have EM:Box (Zcf xs x.1 s x=if(Zbm xs s).2=false then(true,xs++[(s.1,x.2)])else(decide ((Zbm xs s).1=x.2),xs)):=⟨if_neg (by simp)⟩;generalize Zcf xs x.1 s x=r at*;go_enter Tryz.func260,Tryz.ntmps260
  go_wp2_with fail
  refine wp_loop_rounds 2 ?_;rw[rounds_succ];go_wp2_with fail
  refine(CO.out _ (B3 _ _ _)).mono ?_;rintro e w1 ⟨rfl,hb1⟩;have f1:=(((Zpo w _ _ _).alloc _).of (hb1.block (w.heap.size+1) (by simp))).cell 2;have s1:=((Z1v w _ _ _ _).of (hb1.block (w.heap.size+1+1) (by simp))).cell 0;simp at f1 s1;have HB:=Zaa ((B3 _ _ _).trans (hb1.mono (by simp;omega)));clear hb1 CO;have EN:=Zaa (Ztg (xs:=xs) (s:=s));generalize (Zbm xs s).1=v at*;generalize (Zbm xs s).2=kn at*;cases kn
  ·replace EN:Box (Zgj s.1 xs 0=none):=⟨EN.out rfl⟩
   replace EM:Box (r=(true,xs++[(s.1,x.2)])):=⟨EM.out⟩
   go_wp2_with fail
   go_region_with (go_at_call 265;refine(CB.out _ HB.out.drew EN.out).mono ?_;rintro e w2 ⟨rfl,ov2,F2,hbd,hoff,hF2⟩)
   all_goals
    have FIN:=Zaa (Ycs hbd (Ycs ((Off.of (F:=q::m::Fo) HB.out.drew).trans hoff fun _ h=> .inl h) hF2));clear hbd hoff hF2;go_wp2_with fail
    rw[rounds_succ];go_wp2_with fail
    go_ret
    have:=HB.out.size
    rw[EM.out];exact⟨rfl,ov2,F2,FIN.out.1,FIN.out.2.1,fun i hi=>(FIN.out.2.2 i hi).imp id fun h=>Ycu this h⟩
  ·clear EN CB;replace EM:Box (r=(decide (v=x.2),xs)):=⟨EM.out⟩
   have H1:Box (Bd w1 q T o m cs xs ov Fo):=⟨H.out.of HB.out.size fun k hk=>HB.out.block k (H.out.lt k hk)⟩;by_cases hv:v=x.2
   ·have e2:((v:Int) != (x.2:Int))=false:=by simp[hv]
    go_wp2_with fail
    rw[rounds_succ];go_wp2_with fail
    go_ret
    rw[EM.out,decide_eq_true hv];exact⟨rfl,ov,Fo,H1.out,Off.of HB.out,fun _ h=> .inl h⟩
   ·have e2:((v:Int) != (x.2:Int))=true:=by simp;omega
    go_wp2_with fail
    go_ret
    rw[EM.out,decide_eq_false hv];exact⟨rfl,ov,Fo,H1.out,Off.of HB.out,fun _ h=> .inl h⟩
 ·have e1:(pn.toList==x.1.toList)=false:=by rw[Zi7];simp[hn]
  have E:Box (Zcf xs pn s x=(false,xs)):=⟨if_pos hn⟩;rw[E.out];clear CO;go_enter Tryz.func260,Tryz.ntmps260
  go_wp2_with fail
  go_ret
  exact⟨rfl,ov,Fo,H.out.of (B2 _ _).size (fun k hk=>(B2 _ _).block k (H.out.lt k hk)),Off.of (B2 _ _),fun _ h=> .inl h⟩
end Go.P
namespace Go.P
variable {b' o' c':Nat}
section
variable {w:World} {p b o c:Nat} {hn:ByteArray} {pt pb pg:Option Addr} {nt ct nb cb ng cg:Nat} {J:World->Prop}
theorem Zz5 (r0:w.cell? ⟨b,o,none⟩=some (.string hn))(r1:w.cell? ⟨b,o+1,none⟩=some (.slice pt nt ct))(r2:w.cell? ⟨b,o+2,none⟩=some (.slice pb nb cb))(r3:w.cell? ⟨b,o+3,none⟩=some (.slice pg ng cg))(CH:Calls Tryz.prog 198 #[.pointer (some ⟨p,0,none⟩),.agg #[.string hn,.slice pt nt ct,.slice pb nb cb,.slice pg ng cg]] w fun e w'=>e= .returned (.bool true)/\J w'):
  Calls Tryz.prog 225 #[.slice (some ⟨b,o,none⟩) 1 c,.func (.func 198) #[.pointer (some ⟨p,0,none⟩)] #[]] w fun e w'=>e= .returned (.int .i64 0)/\J w':=by
 have hen: ∀ args w,(callFunc 198 args).run Tryz.prog w= .ok (.enter 198 args) w:=Zak Tryz.func198 (by kernel_rfl) rfl;have C:=Zaa CH;clear CH;go_enter Tryz.func225,Tryz.ntmps225
 go_wp2_with fail
 refine wp_loop_rounds 1 ?_;rw[rounds_succ];go_wp2_with fail
 refine C.out.mono ?_;rintro e w1 ⟨rfl,j⟩;have J1:=Zaa j;clear j;go_wp2_with fail
 go_ret
 exact⟨rfl,J1.out⟩
theorem Zru (r0:w.cell? ⟨b,o,none⟩=some (.string hn))(r1:w.cell? ⟨b,o+1,none⟩=some (.slice pt nt ct))(r2:w.cell? ⟨b,o+2,none⟩=some (.slice pb nb cb))(r3:w.cell? ⟨b,o+3,none⟩=some (.slice pg ng cg))(CH:Calls Tryz.prog 198 #[.pointer (some ⟨p,0,none⟩),.agg #[.string hn,.slice pt nt ct,.slice pb nb cb,.slice pg ng cg]] w fun e w'=>e= .returned (.bool true)/\J w'):
  Calls Tryz.prog 197 #[.slice (some ⟨b,o,none⟩) 1 c,.func (.func 198) #[.pointer (some ⟨p,0,none⟩)] #[]] w fun e w'=>e= .returned (.bool true)/\J w':=by
 have C:=Zaa (Zz5 (c:=c) r0 r1 r2 r3 CH);clear CH r0 r1 r2 r3;go_enter Tryz.func197,Tryz.ntmps197
 go_wp2_with fail
 refine C.out.mono ?_;rintro e w1 ⟨rfl,j⟩;have J1:=Zaa j;clear j;go_wp2_with fail
 go_ret
 exact⟨rfl,J1.out⟩
theorem Zlw (r0:w.cell? ⟨b,o,none⟩=some (.string hn))(r1:w.cell? ⟨b,o+1,none⟩=some (.slice pt nt ct))(r2:w.cell? ⟨b,o+2,none⟩=some (.slice pb nb cb))(r3:w.cell? ⟨b,o+3,none⟩=some (.slice pg ng cg))(CH:Calls Tryz.prog 198 #[.pointer (some ⟨p,0,none⟩),.agg #[.string hn,.slice pt nt ct,.slice pb nb cb,.slice pg ng cg]] w fun e w'=>e= .returned (.bool true)/\J w'):
  Calls Tryz.prog 150 #[.pointer (some ⟨p,0,none⟩),.slice (some ⟨b,o,none⟩) 1 c] w fun e w'=>e= .returned (.bool true)/\J w':=by
 have C:=Zaa (Zru (c:=c) r0 r1 r2 r3 CH);have hmf:=fun(fn:Fn) (first cap:Array Value) (w:World)=>(rfl:(Instr.makeFunc fn first cap).run Tryz.prog w= .ok (.func fn first cap) w);clear CH r0 r1 r2 r3;go_enter Tryz.func150,Tryz.ntmps150
 go_wp2_with fail
 refine C.out.mono ?_;rintro e w1 ⟨rfl,j⟩;have J1:=Zaa j;clear j;go_wp2_with fail
 go_ret
 exact⟨rfl,J1.out⟩
theorem Zwv (pc:Option Addr)(cc:Nat):Calls Tryz.prog 104 #[.pointer (some ⟨p,0,none⟩),.slice pc 0 cc] w fun e w'=>e= .returned (.bool true)/\w'=w:=by
 go_enter Tryz.func104,Tryz.ntmps104
 go_wp2_with fail
 refine wp_loop_rounds 1 ?_;rw[rounds_succ];go_wp2_with fail
 go_ret
 exact⟨rfl,rfl⟩
theorem Zz1 (k0:w.cell? ⟨b',o',none⟩=some (.slice (some ⟨b,o,none⟩) 1 c))(CH: ∀ u,Below w.heap.size w u->Calls Tryz.prog 150 #[.pointer (some ⟨p,0,none⟩),.slice (some ⟨b,o,none⟩) 1 c] u fun e w'=>e= .returned (.bool true)/\J w'):
  Calls Tryz.prog 104 #[.pointer (some ⟨p,0,none⟩),.slice (some ⟨b',o',none⟩) 1 c'] w fun e w'=>e= .returned (.bool true)/\J w':=by
 have C:=Zaa CH;clear CH;go_enter Tryz.func104,Tryz.ntmps104
 go_wp2_with fail
 refine wp_loop_rounds 2 ?_;rw[rounds_succ];go_wp2_with fail
 refine(C.out _ ((Yct _ w).alloc lr _)).mono ?_;rintro e w1 ⟨rfl,j⟩;have J1:=Zaa j;clear j;go_wp2_with fail
 rw[rounds_succ];go_wp2_with fail
 go_ret
 exact⟨rfl,J1.out⟩
theorem Zzh (k0:w.cell? ⟨b',o',none⟩=some (.bool true))(k1:w.cell? ⟨b',o'+1,none⟩=some (.slice (some ⟨b,o,none⟩) 1 c))(CH: ∀ u,Below w.heap.size w u->w.heap.size < u.heap.size->Calls Tryz.prog 150 #[.pointer (some ⟨p,0,none⟩),.slice (some ⟨b,o,none⟩) 1 c] u fun e w'=>e= .returned (.bool true)/\J w'/\w'.heap[w.heap.size]?=u.heap[w.heap.size]?):
  Calls Tryz.prog 105 #[.pointer (some ⟨p,0,none⟩),.slice (some ⟨b',o',none⟩) 1 c'] w fun e w'=>e= .returned (.bool true)/\J w':=by
 have C:=Zaa CH;clear CH;go_enter Tryz.func105,Tryz.ntmps105
 go_wp2_with fail
 refine wp_loop_rounds 2 ?_;rw[rounds_succ];go_wp2_with fail
 refine(C.out _ ((Yct _ w).alloc lr _) (by simp)).mono ?_;rintro e w1 ⟨rfl,j,hk⟩;have J1:=Zaa j;have y0:=((Blk.new w #[.bool true,.slice (some ⟨b,o,none⟩) 1 c] 179).of hk).two.1;clear j hk;go_wp2_with fail
 go_ret
 exact⟨rfl,J1.out⟩
end
end Go.P
namespace Go.W
variable {B d b o B':Nat}{w w':World}{x:T}{vs:List Value}
def Zuc (t:ByteArray):Bool:=Lib.validD t.data.toList
def Zmn (k i:Int) (t:ByteArray) (n:Nat) (named valid:Bool):Bool:=
 if k=1 then decide (i=0) && decide (n=0) && named else if k=3 then decide (i=0) && decide (n=0) && valid else if k=4 then decide (i=0) && decide (n=0)
 else if k=2\/k=5 then decide (t.size=0) && decide (n=0)else if k=6 then decide (t.size=0) && decide (n=0) && (decide (i=0) || decide (i=1))else if k=7 then decide (i=0) && decide (t.size=0)else false
def Ze9 (k i:Int) (t:ByteArray) (n:Nat):Bool:=Zmn k i t n (Zcp t) (Zuc t)
def Zug (d:Nat) (k i:Int) (t:ByteArray) (n:Nat):Int:=if Ze9 k i t n=false\/k=1/\0 < d then 2 else if 64 < t.size\/6 < n then 4 else if k=7/\d=3 then 3 else 0
mutual
def Zal (d:Nat):T->Int
 | .mk k i t l=>if Zug d k i t l.length≠0 then Zug d k i t l.length else Zh6 (d+1) l
def Zh6 (d:Nat):List T->Int
 | []=>0
 | x::r=>if Zal d x≠0 then Zal d x else Zh6 d r
end
theorem Zqw (d:Nat)(l:List T):Zh6 d l=Zax (Zal d) l:=by
 induction l with
 | nil=>simp[Zh6,Zax]
 | cons x r ih=>simp[Zh6,Zax,ih]
theorem Zkw (d:Nat)(x:T):Zal d x=if Zug d x.k x.i x.t x.l.length≠0 then Zug d x.k x.i x.t x.l.length else Zax (Zal (d+1)) x.l:=by
 cases x;rw[Zal,Zqw];rfl
def Zbw {α:Type} (f:α->Int) (m:Nat) (l:List α):Int:=if m < l.length then 4 else Zax f l
def Zb9 (a:A):Int:=if Zcp a.name=false then 2 else Zbw (Zal 0) 6 a.terms
def Zcg (l:List T) (body:List A):Bool:=l.all fun t=> !Z6o t || body.any fun a=>a.terms.any fun x=>Z6o x && decide (x.t=t.t)
def Zb1 (body:List A) (t:T):Int:=if Zal 0 t≠0 then Zal 0 t else if Zcg [t] body=false then 5 else 0
def Ze5 (body:List A) (g:G):Int:=if g.op < 1\/7 < g.op then 2 else if Zb1 body g.a≠0 then Zb1 body g.a else Zb1 body g.b
def Za0 (r:R):Int:=if r.body.length=0/\r.guards.length=0 then 2 else if 4 < r.body.length\/4 < r.guards.length then 4 else if Zax Zb9 r.body≠0 then Zax Zb9 r.body else Zax (Ze5 r.body) r.guards
def Zcr (r:R):Int:=if Zb9 r.head≠0 then Zb9 r.head else if Za0 r≠0 then Za0 r else if Zcg r.head.terms r.body=false then 5 else 0
def Zcj (r:R):Int:=if r.head.name.size≠0\/0 < r.head.terms.length then 2 else Za0 r
def Zat (l:List R):Int:=if l.length=0 then 2 else Zbw Zcj 4 l
def Zc5 (a:A):Int:=if Zb9 a≠0 then Zb9 a else if Zcg a.terms []=false then 5 else 0
def Zby (b:Bk):Int:=if Zbw Zc5 24 b.facts≠0 then Zbw Zc5 24 b.facts else if Zbw Zcr 24 b.rules≠0 then Zbw Zcr 24 b.rules else Zbw Zat 24 b.checks
def Zbo:List ByteArray:=[Zgc 1,Zgc 2,Zgc 3,Zgc 4,Zgc 5,Zgc 6,Zgc 7]
def Ybw:List Nat:=[34,34,92,92,110,10,116,9,114,13]
def Zx6:List Nat:=[0x6a09e667,0xbb67ae85,0x3c6ef372,0xa54ff53a,0x510e527f,0x9b05688c,0x1f83d9ab,0x5be0cd19]
def Zly:List Nat:=[0x428a2f98,0x71374491,0xb5c0fbcf,0xe9b5dba5,0x3956c25b,0x59f111f1,0x923f82a4,0xab1c5ed5,0xd807aa98,0x12835b01,0x243185be,0x550c7dc3,0x72be5d74,0x80deb1fe,0x9bdc06a7,0xc19bf174,0xe49b69c1,0xefbe4786,0x0fc19dc6,0x240ca1cc,0x2de92c6f,0x4a7484aa,0x5cb0a9dc,0x76f988da,0x983e5152,0xa831c66d,0xb00327c8,0xbf597fc7,0xc6e00bf3,0xd5a79147,0x06ca6351,0x14292967,0x27b70a85,0x2e1b2138,0x4d2c6dfc,0x53380d13,0x650a7354,0x766a0abb,0x81c2c92e,0x92722c85,0xa2bfe8a1,0xa81a664b,0xc24b8b70,0xc76c51a3,0xd192e819,0xd6990624,0xf40e3585,0x106aa070,0x19a4c116,0x1e376c08,0x2748774c,0x34b0bcb5,0x391c0cb3,0x4ed8aa4a,0x5b9cca4f,0x682e6ff3,0x748f82ee,0x78a5636f,0x84c87814,0x8cc70208,0x90befffa,0xa4506ceb,0xbef9a3f7,0xc67178f2]
def Zcv (B:Nat) (w:World) (d:Nat) (vs:List Value) (x:T):Prop:= ∃ p c,vs=[.int .i64 x.k,.int .i64 x.i,.string x.t,.slice p x.l.length c]/\x.t.size < 1000000000/\Zk2 x.k/\Zk2 x.i/\x.l.length<=c/\Zao 4 (Zbl B w d) p x.l
def Zev (B:Nat) (w:World) (d:Nat) (vs:List Value) (x:A):Prop:= ∃ p c,vs=[.string x.name,.slice p x.terms.length c]/\x.name.size < 1000000000/\x.terms.length<=c/\Zao 4 (Zbl B w (d+1)) p x.terms
def Zf5 (B:Nat) (w:World) (d:Nat) (vs:List Value) (x:G):Prop:= ∃ va vb,vs= .int .i64 x.op::(va++vb)/\Zk2 x.op/\Zcv B w d va x.a/\Zcv B w d vb x.b
def Zfy (B:Nat) (w:World) (d:Nat) (vs:List Value) (x:R):Prop:= ∃ va p c p' c',vs=va++[.slice p x.body.length c,.slice p' x.guards.length c']/\Zev B w d va x.head/\x.body.length<=c/\Zao 2 (Zbd B w (d+1)) p x.body/\x.guards.length<=c'/\Zao 9 (Zco B w (d+1)) p' x.guards
def Ziw (B:Nat) (w:World) (d:Nat) (vs:List Value) (x:List R):Prop:= ∃ p c,vs=[.slice p x.length c]/\x.length<=c/\Zao 4 (Zb4 B w (d+1)) p x
def Z9x (B:Nat) (w:World) (d:Nat) (vs:List Value) (x:Pol):Prop:= ∃ p c,vs=[.bool x.allow,.slice p x.either.length c]/\x.either.length<=c/\Zao 4 (Zb4 B w (d+1)) p x.either
def Zbk (B:Nat) (w:World) (d:Nat) (vs:List Value) (x:Bk):Prop:= ∃ p c p' c' p2 c2,vs=[.slice p x.facts.length c,.slice p' x.rules.length c',.slice p2 x.checks.length c2]/\x.facts.length<=c/\Zao 2 (Zbd B w (d+1)) p x.facts/\x.rules.length<=c'/\Zao 4 (Zb4 B w (d+1)) p' x.rules/\x.checks.length<=c2/\Zao 1 (Zhg B w (d+1)) p2 x.checks
theorem Zbl.vals (h:Zbl B w (d+1) b o x):b < B/\ ∃ p c,w.cell? ⟨b,o,none⟩=some (.int .i64 x.k)/\w.cell? ⟨b,o+1,none⟩=some (.int .i64 x.i)/\w.cell? ⟨b,o+2,none⟩=some (.string x.t)/\w.cell? ⟨b,o+3,none⟩=some (.slice p x.l.length c)/\Zcv B w d [.int .i64 x.k,.int .i64 x.i,.string x.t,.slice p x.l.length c] x:=by
 obtain⟨hb,lv,c0,c1,c2,c3,hi⟩:=h;obtain⟨p,c,rfl,hc,hr⟩:=hi.l;exact⟨hb,p,c,c0,c1,c2,c3,p,c,rfl,hi.tr,hi.kr,hi.ir,hc,hr⟩
theorem Zao.carry {α:Type}{s:Nat}{Q Q':Nat->Nat->α->Prop}{p:Option Addr}{xs:List α}(h:Zao s Q p xs)(f: ∀ b o x,Q b o x->Q' b o x):Zao s Q' p xs:=
 ⟨h.len,fun i x hx=>by obtain⟨b,o,e,q⟩:=h.at_ i x hx;exact⟨b,o,e,f _ _ _ q⟩⟩
theorem Zcv.carry (h:Zcv B w d vs x)(c:Zcw B B' w w'):Zcv B' w' d vs x:=by
 obtain⟨p,k,h0,h1,h2,h3,h4,h5⟩:=h;exact⟨p,k,h0,h1,h2,h3,h4,h5.carry fun _ _ _ q=>q.carry c lr⟩
theorem Zev.carry {x:A}(h:Zev B w d vs x)(c:Zcw B B' w w'):Zev B' w' d vs x:=by
 obtain⟨p,k,h0,h1,h2,h5⟩:=h;exact⟨p,k,h0,h1,h2,h5.carry fun _ _ _ q=>q.carry c lr⟩
theorem Zbd.vals {x:A}(h:Zbd B w (d+1) b o x):b < B/\ ∃ p c,w.cell? ⟨b,o,none⟩=some (.string x.name)/\w.cell? ⟨b,o+1,none⟩=some (.slice p x.terms.length c)/\Zev B w d [.string x.name,.slice p x.terms.length c] x:=by
 obtain⟨hb,c0,hs,tv,c1,p,c,rfl,hc,hr⟩:=h;exact⟨hb,p,c,c0,c1,p,c,rfl,hs,hc,hr⟩
theorem Zco.vals {x:G}(h:Zco B w (d+1) b o x):b < B/\ ∃ p c p' c',w.cell? ⟨b,o,none⟩=some (.int .i64 x.op)/\w.cell? ⟨b,o+1,none⟩=some (.int .i64 x.a.k)/\w.cell? ⟨b,o+2,none⟩=some (.int .i64 x.a.i)/\w.cell? ⟨b,o+3,none⟩=some (.string x.a.t)/\w.cell? ⟨b,o+4,none⟩=some (.slice p x.a.l.length c)/\w.cell? ⟨b,o+5,none⟩=some (.int .i64 x.b.k)/\w.cell? ⟨b,o+6,none⟩=some (.int .i64 x.b.i)/\w.cell? ⟨b,o+7,none⟩=some (.string x.b.t)/\w.cell? ⟨b,o+8,none⟩=some (.slice p' x.b.l.length c')/\Zf5 B w d [.int .i64 x.op,.int .i64 x.a.k,.int .i64 x.a.i,.string x.a.t,.slice p x.a.l.length c,.int .i64 x.b.k,.int .i64 x.b.i,.string x.b.t,.slice p' x.b.l.length c'] x:=by
 obtain⟨hb,c0,ho,ha,hb2⟩:=h;obtain⟨_,p,c,a0,a1,a2,a3,sa⟩:=ha.vals;obtain⟨_,p',c',b0,b1,b2,b3,sb⟩:=hb2.vals;exact⟨hb,p,c,p',c',c0,a0,a1,a2,a3,b0,b1,b2,b3,_,_,rfl,ho,sa,sb⟩
theorem Zb4.vals {x:R}(h:Zb4 B w (d+1) b o x):b < B/\ ∃ p c p' c' p2 c2,w.cell? ⟨b,o,none⟩=some (.string x.head.name)/\w.cell? ⟨b,o+1,none⟩=some (.slice p x.head.terms.length c)/\w.cell? ⟨b,o+2,none⟩=some (.slice p' x.body.length c')/\w.cell? ⟨b,o+3,none⟩=some (.slice p2 x.guards.length c2)/\Zfy B w d [.string x.head.name,.slice p x.head.terms.length c,.slice p' x.body.length c',.slice p2 x.guards.length c2] x:=by
 obtain⟨hb,hh,⟨bv,c2,p2,k2,rfl,h2,r2⟩,gv,c3,p3,k3,rfl,h3,r3⟩:=h;obtain⟨_,p,c,c0,c1,sh⟩:=hh.vals;exact⟨hb,p,c,p2,k2,p3,k3,c0,c1,c2,c3,_,p2,k2,p3,k3,rfl,sh,h2,r2,h3,r3⟩
theorem Zhg.vals {x:List R}(h:Zhg B w (d+1) b o x):b < B/\ ∃ p c,w.cell? ⟨b,o,none⟩=some (.slice p x.length c)/\Ziw B w d [.slice p x.length c] x:=by
 obtain⟨hb,v,c0,p,c,rfl,hc,hr⟩:=h;exact⟨hb,p,c,c0,p,c,rfl,hc,hr⟩
theorem Zjs.vals {x:Pol}(h:Zjs B w (d+1) b o x):b < B/\ ∃ p c,w.cell? ⟨b,o,none⟩=some (.bool x.allow)/\w.cell? ⟨b,o+1,none⟩=some (.slice p x.either.length c)/\Z9x B w d [.bool x.allow,.slice p x.either.length c] x:=by
 obtain⟨hb,c0,v,c1,p,c,rfl,hc,hr⟩:=h;exact⟨hb,p,c,c0,c1,p,c,rfl,hc,hr⟩
theorem Zf5.carry {x:G}(h:Zf5 B w d vs x)(c:Zcw B B' w w'):Zf5 B' w' d vs x:=by
 obtain⟨va,vb,h0,h1,h2,h3⟩:=h;exact⟨va,vb,h0,h1,Zcv.carry h2 c,Zcv.carry h3 c⟩
theorem Zfy.carry {x:R}(h:Zfy B w d vs x)(c:Zcw B B' w w'):Zfy B' w' d vs x:=by
 obtain⟨va,p,k,p',k',h0,h1,h2,h3,h4,h5⟩:=h;exact⟨va,p,k,p',k',h0,Zev.carry h1 c,h2,h3.carry fun _ _ _ q=>q.carry c lr,h4,h5.carry fun _ _ _ q=>q.carry c lr⟩
theorem Ziw.carry {x:List R}(h:Ziw B w d vs x)(c:Zcw B B' w w'):Ziw B' w' d vs x:=by
 obtain⟨p,k,h0,h2,h3⟩:=h;exact⟨p,k,h0,h2,h3.carry fun _ _ _ q=>q.carry c lr⟩
theorem Z9x.carry {x:Pol}(h:Z9x B w d vs x)(c:Zcw B B' w w'):Z9x B' w' d vs x:=by
 obtain⟨p,k,h0,h2,h3⟩:=h;exact⟨p,k,h0,h2,h3.carry fun _ _ _ q=>q.carry c lr⟩
theorem Zbk.carry {x:Bk}(h:Zbk B w d vs x)(c:Zcw B B' w w'):Zbk B' w' d vs x:=by
 obtain⟨p,k,p1,k1,p2,k2,h0,h2,h3,h4,h5,h6,h7⟩:=h;exact⟨p,k,p1,k1,p2,k2,h0,h2,h3.carry fun _ _ _ q=>q.carry c lr,h4,h5.carry fun _ _ _ q=>q.carry c lr,h6,h7.carry fun _ _ _ q=>q.carry c lr⟩
theorem Za6 {u:World}(h:Below w.heap.size w u)(hB:B<=w.heap.size):Zcw B B w u:=Go.W.Below.carry (h.mono hB) lr
theorem Zfd (o:Obj)(hB:B<=w.heap.size):Zcw B B w (w.alloc o):=Za6 ((Yct _ w).alloc lr o) hB
def Zj6 {α:Type} (w:World) (f:α->Int) (l:List α) (iv:Value) (wr:World):Prop:= ∃ q:Nat,q<=l.length/\iv= .int .i64 q/\Zax f (l.drop q)=Zax f l/\Below w.heap.size w wr
end Go.W
namespace Go.P
variable {w:World}{p:Addr}{x:Value}
def Zc3 (a:Nat->Addr) (n:Int):Value:=if n=0 then .nilIface else .iface 394 (.pointer (some (a (n.toNat - 1))))
theorem Zbb (a:Nat->Addr):Zc3 a 0= .nilIface:=rfl
theorem Zah (a:Nat->Addr){n:Int}(h:n≠0):Zc3 a n= .iface 394 (.pointer (some (a (n.toNat - 1)))):=if_neg h
structure Ycc (a:Nat->Addr) (w:World):Prop where
 c1:w.cell? ⟨1,0,none⟩=some (Zc3 a 1)
 c2:w.cell? ⟨2,0,none⟩=some (Zc3 a 2)
 c3:w.cell? ⟨3,0,none⟩=some (Zc3 a 3)
 c4:w.cell? ⟨0,0,none⟩=some (Zc3 a 4)
 c5:w.cell? ⟨4,0,none⟩=some (Zc3 a 5)
 c6:w.cell? ⟨5,0,none⟩=some (Zc3 a 6)
 c7:w.cell? ⟨6,0,none⟩=some (Zc3 a 7)
 c8:w.cell? ⟨7,0,none⟩=some (Zc3 a 8)
 c9:w.cell? ⟨8,0,none⟩=some (Zc3 a 9)
 c10:w.cell? ⟨9,0,none⟩=some (Zc3 a 10)
 utf:Lib.Utf8Tabs 15 16 w
 syn: ∃ te pe,w.cell? ⟨18,0,none⟩=some (.iface te pe)
 rng: ∃ te pe,w.cell? ⟨19,0,none⟩=some (.iface te pe)
 ops: ∀ (i:Nat) (s:ByteArray),(Zbo:List ByteArray)[i]?=some s->w.cell? ⟨17,i,none⟩=some (.string s)
 marks: ∀ (i:Nat) (s:ByteArray),(Zga:List ByteArray)[i]?=some s->w.cell? ⟨12,i,none⟩=some (.string s)
 esc: ∀ (i c:Nat),(Ybw:List Nat)[i]?=some c->w.cell? ⟨13,i,none⟩=some (.int .u8 (c:Int))
 start: ∀ (i c:Nat),(Zx6:List Nat)[i]?=some c->w.cell? ⟨11,i,none⟩=some (.int .u32 (c:Int))
 steps: ∀ (i c:Nat),(Zly:List Nat)[i]?=some c->w.cell? ⟨14,i,none⟩=some (.int .u32 (c:Int))
 bits:w.cell? ⟨20,0,none⟩=some (.int .u8 0)/\w.cell? ⟨20,1,none⟩=some (.int .u8 1)/\w.cell? ⟨20,3,none⟩=some (.int .u8 2)
def Zap (a:Nat->Addr) (w:World):Prop:= ∃ w0,Ycc a w0/\ ∀ g o,g < 23->g < w.heap.size/\w.cell? ⟨g,o,none⟩=w0.cell? ⟨g,o,none⟩
theorem Zbi (h:w.cell? p=some x):p.block < w.heap.size:=by
 rcases Yel p.block w.heap.size with hl | hl
 ·exact hl
 ·simp[World.cell?,Yei hl]at h
theorem Zac {u:World}(h:w.cell? p=some x)(hb:Below w.heap.size w u):u.cell? p=some x:=(hb.cell (Zbi h)).trans h
section
variable {a:Nat->Addr} {w u:World}
theorem Zap.below (h:Zap a w)(hb:Below w.heap.size w u):Zap a u:=by
 obtain⟨w0,h0,h1⟩:=h;exact⟨w0,h0,fun g o hg=>⟨Ycz (h1 g o hg).1 hb.size,(hb.cell (p:=⟨g,o,none⟩) (h1 g o hg).1).trans (h1 g o hg).2⟩⟩
theorem Zap.size (h:Zap a w):23<=w.heap.size:=by
 obtain⟨w0,_,h1⟩:=h
 have:=(h1 (23 - 1) 0 (by decide)).1
 omega
theorem Zap.c1 (h:Zap a w):w.cell? ⟨1,0,none⟩=some (Zc3 a 1):=by obtain⟨_,h0,h1⟩:=h;exact(h1 _ _ (by decide)).2.trans h0.c1
theorem Zap.c2 (h:Zap a w):w.cell? ⟨2,0,none⟩=some (Zc3 a 2):=by obtain⟨_,h0,h1⟩:=h;exact(h1 _ _ (by decide)).2.trans h0.c2
theorem Zap.c3 (h:Zap a w):w.cell? ⟨3,0,none⟩=some (Zc3 a 3):=by obtain⟨_,h0,h1⟩:=h;exact(h1 _ _ (by decide)).2.trans h0.c3
theorem Zap.c4 (h:Zap a w):w.cell? ⟨0,0,none⟩=some (Zc3 a 4):=by obtain⟨_,h0,h1⟩:=h;exact(h1 _ _ (by decide)).2.trans h0.c4
theorem Zap.c5 (h:Zap a w):w.cell? ⟨4,0,none⟩=some (Zc3 a 5):=by obtain⟨_,h0,h1⟩:=h;exact(h1 _ _ (by decide)).2.trans h0.c5
theorem Zap.c6 (h:Zap a w):w.cell? ⟨5,0,none⟩=some (Zc3 a 6):=by obtain⟨_,h0,h1⟩:=h;exact(h1 _ _ (by decide)).2.trans h0.c6
theorem Zap.c7 (h:Zap a w):w.cell? ⟨6,0,none⟩=some (Zc3 a 7):=by obtain⟨_,h0,h1⟩:=h;exact(h1 _ _ (by decide)).2.trans h0.c7
theorem Zap.c8 (h:Zap a w):w.cell? ⟨7,0,none⟩=some (Zc3 a 8):=by obtain⟨_,h0,h1⟩:=h;exact(h1 _ _ (by decide)).2.trans h0.c8
theorem Zap.c9 (h:Zap a w):w.cell? ⟨8,0,none⟩=some (Zc3 a 9):=by obtain⟨_,h0,h1⟩:=h;exact(h1 _ _ (by decide)).2.trans h0.c9
theorem Zap.c10 (h:Zap a w):w.cell? ⟨9,0,none⟩=some (Zc3 a 10):=by obtain⟨_,h0,h1⟩:=h;exact(h1 _ _ (by decide)).2.trans h0.c10
theorem Zap.utf (h:Zap a w):Lib.Utf8Tabs 15 16 w:=by
 obtain⟨_,h0,h1⟩:=h;exact⟨fun c hc=>(h1 _ _ (by decide)).2.trans (h0.utf.1 c hc),fun i hi=>⟨(h1 _ _ (by decide)).2.trans (h0.utf.2 i hi).1,(h1 _ _ (by decide)).2.trans (h0.utf.2 i hi).2⟩⟩
end
def Zc9 (a:Nat->Addr) (n:Int) (w:World) (e:Ending) (w':World):Prop:=e= .returned (Zc3 a n)/\Below w.heap.size w w'
def Zam (K:Nat):Prop:= ∀ args w,(callFunc K args).run Tryz.prog w= .ok (.enter K args) w
end Go.P
namespace Go.W
variable {e:Int}
abbrev By:=List UInt8
def ba (l:By):ByteArray:=⟨l.toArray⟩
abbrev De (α:Type):=By->Except Int (α×By)
def De.then {α β:Type} (f:De α) (g:α->De β):De β:=fun l=>match f l with
 | .error e=> .error e
 | .ok (x,r)=>g x r
def De.map {α β:Type} (f:De α) (g:α->β):De β:=fun l=>match f l with
 | .error e=> .error e
 | .ok (x,r)=> .ok (g x,r)
def Zfe (n:Nat):De By:=fun l=>if l.length < n then .error 6 else .ok (l.take n,l.drop n)
def Zfx:De Nat:=fun l=>match l with
 | []=> .error 6
 | c::r=> .ok (c.toNat,r)
def Zuw (k n:Nat):De Nat:=fun l=>match l with
 | []=> .error 6
 | c::r=>if(k=9/\1 < c.toNat)\/(0 < k/\c.toNat=0)then .error 7 else if c.toNat < 128 then .ok (n+c.toNat*128 ^ k,r)else Zuw (k+1) (n+(c.toNat - 128)*128 ^ k) r
def Zdm:De Nat:=Zuw 0 0
def Zoi:De ByteArray:=(Zdm.then Zfe).map ba
def Ziz {α:Type} (f:De α):Nat->De (List α)
 | 0=>fun l=> .ok ([],l)
 | n+1=>f.then fun x=>(Ziz f n).map fun r=>x::r
def Zbt {α:Type} (m:Nat) (f:De α):De (List α):=Zdm.then fun n=>if m < n then fun _=> .error 4 else Ziz f n
def Zen (n:Nat):Int:=if n % 2=0 then(n / 2:Nat)else -((n / 2:Nat):Int) - 1
def Zfg:Nat->De T
 | 0=>Zfx.then fun k=>if k=2\/k=5 then Zdm.map fun n=> .mk k (Zen n) ByteArray.empty []else if k=6 then Zfx.map fun n=> .mk k n ByteArray.empty []else if k=7 then fun _=> .error 3 else if k=1\/k=3\/k=4 then Zoi.map fun t=> .mk k 0 t []else fun _=> .error 7
 | d+1=>Zfx.then fun k=>if k=2\/k=5 then Zdm.map fun n=> .mk k (Zen n) ByteArray.empty []else if k=6 then Zfx.map fun n=> .mk k n ByteArray.empty []else if k=7 then(Zbt 6 (Zfg d)).map fun x=> .mk k 0 ByteArray.empty x else if k=1\/k=3\/k=4 then Zoi.map fun t=> .mk k 0 t []else fun _=> .error 7
def Zpn:De A:=Zoi.then fun n=>(Zbt 6 (Zfg 3)).map fun l=>⟨n,l⟩
def Zm7:De G:=Zfx.then fun o=>(Zfg 3).then fun a=>(Zfg 3).map fun b=>⟨o,a,b⟩
def Zpg:De R:=(Zbt 4 Zpn).then fun l=>(Zbt 4 Zm7).map fun g=>⟨⟨ByteArray.empty,[]⟩,l,g⟩
def Zw3:De R:=Zpn.then fun h=>Zpg.map fun b=>⟨h,b.body,b.guards⟩
def Zq8:De (List R):=Zbt 4 Zpg
def Zil:De Bk:=(Zbt 24 Zpn).then fun f=>(Zbt 24 Zw3).then fun r=>(Zbt 24 Zq8).map fun c=>⟨f,r,c⟩
def Zc7 {α:Type} (f:De α) (l:By):Except Int α:=match f l with
 | .error e=> .error e
 | .ok (x,r)=>if r=[]then .ok x else .error 7
def Zc2 (l:By):Except Int Bk:=if 4000 < l.length then .error 4 else match Zc7 Zil l with
 | .error e=> .error e
 | .ok x=>if Zby x≠0 then .error (Zby x)else .ok x
theorem De.then_error {α β:Type}{f:De α}{g:α->De β}{l:By}(h:f l= .error e):f.then g l= .error e:=by unfold De.then;rw[h]
theorem De.then_ok {α β:Type}{f:De α}{g:α->De β}{l r:By}{x:α}(h:f l= .ok (x,r)):f.then g l=g x r:=by unfold De.then;rw[h]
theorem De.map_error {α β:Type}{f:De α}{g:α->β}{l:By}(h:f l= .error e):f.map g l= .error e:=by unfold De.map;rw[h]
theorem De.map_ok {α β:Type}{f:De α}{g:α->β}{l r:By}{x:α}(h:f l= .ok (x,r)):f.map g l= .ok (g x,r):=by unfold De.map;rw[h]
theorem Z9r (l:By)(n:Nat):(ba l).extract 0 n=ba (l.take n):=by
 apply Zgl
 rw[Ydl,Ydl];simp[ba]
theorem Z9j (l:By)(n:Nat):(ba l).extract n (ba l).size=ba (l.drop n):=by
 apply Zgl
 rw[Ydl,Ydl];simp[ba,ByteArray.size];rw[Ydr (by simp)]
theorem Ze7 (l:By):(ba l).size=l.length:=by simp[ba,ByteArray.size]
end Go.W
namespace Go.W
variable {b L k B:Nat}{u v w w0:World}{x0 x1 x2 x3:Value}
structure Zaf (b:Nat) (w w':World):Prop where
 os:w'.os=w.os
 tape:w'.tape=w.tape
 output:w'.output=w.output
 size:w.heap.size<=w'.heap.size
 block: ∀ k,k < w.heap.size->k≠b->w'.heap[k]?=w.heap[k]?
theorem Zaf.refl (b:Nat)(w:World):Zaf b w w:=⟨rfl,rfl,rfl,Ydu _,fun _ _ _=>rfl⟩
theorem Zaf.trans (h:Zaf b u v)(k:Zaf b v w):Zaf b u w:=
 ⟨k.os.trans h.os,k.tape.trans h.tape,k.output.trans h.output,Ycu h.size k.size,fun i hi hn=>(k.block i (Ycz hi h.size) hn).trans (h.block i hi hn)⟩
theorem Zaf.alloc (h:Zaf b w0 w)(o:Obj):Zaf b w0 (w.alloc o):=
 ⟨h.os,h.tape,h.output,Ycu h.size (by simp),fun k hk hn=>(Ycx w o k (Ycz hk h.size)).trans (h.block k hk hn)⟩
theorem Zaf.setNew (h:Zaf b w0 w)(L o:Nat)(v:Value)(hL:w0.heap.size<=L):Zaf b w0 (w.setCell ⟨L,o,none⟩ v):=
 ⟨h.os,h.tape,h.output,by simpa[World.setCell]using h.size,fun k hk hn=>(Ycy w ⟨L,o,none⟩ v k (by show k≠L;omega)).trans (h.block k hk hn)⟩
theorem Zaf.set (h:Zaf b w0 w)(o:Nat)(v:Value):Zaf b w0 (w.setCell ⟨b,o,none⟩ v):=
 ⟨h.os,h.tape,h.output,by simpa[World.setCell]using h.size,fun k hk hn=>(Ycy w ⟨b,o,none⟩ v k hn).trans (h.block k hk hn)⟩
theorem Z13 (hk:k≠L):(w.setCell ⟨L,0,none⟩ x0).heap[k]?=w.heap[k]?:=Ycy _ _ _ _ hk
theorem Zrr (hk:k≠L):((w.setCell ⟨L,0,none⟩ x0).setCell ⟨L,1,none⟩ x1).heap[k]?=w.heap[k]?:=by
 rw[Ycy _ _ _ _ hk,Ycy _ _ _ _ hk]
theorem Zfa (hk:k≠L):(((w.setCell ⟨L,0,none⟩ x0).setCell ⟨L,1,none⟩ x1).setCell ⟨L,2,none⟩ x2).heap[k]?=w.heap[k]?:=by
 rw[Ycy _ _ _ _ hk,Ycy _ _ _ _ hk,Ycy _ _ _ _ hk]
theorem Zcc (hk:k≠L):((((w.setCell ⟨L,0,none⟩ x0).setCell ⟨L,1,none⟩ x1).setCell ⟨L,2,none⟩ x2).setCell ⟨L,3,none⟩ x3).heap[k]?=w.heap[k]?:=by
 rw[Ycy _ _ _ _ hk,Ycy _ _ _ _ hk,Ycy _ _ _ _ hk,Ycy _ _ _ _ hk]
theorem Zaf.r1 (h:Zaf b w0 w)(hL:w0.heap.size<=L):Zaf b w0 (w.setCell ⟨L,0,none⟩ x0):=h.setNew _ _ _ hL
theorem Zaf.r2 (h:Zaf b w0 w)(hL:w0.heap.size<=L):Zaf b w0 ((w.setCell ⟨L,0,none⟩ x0).setCell ⟨L,1,none⟩ x1):=(h.setNew _ _ _ hL).setNew _ _ _ hL
theorem Zaf.r3 (h:Zaf b w0 w)(hL:w0.heap.size<=L):Zaf b w0 (((w.setCell ⟨L,0,none⟩ x0).setCell ⟨L,1,none⟩ x1).setCell ⟨L,2,none⟩ x2):=(h.r2 hL).setNew _ _ _ hL
theorem Zaf.r4 (h:Zaf b w0 w)(hL:w0.heap.size<=L):Zaf b w0 ((((w.setCell ⟨L,0,none⟩ x0).setCell ⟨L,1,none⟩ x1).setCell ⟨L,2,none⟩ x2).setCell ⟨L,3,none⟩ x3):=(h.r3 hL).setNew _ _ _ hL
theorem Zaf.dr (h:Zaf b w0 w)(n:Nat):Zaf b w0 (w.drewN n):=⟨h.os,h.tape,h.output,h.size,h.block⟩
theorem Zaf.drew (h:Zaf b w0 w):Zaf b w0 w.drew:=⟨h.os,h.tape,h.output,h.size,h.block⟩
theorem Zaf.appO {α:Type}{e:TypeId}{s:Nat}{Q:Zgk α}{w1:World}{xs:List α}{F G:List Nat}{y:α}{g cap:Nat}{F':List Nat}(h:Zsv e s Q B w w1 xs F G y g cap F')(k:Zaf b w0 w)(hF: ∀ i,i∈F->w0.heap.size<=i):Zaf b w0 w1:=
 ⟨h.os.trans k.os,h.tape.trans k.tape,h.output.trans k.output,Ycu k.size h.size,fun i hi hn=>(h.same i (Ycz hi k.size) fun q=>by have:=hF i q;omega).trans (k.block i hi hn)⟩
theorem Zaf.below (h:Zaf b w0 w)(hB:B<=b)(hw:B<=w0.heap.size):Below B w0 w:=⟨h.os,h.tape,h.output,h.size,fun k hk=>h.block k (by omega) (by omega)⟩
theorem Zaf.later {w':World}(h:Below w.heap.size w u)(k:Zaf b u w'):Zaf b w w':=
 ⟨k.os.trans h.os,k.tape.trans h.tape,k.output.trans h.output,Ycu h.size k.size,fun i hi hn=>(k.block i (Ycz hi h.size) hn).trans (h.block i hi)⟩
theorem Zaf.ofBelow (h:Zaf b w u)(k:Below u.heap.size u v):Zaf b w v:=
 ⟨k.os.trans h.os,k.tape.trans h.tape,k.output.trans h.output,Ycu h.size k.size,fun i hi hn=>(k.block i (Ycz hi h.size)).trans (h.block i hi hn)⟩
end Go.W
namespace Go.P
variable {a:Nat->Addr}{b n c k:Nat}{w:World}{l:By}
def Dc (w:World) (b:Nat) (l:By):Prop:=Blk w b #[.string (ba l)] 160/\l.length < 1000000000/\23<=b
theorem Zap.keeps {u:World}(h:Zap a w)(k:Zaf b w u)(hb:23<=b):Zap a u:=by
 obtain⟨w0,h0,h1⟩:=h;exact⟨w0,h0,fun g o hg=>⟨Ycz (h1 g o hg).1 k.size,(Ycw (w:=w) (w':=u) (a:=⟨g,o,none⟩) (k.block g (h1 g o hg).1 (by omega))).trans (h1 g o hg).2⟩⟩
def Zwx (a:Nat->Addr) (n:Int):Ending:= .panicked [{v:= .iface 158 (.agg #[Zc3 a n]),recovered:=false}]
def Zeq {α:Type} (a:Nat->Addr) (b:Nat) (V:World->Value->α->Prop) (w:World) (Y:Except Int (α×By)) (e:Ending) (w':World):Prop:=
 Zaf b w w'/\((∃ n,Y= .error n/\n≠0/\e=Zwx a n)\/ ∃ x r v,Y= .ok (x,r)/\e= .returned v/\V w' v x/\Dc w' b r)
theorem Dc.drew (h:Dc w b l):Dc w.drew b l:=h
theorem Dc.alloc (h:Dc w b l)(o:Obj):Dc (w.alloc o) b l:=⟨h.1.alloc o,h.2⟩
theorem Dc.of {w':World}(h:Dc w b l)(k:w'.heap[b]?=w.heap[b]?):Dc w' b l:=⟨h.1.of k,h.2⟩
theorem Zbp (a:Nat->Addr)(b:Nat)(w:World){n:Int}(hn:n≠0):Calls Tryz.prog 67 #[.pointer (some ⟨b,0,none⟩),Zc3 a n] w fun e w'=>e=Zwx a n/\w'=w:=by
 unfold Zwx;rw[Zah _ hn];go_enter Tryz.func67,Tryz.ntmps67
 go_wp2_with fail
 exact⟨rfl,rfl,rfl⟩
theorem Zkl (Z:Zap a w)(h:Dc w b l)(n:Nat)(hn:n < 18446744073709551616):
  Calls Tryz.prog 164 #[.pointer (some ⟨b,0,none⟩),.int .u64 (n:Int)] w (Zeq a b (fun _ v x=>v= .string (ba x)) w (Zfe n l)):=by
 obtain⟨hb,hl,hg⟩:=h;obtain⟨c0,sf⟩:=hb.one;have E1:=Zaa (Z9r l n);have E2:=Zaa (Z9j l n);have HB:=Zaa hb;have z6:=Z.c6;have C:=Zaa (Zbp a b w (n:=6) (by decide));have hsl:(ba l).size < 1000000000:=by rw[Ze7];exact hl
 have HS:=Zaa (Ze7 l);clear Z hb;generalize ba l=s at*;by_cases h:l.length < n
 ·have F:Box (Zfe n l= .error 6):=⟨if_pos h⟩;have g:(s.size:Int) < (n:Int):=by have:=HS.out;omega
  go_enter Tryz.func164,Tryz.ntmps164
  go_wp2_with fail
  refine C.out.mono ?_;rintro e w1 ⟨rfl,rfl⟩;exact⟨rfl,Zaf.refl _ _,Or.inl ⟨6,F.out,by decide,rfl⟩⟩
 ·have F:Box (Zfe n l= .ok (l.take n,l.drop n)):=⟨if_neg h⟩;have g: ¬ (s.size:Int) < (n:Int):=by have:=HS.out;omega
  have g2:n<=s.size:=by have:=HS.out;omega
  clear z6 C;go_enter Tryz.func164,Tryz.ntmps164
  go_wp2_with fail
  go_ret
  refine⟨(Zaf.refl b w).set _ _,Or.inr ⟨_,_,_,F.out,rfl,by simp[E1.out],?_,by rw[List.length_drop];omega,hg⟩⟩;rw[<- E2.out];exact HB.out.set 0 _
theorem Ya9 (c:UInt8)(r:By)(h:0 < (ba (c::r)).size):(ba (c::r))[0]=c:=rfl
theorem Zke (Z:Zap a w)(h:Dc w b l):
  Calls Tryz.prog 162 #[.pointer (some ⟨b,0,none⟩)] w (Zeq a b (fun _ v (x:Nat)=>v= .int .u8 (x:Int)/\x < 256) w (Zfx l)):=by
 have C:=Zaa (Zkl Z h 1 (by decide));go_enter Tryz.func162,Tryz.ntmps162
 go_wp2_with fail
 refine C.out.mono ?_;rintro e w1 ⟨hk,⟨n,hy,hn,rfl⟩ | ⟨x,r,v,hy,rfl,rfl,hd⟩⟩
 ·have Y:Box (Zfx l= .error n):=⟨by
   cases l with
   | nil=>simp[Zfe]at hy;rw[<- hy];rfl
   | cons c r=>simp[Zfe]at hy⟩
  exact⟨rfl,hk,Or.inl ⟨n,Y.out,hn,rfl⟩⟩
 ·cases l with
  | nil=>simp[Zfe]at hy
  | cons c l'=>
   obtain⟨rfl,rfl⟩:x=[c]/\r=l':=by simp[Zfe]at hy;exact⟨hy.1.symm,hy.2.symm⟩
   have h0:0 < (ba [c]).size:=by rw[Ze7];simp
   have hg:=Ya9 c [] h0;have HD:=Zaa hd;have HK:=Zaa hk;have h256:=c.toNat_lt;clear hd hk hy;generalize ba [c]=s at*;go_wp2_with fail
   go_ret
   exact⟨HK.out,Or.inr ⟨c.toNat,_,_,rfl,rfl,⟨by simp,h256⟩,HD.out⟩⟩
theorem Z6r (n c k:Nat)(h:n < 128 ^ k):n ||| (c*128 ^ k)=n+c*128 ^ k:=by
 rw[Nat.or_comm];have e:(128:Nat) ^ k=2 ^ (7*k):=by rw[show(128:Nat)=2 ^ 7 by rfl,<- Nat.pow_mul]
 rw[e]at h⊢;rw[nat_join (7*k) (c*2 ^ (7*k)) n (Nat.mul_mod_left _ _) h,Nat.add_comm]
theorem Yar (k:Nat):(128:Nat) ^ k=2 ^ (7*k):=by rw[show(128:Nat)=2 ^ 7 by rfl,<- Nat.pow_mul]
theorem Zum (hn:n < 128 ^ k)(hk:k<=9)(hc:c < 128)(h9:k=9->c<=1):n+c*128 ^ k < 18446744073709551616:=by
 rcases Yel k 9 with h | h
 ·have:(128:Nat) ^ k<=128 ^ 8:=Nat.pow_le_pow_right (by omega) (by omega)
  have h2:c*128 ^ k<=127*128 ^ k:=Nat.mul_le_mul_right _ (by omega);have e:(128:Nat) ^ 8=72057594037927936:=by decide
  omega
 ·obtain rfl:k=9:=by omega
  have e:(128:Nat) ^ 9=9223372036854775808:=by decide
  rw[e]at hn⊢
  have:=h9 rfl
  omega
theorem Z95 (hn:n < 128 ^ k)(hk:k<=9)(hc:c < 128)(h9:k=9->c<=1):bits .or .u64 (n:Int) (IntKind.u64.wrap ((c:Int)*2 ^ (7*k)))=((n+c*128 ^ k:Nat):Int):=by
 have hs:=Zum hn hk hc h9;have e:(c:Int)*2 ^ (7*k)=((c*128 ^ k:Nat):Int):=by rw[Yar];simp
 rw[e,IntKind.wrap_u64,show((c*128 ^ k:Nat):Int) % 18446744073709551616=((c*128 ^ k:Nat):Int)by omega,u64_or_nat _ _ (by omega) (by omega),Z6r n c k hn]
theorem Z8k: ∀ X:Fin 256,bits .and .u8 ((X.val:Nat):Int) 127=((X.val % 128:Nat):Int):=by decide
theorem Yba (c:Nat)(h:c < 256):bits .and .u8 (c:Int) 127=((c % 128:Nat):Int):=Z8k ⟨c,h⟩
def Yb5 (a:Nat->Addr) (b:Nat) (w:World) (l:By) (nv sv:Value) (wr:World):Prop:= ∃ (k n:Nat) (r:By),k<=9/\n < 128 ^ k/\nv= .int .u64 (n:Int)/\sv= .int .i64 ((7*k:Nat):Int)/\Zuw k n r=Zdm l/\Dc wr b r/\Zaf b w wr/\Zap a wr
def Z2p (b:Nat) (w:World):Nat:=match w.cell? ⟨b,0,none⟩with
 | some (.string s)=>s.size
 | _=>0
theorem Zx2 (h:Dc w b l):Z2p b w=l.length:=by
 unfold Z2p;rw[h.1.one.1];exact Ze7 l
theorem Zc1 (Z:Zap a w)(h:Dc w b l):
  Calls Tryz.prog 120 #[.pointer (some ⟨b,0,none⟩)] w (Zeq a b (fun _ v (x:Nat)=>v= .int .u64 (x:Int)/\x < 18446744073709551616) w (Zdm l)):=by
 have hgb:=h.2.2;go_enter Tryz.func120,Tryz.ntmps120
 go_wp2_with fail
 go_loopw [3,4] (fun nv sv wr=>Yb5 a b w l nv sv wr) (fun _ _ wr=>Z2p b wr)
 case atStart=>exact⟨0,0,l,by omega,by decide,rfl,rfl,rfl,h,Zaf.refl _ _,Z⟩
 case round=>
  obtain⟨k,n,r,hk,hn,rfl,rfl,hE,hd,hK,hZ⟩:=hrel;have C:=Zaa (Zke hZ hd);have HK:=Zaa hK;have HZ:=Zaa hZ;have HD:=Zaa hd;have HE:=Zaa hE;clear hK hZ hd hE h Z;go_wp2_with fail
  refine C.out.mono ?_;rintro e w1 ⟨hk1,⟨m,hy,hm,rfl⟩ | ⟨c,r1,v,hy,rfl,⟨rfl,hc⟩,hd1⟩⟩
  ·exact⟨rfl,HK.out.trans hk1,Or.inl ⟨m,by
    rw[<- HE.out];cases r with
    | nil=>simp[Zfx]at hy;subst hy;rfl
    | cons c r=>simp[Zfx]at hy,hm,rfl⟩⟩
  ·have NX:Box (∃ c8:UInt8,r=c8::r1/\c8.toNat=c):=⟨by
    cases r with
    | nil=>simp[Zfx]at hy
    | cons c' r'=>simp[Zfx]at hy;exact⟨c',by rw[hy.2],hy.1⟩⟩
   have HK1:=Zaa (HK.out.trans hk1);have HZ1:=Zaa (HZ.out.keeps hk1 hgb);have HD1:=Zaa hd1;clear hy hk1 hd1 HK HZ C;have A1:=Yba c hc;have hk9:((7*k:Nat):Int)<=63:=by omega
   by_cases bad:(k=9/\1 < c)\/(0 < k/\c=0)
   ·have Y:Box (Zdm l= .error 7):=⟨by
     obtain⟨c8,rfl,rfl⟩:=NX.out;rw[<- HE.out,Zuw,if_pos bad]⟩
    have z7:=HZ1.out.c7;have CR:=Zaa (Zbp a b w1 (n:=7) (by decide));have W:((((7*k:Nat):Int)==63)=true/\(1:Int) < c)\/((((7*k:Nat):Int)==63)=true/\decide ((1:Int) < c)=false/\(0:Int) < ((7*k:Nat):Int)/\((c:Int)==0)=true)\/((((7*k:Nat):Int)==63)=false/\(0:Int) < ((7*k:Nat):Int)/\((c:Int)==0)=true):=by
     simp only[beq_iff_eq,beq_eq_false_iff_ne,decide_eq_false_iff_not];omega
    clear bad A1 HD HE NX;generalize 7*k=k7 at*;rcases W with⟨g1,g2⟩ | ⟨g1,g2,g3,g4⟩ | ⟨g1,g2,g3⟩;all_goals
     go_wp2_with fail
     refine CR.out.mono ?_;rintro e w2 ⟨rfl,rfl⟩;exact⟨rfl,HK1.out,Or.inl ⟨7,Y.out,by decide,rfl⟩⟩
   ·have h9:k=9->c % 128<=1:=by omega
    have hc1:k=9->c < 128:=by omega
    have OV:Box (bits .or .u64 (n:Int) (IntKind.u64.wrap ((c:Int) % 128*2 ^ (7*k)))=((n+c % 128*128 ^ k:Nat):Int)):=⟨by have:=Z95 hn hk (Nat.mod_lt c (by omega)) h9;rwa [show((c % 128:Nat):Int)=(c:Int) % 128 by omega]at this⟩;have PS:=Zaa (Zum hn hk (Nat.mod_lt c (by omega)) h9);have W:((((7*k:Nat):Int)==63)=true/\decide ((1:Int) < c)=false/\(0:Int) < ((7*k:Nat):Int)/\((c:Int)==0)=false/\c < 128)\/((((7*k:Nat):Int)==63)=false/\(0:Int) < ((7*k:Nat):Int)/\((c:Int)==0)=false)\/((((7*k:Nat):Int)==63)=false/\ ¬ 0 < 7*k):=by
     simp only[beq_iff_eq,beq_eq_false_iff_ne,decide_eq_false_iff_not];by_cases a1:k=9
     ·exact Or.inl (by omega)
     ·by_cases a2:k=0
      ·exact Or.inr (Or.inr (by omega))
      ·exact Or.inr (Or.inl (by omega))
    have hkk:((7*k:Nat):Int)+7=((7*(k+1):Nat):Int):=by omega
    have hK9:=Zaa hk;have NUM:Box ((c < 128->Zdm l= .ok (n+c % 128*128 ^ k,r1))/\(128<=c->Zuw (k+1) (n+c % 128*128 ^ k) r1=Zdm l/\k+1<=9/\n+c % 128*128 ^ k < 128 ^ (k+1))):=⟨by
     obtain⟨c8,rfl,rfl⟩:=NX.out;rw[<- HE.out,Zuw,if_neg bad];refine⟨fun h=>by rw[if_pos h,Nat.mod_eq_of_lt h],fun h=>⟨by rw[if_neg (by omega),show c8.toNat - 128=c8.toNat % 128 by omega],by omega,?_⟩⟩
     have:c8.toNat % 128*128 ^ k<=127*128 ^ k:=Nat.mul_le_mul_right _ (by omega)
     rw[Nat.pow_succ]
     omega⟩
    have E7:Box ((7*k:Nat)=7*k):=⟨rfl⟩;generalize h7:7*k=k7 at*;have LEN:Box (Z2p b w1 < Z2p b wr):=⟨by rw[Zx2 HD1.out,Zx2 HD.out];obtain⟨c8,rfl,_⟩:=NX.out;simp⟩;clear bad h9 hc1 NX HE HD hk hn h7 E7;rcases W with⟨g1,g2,g3,g4,g5⟩ | ⟨g1,g2,g3⟩ | ⟨g1,g2⟩;all_goals
     go_wp2_with fail
     all_goals first
      | (go_ret;exact⟨HK1.out,Or.inr ⟨_,_,_,NUM.out.1 (by omega),rfl,⟨by simp only[<- OV.out];rfl,PS.out⟩,HD1.out⟩⟩)
      | exact⟨⟨k+1,_,r1,(NUM.out.2 (by omega)).2.1,(NUM.out.2 (by omega)).2.2,by rw[OV.out],by simp,(NUM.out.2 (by omega)).1,HD1.out,HK1.out,HZ1.out⟩,LEN.out⟩
      | trace_state
end Go.P
namespace Go.P
def Zad:Tys:=⟨103,98,105,101,67,179⟩
theorem Z2b:(Tryz.prog.info? 103).map (fun i=>(i.zero,i.size,i.bytes))=some (some (.agg #[.int .i64 0,.int .i64 0,.string ⟨#[]⟩,.slice none 0 0]),4,56):=by kernel_rfl
theorem Zny:Zdp Tryz.prog 96 103 4 56:=by
 obtain⟨i0,hi,hz0,hz1,hz2⟩:=info_parts Z2b;exact⟨i0,_,Tryz.underlying96,hi,hz0,hz1,hz2,rfl,by decide,by decide⟩
theorem Zm8:(Tryz.prog.info? 98).map (fun i=>(i.zero,i.size,i.bytes))=some (some (.agg #[.string ⟨#[]⟩,.slice none 0 0]),2,40):=by kernel_rfl
theorem Zu4:Zdp Tryz.prog 34 98 2 40:=by
 obtain⟨i0,hi,hz0,hz1,hz2⟩:=info_parts Zm8;exact⟨i0,_,Tryz.underlying34,hi,hz0,hz1,hz2,rfl,by decide,by decide⟩
theorem Zz2:(Tryz.prog.info? 105).map (fun i=>(i.zero,i.size,i.bytes))=some (some (.agg #[.int .i64 0,.int .i64 0,.int .i64 0,.string ⟨#[]⟩,.slice none 0 0,.int .i64 0,.int .i64 0,.string ⟨#[]⟩,.slice none 0 0]),9,120):=by kernel_rfl
theorem Zra:Zdp Tryz.prog 99 105 9 120:=by
 obtain⟨i0,hi,hz0,hz1,hz2⟩:=info_parts Zz2;exact⟨i0,_,Tryz.underlying99,hi,hz0,hz1,hz2,rfl,by decide,by decide⟩
theorem Zon:(Tryz.prog.info? 101).map (fun i=>(i.zero,i.size,i.bytes))=some (some (.agg #[.string ⟨#[]⟩,.slice none 0 0,.slice none 0 0,.slice none 0 0]),4,88):=by kernel_rfl
theorem Ztx:Zdp Tryz.prog 35 101 4 88:=by
 obtain⟨i0,hi,hz0,hz1,hz2⟩:=info_parts Zon;exact⟨i0,_,Tryz.underlying35,hi,hz0,hz1,hz2,rfl,by decide,by decide⟩
theorem Zzw:(Tryz.prog.info? 67).map (fun i=>(i.zero,i.size,i.bytes))=some (some (.agg #[.slice none 0 0]),1,24):=by kernel_rfl
theorem Zqz:Zdp Tryz.prog 36 67 1 24:=by
 obtain⟨i0,hi,hz0,hz1,hz2⟩:=info_parts Zzw;exact⟨i0,_,Tryz.underlying36,hi,hz0,hz1,hz2,rfl,by decide,by decide⟩
theorem Z6v:(Tryz.prog.info? 179).map (fun i=>(i.zero,i.size,i.bytes))=some (some (.agg #[.bool false,.slice none 0 0]),2,32):=by kernel_rfl
theorem Z5x:Zdp Tryz.prog 28 179 2 32:=by
 obtain⟨i0,hi,hz0,hz1,hz2⟩:=info_parts Z6v;exact⟨i0,_,Tryz.underlying28,hi,hz0,hz1,hz2,rfl,by decide,by decide⟩
def Zb5:Prop:= ∀ (s:ByteArray) (w:World),s.size < 1000000000->Calls Tryz.prog 163 #[.string s] w fun e w'=>e= .returned (.string s)/\Below w.heap.size w w'
def Zk3 {α:Type} (Q:Zgk α) (N:Nat) (w:World) (v:Value) (x:α):Prop:= ∃ vs F,v= .agg vs.toArray/\Q w vs x F/\Za9 N w F
def Zj5 {α:Type} (e:TypeId) (s:Nat) (Q:Zgk α) (N:Nat) (w:World) (v:Value) (xs:List α):Prop:= ∃ F,Zag e s Q w v xs F/\Za9 N w F
theorem Zs1 (CL:Zb5){a:Nat->Addr}{w:World}{b:Nat}{l:By}(Z:Zap a w)(h:Dc w b l):
  Calls Tryz.prog 121 #[.pointer (some ⟨b,0,none⟩)] w (Zeq a b (fun _ v (x:ByteArray)=>v= .string x/\x.size < 1000000000) w (Zoi l)):=by
 have C:=Zaa (Zc1 Z h);have ZZ:=Zaa Z;have hgb:=h.2.2;have hl:=h.2.1;clear Z h;go_enter Tryz.func121,Tryz.ntmps121
 go_wp2_with fail
 refine C.out.mono ?_;rintro e w1 ⟨hk1,⟨m,hy,hm,rfl⟩ | ⟨n,r1,v,hy,rfl,⟨rfl,hn⟩,hd1⟩⟩
 ·exact⟨rfl,hk1,Or.inl ⟨m,De.map_error (De.then_error hy),hm,rfl⟩⟩
 ·have Y:=Zaa (fun x (h:Zfe n r1=x)=>(De.then_ok (g:=Zfe) hy).trans h);have HK:=Zaa hk1;have hl1:=hd1.2.1;have C2:=Zaa (Zkl (ZZ.out.keeps hk1 hgb) hd1 n hn);clear hk1 hd1 hy C;go_wp2_with fail
  refine C2.out.mono ?_;rintro e w2 ⟨hk2,⟨m,hy,hm,rfl⟩ | ⟨x,r2,v,hy,rfl,rfl,hd2⟩⟩
  ·exact⟨rfl,HK.out.trans hk2,Or.inl ⟨m,De.map_error (Y.out _ hy),hm,rfl⟩⟩
  ·have hx:(ba x).size < 1000000000:=by
    rw[Ze7];unfold Zfe at hy;split at hy
    ·cases hy
    ·injection hy with hy;injection hy with hy _;rw[<- hy,List.length_take];omega
   have Y2:Box (Zoi l= .ok (ba x,r2)):=⟨De.map_ok (Y.out _ hy)⟩;have HK2:=Zaa (HK.out.trans hk2);have HD:=Zaa hd2;have C3:=Zaa (CL (ba x) w2 hx);clear hk2 hd2 hy C2 Y HK;generalize ba x=s at*;go_wp2_with fail
   refine C3.out.mono ?_;rintro e w3 ⟨rfl,hb3⟩;have hbl:=HD.out.1.lt;go_wp2_with fail
   go_ret
   exact⟨HK2.out.ofBelow hb3,Or.inr ⟨s,r2,_,Y2.out,rfl,⟨rfl,hx⟩,HD.out.of (hb3.block b hbl)⟩⟩
end Go.P
