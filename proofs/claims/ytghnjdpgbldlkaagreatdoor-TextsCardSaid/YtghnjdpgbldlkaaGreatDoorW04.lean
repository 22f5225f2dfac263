import Derived.Test.YtghnjdpgbldlkaaGreatDoorW03
set_option linter.defProp false
set_option maxRecDepth 100000
set_option maxHeartbeats 8000000
set_option linter.unusedSimpArgs false
open Go.Proofs Go.RowKit Go.W Tryz
namespace Go.W
def JP {α:Type}{f:α->Int}{m:Nat}{l:List α}(h:ES f m l=0):l.length<=m/\ ∀ x,x∈l->f x=0:=by
 unfold ES at h;by_cases hm:m<l.length
 ·rw[if_pos hm]at h;cases h
 ·rw[if_neg hm]at h;exact⟨zx,nT h⟩
def Ie {a b:Int}(h:(if a≠0 then a else b)=0):a=0/\b=0:=by
 by_cases ha:a=0
 ·rw[if_neg zx]at h;exact⟨ha,h⟩
 ·rw[if_pos ha]at h;exact absurd h ha
def kD {x:A}(h:ER x=0):x.name.size<=16/\x.terms.length<=6/\ ∀ y,y∈x.terms->A9 0 y=0:=by
 unfold ER at h;by_cases hn:En x.name=false
 ·rw[if_pos hn]at h;cases h
 ·rw[if_neg hn]at h;refine⟨?_,JP h⟩
  have:En x.name=true:=by cases hq:En x.name with
   | true=>rfl
   | false=>exact absurd hq hn
  unfold En at this;simp at this;omega
def yx {body:List A}{x:G}(h:MP body x=0):1<=x.op/\x.op<=7/\A9 0 x.a=0/\A9 0 x.b=0:=by
 unfold MP at h;by_cases hn:x.op<1\/7<x.op
 ·rw[if_pos hn]at h;cases h
 ·rw[if_neg hn]at h;obtain⟨h1,h2⟩:=Ie h;exact⟨zx,zx,(Ie h1).1,(Ie h2).1⟩
def Yf0 {x:List R}(h:Hq x=0): ∀ y,y∈x->GX y=0:=by
 unfold Hq at h;split at h
 ·cases h
 ·intro y hy
  have:=(JP h).2 y hy
  unfold Og at this;split at this
  ·cases this
  ·exact this
def okB {x:R}(h:GX x=0):x.body.length<=4/\x.guards.length<=4/\(∀ y,y∈x.body->ER y=0)/\ ∀ y,y∈x.guards->MP x.body y=0:=by
 unfold GX at h;split at h
 ·cases h
 ·split at h
  ·cases h
  ·obtain⟨h1,h2⟩:=Ie h;exact⟨zx,zx,nT h1,nT h2⟩
end Go.W
namespace Go.P
variable {B D b:Nat}{s:ByteArray}{w:World}{vs:List Value}{x:R}
theorem G6: ∀ (fn:Fn) (first cap:Array Value) (w:World),(Instr.makeFunc fn first cap).run prog w= .ok (.func fn first cap) w:=fun _ _ _ _=>rfl
def Zne:Bj 125:=DL func125 zt rfl
def Ztk:Bj 216:=DL func216 zt rfl
def Zvv:Bj 180:=DL func180 zt rfl
def Zvx:Bj 127:=DL func127 zt rfl
def Ztj:Bj 129:=DL func129 zt rfl
def vG {x:A}(h:Ak 164 B b s w)(hB:B<=w.heap.size)(hS:FM B w D vs x)(Az:ER x=0)(hs:s.size+(Hy x).size<1000000000):
  Calls prog 125 #[.pointer<|Qb b 0,.agg vs.toArray] w (Df 164 B b (s++Hy x) w):=by
 obtain⟨hn,hl,DN⟩:=kD Az;obtain⟨p,c,rfl,ht,hc,hrow⟩:=hS;have hz:s.size+((GH x.name).size+(BZ Ci x.terms).size)<1000000000:=by rw[Hy,Ae]at hs;exact hs
 have E:AC (s++GH x.name++BZ Ci x.terms=s++Hy x):=⟨by rw[Hy,Bw]⟩;have B0:=AA<|(Fr.refl B b w).alloc hB<|.cells #[.string x.name,.slice p x.terms.length c] 95;have CT:=AA<|uJ Ob (h.alloc<|.cells #[.string x.name,.slice p x.terms.length c] 95) x.name zx<|AU hB B0.out.size;have AX:b<w.heap.size:=by obtain⟨_,_,_,q,_,_⟩:=h.form;exact q.lt
 have L0:=AA<|AJ.new w #[.string x.name,.slice p x.terms.length c] 95;have Dw:=G6;have CM:=AA (fun u (hu:Ak 164 B b (s++GH x.name) u) (hf:Fr B b w u)=>Zi6 (c:=c) (B:=B) (D:=D) Znf (first:=#[.pointer<|Qb b 0]) (cap:=#[]) (f:=Ci) hu (by rw[Ae];omega) (hrow.carry fun _ _ _ r=>r.carry (Go.W.Below.carry hf.below lr) lr) (AU hB hf.size) fun u2 vs y s' hy Dh hf2 hS hz=>mQ 0 zx Dh (AU hB<|AU hf.size hf2.size) hS (DN y hy) hz);clear h hrow DN Az hs hz;go_in
 go_wp2_with fail
 refine CT.out.mono ?_;rintro e w1 ⟨rfl,hb1,Ag⟩;have R:=AA<|AF hb1<|B0.out.trans Ag;obtain⟨y0,y1,sf⟩:=(Ag.blk (L:=w.heap.size) L0.out zx zu).two;have C2:=AA<|CM.out _ hb1 R.out.2;clear hb1 Ag CT CM;go_wp2_with fail
 refine C2.out.mono ?_;rintro e w2 ⟨rfl,hb2,hw2⟩;go_wp2
 go_end0
 exact⟨rfl,E.out▸hb2,R.out.2.trans hw2⟩
def Z2b {x:G}{body:List A}(h:Ak 164 B b s w)(hB:B<=w.heap.size)(hS:LY B w D vs x)(Az:MP body x=0)(hs:s.size+(QI x).size<1000000000):
  Calls prog 216 #[.pointer<|Qb b 0,.agg vs.toArray] w (Df 164 B b (s++QI x) w):=by
 obtain⟨h1,h7,VS,UW⟩:=yx Az;obtain⟨va,vb,rfl,ho,ha,hb⟩:=hS;obtain⟨op,hop,hop8⟩: ∃ k:Nat,x.op=(k:Int)/\k<8:=⟨x.op.toNat,zx,zx⟩;have zW:(x.op % 256).toNat=op:=zx
 have hz:s.size+(1+(Ci x.a).size+(Ci x.b).size)<1000000000:=by rw[QI,Ae,Ae,E6]at hs;exact hs
 have E:AC (s++b1 op++Ci x.a++Ci x.b=s++QI x):=⟨by rw[QI,zW,Bw,Bw,Bw]⟩;have AX:b<w.heap.size:=by obtain⟨_,_,_,q,_,_⟩:=h.form;exact q.lt
 have CA:=AA fun u (hu:Ak 164 B b (s++b1 op) u) (hf:Fr B b w u)=>mQ 0 zx hu (AU hB hf.size) (Dn.carry ha<|Go.W.Below.carry hf.below lr) VS (by rw[Ae,E6];omega);have CB:=AA fun u (hu:Ak 164 B b (s++b1 op++Ci x.a) u) (hf:Fr B b w u)=>mQ 0 zx hu (AU hB hf.size) (Dn.carry hb<|Go.W.Below.carry hf.below lr) UW (by rw[Ae,Ae,E6];omega);obtain⟨p1,c1,rfl,_⟩:=ha;obtain⟨p2,c2,rfl,_⟩:=hb;rw[hop];have B0:=AA<|(Fr.refl B b w).alloc hB<|.cells #[.int .i64 (op:Int),.int .i64 x.a.k,.int .i64 x.a.i,.string x.a.t,.slice p1 x.a.l.length c1,.int .i64 x.b.k,.int .i64 x.b.i,.string x.b.t,.slice p2 x.b.l.length c2] 102;have L0:=AA<|AJ.new w #[.int .i64 (op:Int),.int .i64 x.a.k,.int .i64 x.a.i,.string x.a.t,.slice p1 x.a.l.length c1,.int .i64 x.b.k,.int .i64 x.b.i,.string x.b.t,.slice p2 x.b.l.length c2] 102;have CW:=AA<|Jn Ob (h.alloc<|.cells #[.int .i64 (op:Int),.int .i64 x.a.k,.int .i64 x.a.i,.string x.a.t,.slice p1 x.a.l.length c1,.int .i64 x.b.k,.int .i64 x.b.i,.string x.b.t,.slice p2 x.b.l.length c2] 102).drew op zx zx<|AU hB B0.out.drew.size;have SY:IntKind.u8.wrap (op:Int)=(op:Int):=by simp[IntKind.wrap_u8'];omega
 clear h Az hs hz hop zW ho h1 h7;go_in
 go_wp2
 go_region_with (go_at_call 79;refine CW.out.mono ?_;rintro e w1 ⟨rfl,hb1,Ag⟩)
 have R:=AA<|B0.out.drew.trans Ag;have L1:=AA<|Ag.blk (L:=w.heap.size) L0.out zx zu;obtain⟨y0,y1,y2,y3,y4,y5,y6,y7,y8,sf⟩:=L1.out.nine;have C1:=AA<|CA.out _ hb1 R.out;clear hb1 Ag CW CA;go_wp2_with fail
 refine C1.out.mono ?_;rintro e w2 ⟨rfl,hb2,hw2⟩;have R2:=AA<|R.out.trans hw2;have L2:=AA<|hw2.blk (L:=w.heap.size) L1.out zx zu;have C2:=AA<|CB.out _ hb2 R2.out;clear y0 y1 y2 y3 y4 y5 y6 y7 y8 sf hb2 hw2 CB C1;obtain⟨y0,y1,y2,y3,y4,y5,y6,y7,y8,sf⟩:=L2.out.nine;go_wp2_with fail
 refine C2.out.mono ?_;rintro e w3 ⟨rfl,hb3,hw3⟩;go_wp2
 go_end0
 exact⟨rfl,E.out▸hb3,R2.out.trans hw3⟩
def Zvo (h:Ak 164 B b s w)(hB:B<=w.heap.size)(hS:GR B w D vs x)(Az:GX x=0)(hs:s.size+(JM x).size<1000000000):
  Calls prog 180 #[.pointer<|Qb b 0,.agg vs.toArray] w (Df 164 B b (s++JM x) w):=by
 obtain⟨_,_,fG,fF⟩:=okB Az;obtain⟨va,p1,c1,p2,c2,rfl,⟨p0,c0,rfl,_⟩,_,hr1,_,hr2⟩:=hS;have hz:s.size+((BZ Hy x.body).size+(BZ QI x.guards).size)<1000000000:=by rw[JM,Ae]at hs;exact hs
 have E:AC (s++BZ Hy x.body++BZ QI x.guards=s++JM x):=⟨by rw[JM,Bw]⟩;have B0:=AA<|(Fr.refl B b w).alloc hB<|.cells #[.string x.head.name,.slice p0 x.head.terms.length c0,.slice p1 x.body.length c1,.slice p2 x.guards.length c2] 98;have L0:=AA<|AJ.new w #[.string x.head.name,.slice p0 x.head.terms.length c0,.slice p1 x.body.length c1,.slice p2 x.guards.length c2] 98;have AX:b<w.heap.size:=by obtain⟨_,_,_,q,_,_⟩:=h.form;exact q.lt
 have Dw:=G6;have C1:=AA (Zi4 (c:=c1) (B:=B) (D:=D) Zne (first:=#[.pointer<|Qb b 0]) (cap:=#[]) (f:=Hy) (h.alloc<|.cells #[.string x.head.name,.slice p0 x.head.terms.length c0,.slice p1 x.body.length c1,.slice p2 x.guards.length c2] 98) zx (hr1.carry fun _ _ _ r=>r.carry (Go.W.Below.carry B0.out.below lr) lr) (AU hB B0.out.size) fun u2 vs y s' hy Dh hf2 hS hz=>vG Dh (AU hB<|AU B0.out.size hf2.size) hS (fG y hy) hz);have CM:=AA (fun u (hu:Ak 164 B b (s++BZ Hy x.body) u) (hf:Fr B b w u)=>Zn4 (c:=c2) (B:=B) (D:=D) Ztk (first:=#[.pointer<|Qb b 0]) (cap:=#[]) (f:=QI) hu (by rw[Ae];omega) (hr2.carry fun _ _ _ r=>r.carry (Go.W.Below.carry hf.below lr) lr) (AU hB hf.size) fun u2 vs y s' hy Dh hf2 hS hz=>Z2b Dh (AU hB<|AU hf.size hf2.size) hS (fF y hy) hz);clear h hr1 hr2 fG fF Az hs hz;go_in
 go_wp2_with fail
 refine C1.out.mono ?_;rintro e w1 ⟨rfl,hb1,Ag⟩;have R:=AA<|B0.out.trans Ag;obtain⟨y0,y1,y2,y3,sf⟩:=(Ag.blk (L:=w.heap.size) L0.out zx zu).four;have C2:=AA<|CM.out _ hb1 R.out;clear hb1 Ag C1 CM;go_wp2_with fail
 refine C2.out.mono ?_;rintro e w2 ⟨rfl,hb2,hw2⟩;go_wp2
 go_end0
 exact⟨rfl,E.out▸hb2,R.out.trans hw2⟩
def Z5b (h:Ak 164 B b s w)(hB:B<=w.heap.size)(hS:GR B w D vs x)(Az:MV x=0)(hs:s.size+(QH x).size<1000000000):
  Calls prog 127 #[.pointer<|Qb b 0,.agg vs.toArray] w (Df 164 B b (s++QH x) w):=by
 obtain⟨YU,Ot⟩:=Ie Az;have Ot:=(Ie Ot).1;have hz:s.size+((Hy x.head).size+(JM x).size)<1000000000:=by rw[QH,Ae]at hs;exact hs
 have E:AC (s++Hy x.head++JM x=s++QH x):=⟨by rw[QH,Bw]⟩;have CB:=AA fun u (hu:Ak 164 B b (s++Hy x.head) u) (hf:Fr B b w u)=>Zvo hu (AU hB hf.size) (GR.carry hS<|Go.W.Below.carry hf.below lr) Ot (by rw[Ae];omega);obtain⟨va,p1,c1,p2,c2,rfl,hA,_,hr1,_,hr2⟩:=hS;have CA:=AA fun u (hu:Ak 164 B b s u) (hf:Fr B b w u)=>vG hu (AU hB hf.size) (FM.carry hA<|Go.W.Below.carry hf.below lr) YU zx;obtain⟨p0,c0,rfl,_⟩:=hA;have B0:=AA<|(Fr.refl B b w).alloc hB<|.cells #[.string x.head.name,.slice p0 x.head.terms.length c0,.slice p1 x.body.length c1,.slice p2 x.guards.length c2] 98;have L0:=AA<|AJ.new w #[.string x.head.name,.slice p0 x.head.terms.length c0,.slice p1 x.body.length c1,.slice p2 x.guards.length c2] 98;have AX:b<w.heap.size:=by obtain⟨_,_,_,q,_,_⟩:=h.form;exact q.lt
 have C1:=AA<|CA.out _ (h.alloc<|.cells #[.string x.head.name,.slice p0 x.head.terms.length c0,.slice p1 x.body.length c1,.slice p2 x.guards.length c2] 98) B0.out;clear h hr1 hr2 Az hs hz CA;go_in
 go_wp2_with fail
 refine C1.out.mono ?_;rintro e w1 ⟨rfl,hb1,Ag⟩;have R:=AA<|B0.out.trans Ag;obtain⟨y0,y1,y2,y3,sf⟩:=(Ag.blk (L:=w.heap.size) L0.out zx zu).four;have C2:=AA<|CB.out _ hb1 R.out;clear hb1 Ag C1 CB;go_wp2_with fail
 refine C2.out.mono ?_;rintro e w2 ⟨rfl,hb2,hw2⟩;go_wp2
 go_end0
 exact⟨rfl,E.out▸hb2,R.out.trans hw2⟩
def Z2a {x:List R}(h:Ak 164 B b s w)(hB:B<=w.heap.size)(hS:P6 B w D vs x)(Az:Hq x=0)(hs:s.size+(BZ JM x).size<1000000000):
  Calls prog 129 #[.pointer<|Qb b 0,.agg vs.toArray] w (Df 164 B b (s++BZ JM x) w):=by
 obtain⟨p,c,rfl,_,hr⟩:=hS;have B0:=AA<|(Fr.refl B b w).alloc hB<|.cells #[.slice p x.length c] 65;have Dw:=G6;have C1:=AA (Zi5 (c:=c) (B:=B) (D:=D) Zvv (first:=#[.pointer<|Qb b 0]) (cap:=#[]) (f:=JM) (h.alloc<|.cells #[.slice p x.length c] 65) zx (hr.carry fun _ _ _ r=>r.carry (Go.W.Below.carry B0.out.below lr) lr) (AU hB B0.out.size) fun u2 vs y s' hy Dh hf2 hS hz=>Zvo Dh (AU hB<|AU B0.out.size hf2.size) hS (Yf0 Az y hy) hz);clear h hr Az hs;go_in
 go_wp2_with fail
 refine C1.out.mono ?_;rintro e w1 ⟨rfl,hb1,Ag⟩;go_wp2
 go_end0
 exact⟨rfl,hb1,B0.out.trans Ag⟩
def Z19 {x:Bk}(h:Ak 164 B b s w)(hB:B<=w.heap.size)(hS:DW B w D vs x)(Az:GV x=0)(hs:s.size+(JI x).size<1000000000):
  Calls prog 73 #[.pointer<|Qb b 0,.agg vs.toArray] w (Df 164 B b (s++JI x) w):=by
 obtain⟨SX,Az⟩:=Ie Az;obtain⟨SV,SQ⟩:=Ie Az;obtain⟨p,c,p1,c1,p2,c2,rfl,_,hr,_,hr1,_,hr2⟩:=hS;have hz:s.size+((BZ Hy x.facts).size+(BZ QH x.rules).size+(BZ (BZ JM) x.checks).size)<1000000000:=by rw[JI,Ae,Ae]at hs;exact hs
 have E:AC (s++BZ Hy x.facts++BZ QH x.rules++BZ (BZ JM) x.checks=s++JI x):=⟨by rw[JI,Bw,Bw,Bw]⟩;have B0:=AA<|(Fr.refl B b w).alloc hB<|.cells #[.slice p x.facts.length c,.slice p1 x.rules.length c1,.slice p2 x.checks.length c2] 38;have L0:=AA<|AJ.new w #[.slice p x.facts.length c,.slice p1 x.rules.length c1,.slice p2 x.checks.length c2] 38;have AX:b<w.heap.size:=by obtain⟨_,_,_,q,_,_⟩:=h.form;exact q.lt
 have Dw:=G6;have C1:=AA (Zi4 (c:=c) (B:=B) (D:=D) Zne (first:=#[.pointer<|Qb b 0]) (cap:=#[]) (f:=Hy) (h.alloc<|.cells #[.slice p x.facts.length c,.slice p1 x.rules.length c1,.slice p2 x.checks.length c2] 38) zx (hr.carry fun _ _ _ r=>r.carry (Go.W.Below.carry B0.out.below lr) lr) (AU hB B0.out.size) fun u2 vs y s' hy Dh hf2 hS hz=>vG Dh (AU hB<|AU B0.out.size hf2.size) hS (Ie<|(JP SX).2 y hy).1 hz);have CM:=AA (fun u (hu:Ak 164 B b (s++BZ Hy x.facts) u) (hf:Fr B b w u)=>Zi5 (c:=c1) (B:=B) (D:=D) Zvx (first:=#[.pointer<|Qb b 0]) (cap:=#[]) (f:=QH) hu (by rw[Ae];omega) (hr1.carry fun _ _ _ r=>r.carry (Go.W.Below.carry hf.below lr) lr) (AU hB hf.size) fun u2 vs y s' hy Dh hf2 hS hz=>Z5b Dh (AU hB<|AU hf.size hf2.size) hS ((JP SV).2 y hy) hz);have CN:=AA (fun u (hu:Ak 164 B b (s++BZ Hy x.facts++BZ QH x.rules) u) (hf:Fr B b w u)=>Zn3 (c:=c2) (B:=B) (D:=D) Ztj (first:=#[.pointer<|Qb b 0]) (cap:=#[]) (f:=BZ JM) hu (by rw[Ae,Ae];omega) (hr2.carry fun _ _ _ r=>r.carry (Go.W.Below.carry hf.below lr) lr) (AU hB hf.size) fun u2 vs y s' hy Dh hf2 hS hz=>Z2a Dh (AU hB<|AU hf.size hf2.size) hS ((JP SQ).2 y hy) hz);clear h hr hr1 hr2 Az SX SV SQ hs hz;go_in
 go_wp2_with fail
 refine C1.out.mono ?_;rintro e w1 ⟨rfl,hb1,Ag⟩;have R:=AA<|B0.out.trans Ag;have L1:=AA<|Ag.blk (L:=w.heap.size) L0.out zx zu;obtain⟨y0,y1,y2,sf⟩:=L1.out.three;have C2:=AA<|CM.out _ hb1 R.out;clear hb1 Ag C1 CM;go_wp2_with fail
 refine C2.out.mono ?_;rintro e w2 ⟨rfl,hb2,hw2⟩;have R2:=AA<|R.out.trans hw2;have L2:=AA<|hw2.blk (L:=w.heap.size) L1.out zx zu;clear y0 y1 y2 sf;obtain⟨y0,y1,y2,sf⟩:=L2.out.three;have C3:=AA<|CN.out _ hb2 R2.out;clear hb2 hw2 C2 CN;go_wp2_with fail
 refine C3.out.mono ?_;rintro e w3 ⟨rfl,hb3,hw3⟩;go_wp2
 go_end0
 exact⟨rfl,E.out▸hb3,R2.out.trans hw3⟩
end Go.P
namespace Go.P
def E8:Prop:= ∀ (a:Nat->Addr) (s:ByteArray) (w:World),Aa a w->s.size<1000000000->Calls prog 232 #[.string s] w fun e w'=>e= .returned (.bool<|av s)/\Bl w w'
def Zyj (V:E8){a:Nat->Addr}{w:World}(Z:Aa a w)(k i:Int)(t:ByteArray)(p:Option Addr)(n c:Nat)(ht:t.size<1000000000):
  Calls prog 197 #[.agg #[.int .i64 k,.int .i64 i,.string t,.slice p n c]] w fun e w'=>e= .returned (.bool<|GN k i t n)/\Bl w w':=by
 have e0:=Xd t;have C1:=AA fun u=>vZ t u ht;have C2:=AA fun u hu=>V a t u hu ht;have ZZ:=AA Z;clear Z;have F:AC (GN k i t n=Pq k i t n (En t) (av t)):=⟨rfl⟩;generalize En t=b1 at*;generalize av t=b2 at*;generalize GN k i t n=ans at*;go_in
 go_wp2
 go_quiet (fail)
 go_wp2_with (first | (go_at_call 144;refine(C1.out _).mono ?_;rintro e w' ⟨rfl,hb⟩) | (go_at_call 232;refine(C2.out _<|ZZ.out.below<|KR<|(AQ _ w).alloc lr _).mono ?_;rintro e w' ⟨rfl,hb⟩))
 all_goals go_ret
 all_goals first | exact⟨KQ (by rw[F.out];simp_all [Pq]),(KR<|(AQ w.heap.size w).alloc lr _).trans<|hb.mono zw⟩ | exact⟨KQ (by rw[F.out];simp only[Z5w,Z9d]at*;simp_all [Pq]),KR<|(AQ w.heap.size w).alloc lr _⟩
end Go.P
namespace Go.P
variable {a:Nat->Addr}{K B D c m:Nat}{first cap:Array Value}{f:T->Int}{w:World}{p:Option Addr}{xs:List T}
def Zi9 (hen:Bj K)(hrow:Ap 4 (D6 B w<|D+1) p xs)(hB:B<=w.heap.size)
  (HC: ∀ u vs x,x∈xs->Bl w u->Dn B u D vs x->Calls prog K (first.push (.agg vs.toArray)++cap) u (EE a (f x) u)):
  Calls prog 196 #[.slice p xs.length c,.func (.func K) first cap] w (EE a (EF f xs) w):=by
 have hl:=hrow.len;have HR:=AA hrow;have HH:=AA HC;have Cb: ∀ args w,(callFunc K args).run prog w= .ok (.enter K args) w:=hen;clear hrow HC hen;go_in
 go_wp2
 go_loopw [10] (fun iv wr=>jB w f xs iv wr) (fun iv _=>xs.length-(intOf iv).toNat)
 case atStart=>exact⟨0,zx,rfl,rfl,AQ _ _⟩
 case round=>
  obtain⟨q,hq,rfl,hall,AX⟩:=hrel;have HB:=AA AX;by_cases hlt:q<xs.length
  ·have FD:=AA<|jS f hlt;obtain⟨b1,o1,rfl,hx⟩:=HR.out.get q hlt;have hm:xs[q]∈xs:=KV hlt;obtain⟨hb1,p1,c1,k0,k1,k2,k3,hS⟩:=(hx.carry (BJ AX hB) lr).vals;have hsz:=AX.size;have BB:=AA<|AX.alloc hsz<|.cells #[.int .i64 xs[q].k,.int .i64 xs[q].i,.string xs[q].t,.slice p1 xs[q].l.length c1] 100;have CC:=AA<|HH.out _ _ _ hm BB.out<|Dn.carry hS<|Hl _ zx;have AL:=AA hall;clear hall AX hx hm hS HH;go_wp2_with fail
   refine mq CC.out ?_;rintro w1 hb;have B1:=tr BB hb;clear hb;by_cases hf:f xs[q]=0
   ·rw[hf,Ih];go_wp2
    go_roundw
    case rel=>exact⟨q+1,zx,by go_num,by rw[<- AL.out,FD.out,if_neg zx],B1.out⟩
    case measure=>simp[intOf];omega
   ·rw[DC _ hf];go_wp2
    go_ret
    exact⟨by rw[<- AL.out,FD.out,if_pos hf,DC _ hf];rfl,B1.out⟩
  ·obtain rfl:q=xs.length:=zx
   have AL:AC (EF f xs=0):=⟨by rw[<- hall,List.drop_length];rfl⟩;go_wp2
   go_ret
   exact⟨by rw[AL.out];rfl,HB.out⟩
def Zqu (hen:Bj K)(Z:Aa a w)(hrow:Ap 4 (D6 B w<|D+1) p xs)(hB:B<=w.heap.size)
  (HC: ∀ u vs x,x∈xs->Bl w u->Dn B u D vs x->Calls prog K (first.push (.agg vs.toArray)++cap) u (EE a (f x) u)):
  Calls prog 145 #[.slice p xs.length c,.int .i64 (m:Int),.func (.func K) first cap] w (EE a (ES f m xs) w):=by
 have hl:=hrow.len;have CC:=AA<|Zi9 (c:=c) hen hrow hB HC;have z4:=Z.c4;clear hrow HC hen Z;by_cases hlt:m<xs.length
 ·have h1:(m:Int)<(xs.length:Int):=zx
  have E:AC (ES f m xs=4):=⟨if_pos hlt⟩;go_in
  go_wp2
  go_ret
  exact⟨by rw[E.out];rfl,AQ _ _⟩
 ·have h1: ¬ (m:Int)<(xs.length:Int):=zx
  have E:AC (ES f m xs=EF f xs):=⟨if_neg hlt⟩;go_in
  go_wp2_with fail
  refine mq CC.out ?_;rintro w1 hb;go_wp2
  go_ret
  exact⟨by rw[E.out];rfl,hb⟩
def Zi8 (hen:Bj K){f:A->Int}{xs:List A}(hrow:Ap 2 (DX B w<|D+1) p xs)(hB:B<=w.heap.size)
  (HC: ∀ u vs x,x∈xs->Bl w u->FM B u D vs x->Calls prog K (first.push (.agg vs.toArray)++cap) u (EE a (f x) u)):
  Calls prog 96 #[.slice p xs.length c,.func (.func K) first cap] w (EE a (EF f xs) w):=by
 have hl:=hrow.len;have HR:=AA hrow;have HH:=AA HC;have Cb: ∀ args w,(callFunc K args).run prog w= .ok (.enter K args) w:=hen;clear hrow HC hen;go_in
 go_wp2
 go_loopw [10] (fun iv wr=>jB w f xs iv wr) (fun iv _=>xs.length-(intOf iv).toNat)
 case atStart=>exact⟨0,zx,rfl,rfl,AQ _ _⟩
 case round=>
  obtain⟨q,hq,rfl,hall,AX⟩:=hrel;have HB:=AA AX;by_cases hlt:q<xs.length
  ·have FD:=AA<|jS f hlt;obtain⟨b1,o1,rfl,hx⟩:=HR.out.get q hlt;have hm:xs[q]∈xs:=KV hlt;obtain⟨hb1,p1,c1,k0,k1,hS⟩:=(hx.carry (BJ AX hB) lr).vals;have hsz:=AX.size;have BB:=AA<|AX.alloc hsz<|.cells #[.string xs[q].name,.slice p1 xs[q].terms.length c1] 95;have CC:=AA<|HH.out _ _ _ hm BB.out<|FM.carry hS<|Hl _ zx;have AL:=AA hall;clear hall AX hx hm hS HH;go_wp2_with fail
   refine mq CC.out ?_;rintro w1 hb;have B1:=tr BB hb;clear hb;by_cases hf:f xs[q]=0
   ·rw[hf,Ih];go_wp2
    go_roundw
    case rel=>exact⟨q+1,zx,by go_num,by rw[<- AL.out,FD.out,if_neg zx],B1.out⟩
    case measure=>simp[intOf];omega
   ·rw[DC _ hf];go_wp2
    go_ret
    exact⟨by rw[<- AL.out,FD.out,if_pos hf,DC _ hf];rfl,B1.out⟩
  ·obtain rfl:q=xs.length:=zx
   have AL:AC (EF f xs=0):=⟨by rw[<- hall,List.drop_length];rfl⟩;go_wp2
   go_ret
   exact⟨by rw[AL.out];rfl,HB.out⟩
def Zqt (hen:Bj K){f:A->Int}{xs:List A}(Z:Aa a w)(hrow:Ap 2 (DX B w<|D+1) p xs)(hB:B<=w.heap.size)
  (HC: ∀ u vs x,x∈xs->Bl w u->FM B u D vs x->Calls prog K (first.push (.agg vs.toArray)++cap) u (EE a (f x) u)):
  Calls prog 44 #[.slice p xs.length c,.int .i64 (m:Int),.func (.func K) first cap] w (EE a (ES f m xs) w):=by
 have hl:=hrow.len;have CC:=AA<|Zi8 (c:=c) hen hrow hB HC;have z4:=Z.c4;clear hrow HC hen Z;by_cases hlt:m<xs.length
 ·have h1:(m:Int)<(xs.length:Int):=zx
  have E:AC (ES f m xs=4):=⟨if_pos hlt⟩;go_in
  go_wp2
  go_ret
  exact⟨by rw[E.out];rfl,AQ _ _⟩
 ·have h1: ¬ (m:Int)<(xs.length:Int):=zx
  have E:AC (ES f m xs=EF f xs):=⟨if_neg hlt⟩;go_in
  go_wp2_with fail
  refine mq CC.out ?_;rintro w1 hb;go_wp2
  go_ret
  exact⟨by rw[E.out];rfl,hb⟩
def Zn7 (hen:Bj K){f:G->Int}{xs:List G}(hrow:Ap 9 (JN B w<|D+1) p xs)(hB:B<=w.heap.size)
  (HC: ∀ u vs x,x∈xs->Bl w u->LY B u D vs x->Calls prog K (first.push (.agg vs.toArray)++cap) u (EE a (f x) u)):
  Calls prog 148 #[.slice p xs.length c,.func (.func K) first cap] w (EE a (EF f xs) w):=by
 have hl:=hrow.len;have HR:=AA hrow;have HH:=AA HC;have Cb: ∀ args w,(callFunc K args).run prog w= .ok (.enter K args) w:=hen;clear hrow HC hen;go_in
 go_wp2
 go_loopw [10] (fun iv wr=>jB w f xs iv wr) (fun iv _=>xs.length-(intOf iv).toNat)
 case atStart=>exact⟨0,zx,rfl,rfl,AQ _ _⟩
 case round=>
  obtain⟨q,hq,rfl,hall,AX⟩:=hrel;have HB:=AA AX;by_cases hlt:q<xs.length
  ·have FD:=AA<|jS f hlt;obtain⟨b1,o1,rfl,hx⟩:=HR.out.get q hlt;have hm:xs[q]∈xs:=KV hlt;obtain⟨hb1,p1,c1,p2,c2,k0,k1,k2,k3,k4,k5,k6,k7,k8,hS⟩:=(hx.carry (BJ AX hB) lr).vals;have hsz:=AX.size;have BB:=AA<|AX.alloc hsz<|.cells #[.int .i64 xs[q].op,.int .i64 xs[q].a.k,.int .i64 xs[q].a.i,.string xs[q].a.t,.slice p1 xs[q].a.l.length c1,.int .i64 xs[q].b.k,.int .i64 xs[q].b.i,.string xs[q].b.t,.slice p2 xs[q].b.l.length c2] 102;have CC:=AA<|HH.out _ _ _ hm BB.out<|LY.carry hS<|Hl _ zx;have AL:=AA hall;clear hall AX hx hm hS HH;go_wp2_with fail
   refine mq CC.out ?_;rintro w1 hb;have B1:=tr BB hb;clear hb;by_cases hf:f xs[q]=0
   ·rw[hf,Ih];go_wp2
    go_roundw
    case rel=>exact⟨q+1,zx,by go_num,by rw[<- AL.out,FD.out,if_neg zx],B1.out⟩
    case measure=>simp[intOf];omega
   ·rw[DC _ hf];go_wp2
    go_ret
    exact⟨by rw[<- AL.out,FD.out,if_pos hf,DC _ hf];rfl,B1.out⟩
  ·obtain rfl:q=xs.length:=zx
   have AL:AC (EF f xs=0):=⟨by rw[<- hall,List.drop_length];rfl⟩;go_wp2
   go_ret
   exact⟨by rw[AL.out];rfl,HB.out⟩
def Zph (hen:Bj K){f:R->Int}{xs:List R}(hrow:Ap 4 (E5 B w<|D+1) p xs)(hB:B<=w.heap.size)
  (HC: ∀ u vs x,x∈xs->Bl w u->GR B u D vs x->Calls prog K (first.push (.agg vs.toArray)++cap) u (EE a (f x) u)):
  Calls prog 99 #[.slice p xs.length c,.func (.func K) first cap] w (EE a (EF f xs) w):=by
 have hl:=hrow.len;have HR:=AA hrow;have HH:=AA HC;have Cb: ∀ args w,(callFunc K args).run prog w= .ok (.enter K args) w:=hen;clear hrow HC hen;go_in
 go_wp2
 go_loopw [10] (fun iv wr=>jB w f xs iv wr) (fun iv _=>xs.length-(intOf iv).toNat)
 case atStart=>exact⟨0,zx,rfl,rfl,AQ _ _⟩
 case round=>
  obtain⟨q,hq,rfl,hall,AX⟩:=hrel;have HB:=AA AX;by_cases hlt:q<xs.length
  ·have FD:=AA<|jS f hlt;obtain⟨b1,o1,rfl,hx⟩:=HR.out.get q hlt;have hm:xs[q]∈xs:=KV hlt;obtain⟨hb1,p1,c1,p2,c2,p3,c3,k0,k1,k2,k3,hS⟩:=(hx.carry (BJ AX hB) lr).vals;have hsz:=AX.size;have BB:=AA<|AX.alloc hsz<|.cells #[.string xs[q].head.name,.slice p1 xs[q].head.terms.length c1,.slice p2 xs[q].body.length c2,.slice p3 xs[q].guards.length c3] 98;have CC:=AA<|HH.out _ _ _ hm BB.out<|GR.carry hS<|Hl _ zx;have AL:=AA hall;clear hall AX hx hm hS HH;go_wp2_with fail
   refine mq CC.out ?_;rintro w1 hb;have B1:=tr BB hb;clear hb;by_cases hf:f xs[q]=0
   ·rw[hf,Ih];go_wp2
    go_roundw
    case rel=>exact⟨q+1,zx,by go_num,by rw[<- AL.out,FD.out,if_neg zx],B1.out⟩
    case measure=>simp[intOf];omega
   ·rw[DC _ hf];go_wp2
    go_ret
    exact⟨by rw[<- AL.out,FD.out,if_pos hf,DC _ hf];rfl,B1.out⟩
  ·obtain rfl:q=xs.length:=zx
   have AL:AC (EF f xs=0):=⟨by rw[<- hall,List.drop_length];rfl⟩;go_wp2
   go_ret
   exact⟨by rw[AL.out];rfl,HB.out⟩
def Zjl (hen:Bj K){f:R->Int}{xs:List R}(Z:Aa a w)(hrow:Ap 4 (E5 B w<|D+1) p xs)(hB:B<=w.heap.size)
  (HC: ∀ u vs x,x∈xs->Bl w u->GR B u D vs x->Calls prog K (first.push (.agg vs.toArray)++cap) u (EE a (f x) u)):
  Calls prog 46 #[.slice p xs.length c,.int .i64 (m:Int),.func (.func K) first cap] w (EE a (ES f m xs) w):=by
 have hl:=hrow.len;have CC:=AA<|Zph (c:=c) hen hrow hB HC;have z4:=Z.c4;clear hrow HC hen Z;by_cases hlt:m<xs.length
 ·have h1:(m:Int)<(xs.length:Int):=zx
  have E:AC (ES f m xs=4):=⟨if_pos hlt⟩;go_in
  go_wp2
  go_ret
  exact⟨by rw[E.out];rfl,AQ _ _⟩
 ·have h1: ¬ (m:Int)<(xs.length:Int):=zx
  have E:AC (ES f m xs=EF f xs):=⟨if_neg hlt⟩;go_in
  go_wp2_with fail
  refine mq CC.out ?_;rintro w1 hb;go_wp2
  go_ret
  exact⟨by rw[E.out];rfl,hb⟩
def Zn6 (hen:Bj K){f:(List R)->Int}{xs:List (List R)}(hrow:Ap 1 (Go.W.Qo B w<|D+1) p xs)(hB:B<=w.heap.size)
  (HC: ∀ u vs x,x∈xs->Bl w u->P6 B u D vs x->Calls prog K (first.push (.agg vs.toArray)++cap) u (EE a (f x) u)):
  Calls prog 101 #[.slice p xs.length c,.func (.func K) first cap] w (EE a (EF f xs) w):=by
 have hl:=hrow.len;have HR:=AA hrow;have HH:=AA HC;have Cb: ∀ args w,(callFunc K args).run prog w= .ok (.enter K args) w:=hen;clear hrow HC hen;go_in
 go_wp2
 go_loopw [10] (fun iv wr=>jB w f xs iv wr) (fun iv _=>xs.length-(intOf iv).toNat)
 case atStart=>exact⟨0,zx,rfl,rfl,AQ _ _⟩
 case round=>
  obtain⟨q,hq,rfl,hall,AX⟩:=hrel;have HB:=AA AX;by_cases hlt:q<xs.length
  ·have FD:=AA<|jS f hlt;obtain⟨b1,o1,rfl,hx⟩:=HR.out.get q hlt;have hm:xs[q]∈xs:=KV hlt;obtain⟨hb1,p1,c1,k0,hS⟩:=(hx.carry (BJ AX hB) lr).vals;have hsz:=AX.size;rw[Nat.mul_one]at k0;have BB:=AA<|AX.alloc hsz<|.cells #[.slice p1 xs[q].length c1] 65;have CC:=AA<|HH.out _ _ _ hm BB.out<|P6.carry hS<|Hl _ zx;have AL:=AA hall;clear hall AX hx hm hS HH;go_wp2_with fail
   refine mq CC.out ?_;rintro w1 hb;have B1:=tr BB hb;clear hb;by_cases hf:f xs[q]=0
   ·rw[hf,Ih];go_wp2
    go_roundw
    case rel=>exact⟨q+1,zx,by go_num,by rw[<- AL.out,FD.out,if_neg zx],B1.out⟩
    case measure=>simp[intOf];omega
   ·rw[DC _ hf];go_wp2
    go_ret
    exact⟨by rw[<- AL.out,FD.out,if_pos hf,DC _ hf];rfl,B1.out⟩
  ·obtain rfl:q=xs.length:=zx
   have AL:AC (EF f xs=0):=⟨by rw[<- hall,List.drop_length];rfl⟩;go_wp2
   go_ret
   exact⟨by rw[AL.out];rfl,HB.out⟩
def Zoe (hen:Bj K){f:(List R)->Int}{xs:List (List R)}(Z:Aa a w)(hrow:Ap 1 (Go.W.Qo B w<|D+1) p xs)(hB:B<=w.heap.size)
  (HC: ∀ u vs x,x∈xs->Bl w u->P6 B u D vs x->Calls prog K (first.push (.agg vs.toArray)++cap) u (EE a (f x) u)):
  Calls prog 48 #[.slice p xs.length c,.int .i64 (m:Int),.func (.func K) first cap] w (EE a (ES f m xs) w):=by
 have hl:=hrow.len;have CC:=AA<|Zn6 (c:=c) hen hrow hB HC;have z4:=Z.c4;clear hrow HC hen Z;by_cases hlt:m<xs.length
 ·have h1:(m:Int)<(xs.length:Int):=zx
  have E:AC (ES f m xs=4):=⟨if_pos hlt⟩;go_in
  go_wp2
  go_ret
  exact⟨by rw[E.out];rfl,AQ _ _⟩
 ·have h1: ¬ (m:Int)<(xs.length:Int):=zx
  have E:AC (ES f m xs=EF f xs):=⟨if_neg hlt⟩;go_in
  go_wp2_with fail
  refine mq CC.out ?_;rintro w1 hb;go_wp2
  go_ret
  exact⟨by rw[E.out];rfl,hb⟩
end Go.P
