import Derived.Test.YtgnakaplmhmdcaaGreatDoorW04
set_option maxRecDepth 100000
set_option maxHeartbeats 8000000
open Go.Proofs Go.RowKit Go.W
namespace Go.W
theorem Zf1 {α:Type}{f:α->Int}{l:List α}(h:Zax f l=0): ∀ x,x∈l->f x=0:=by
 induction l with
 | nil=>intro x hx;cases hx
 | cons y r ih=>
  rw[Zax]at h;intro x hx;by_cases hy:f y=0
  ·rw[if_neg (by omega)]at h;rcases Yc1.1 hx with rfl | hx
   ·exact hy
   ·exact ih h x hx
  ·rw[if_pos hy]at h;exact absurd h hy
theorem okT {d:Nat}{x:T}(h:Zal d x=0):x.t.size<=64/\x.l.length<=6/\(∀ y,y∈x.l->Zal (d+1) y=0)/\((x.k=1\/x.k=3\/x.k=4)\/(x.k=2\/x.k=5)\/(x.k=6/\(x.i=0\/x.i=1))\/(x.k=7/\d≠3)):=by
 rw[Zkw]at h;by_cases ho:Zug d x.k x.i x.t x.l.length=0
 ·rw[if_neg (by omega)]at h;refine⟨?_,?_,fun y hy=>Zf1 h y hy,?_⟩;all_goals
   unfold Zug at ho;split at ho
   ·cases ho
   ·rename_i hf;split at ho
    ·cases ho
    ·rename_i h4;split at ho
     ·cases ho
     rename_i h3;first
      | omega
      | (have hf:Ze9 x.k x.i x.t x.l.length=true:=(by cases hq:Ze9 x.k x.i x.t x.l.length with | true=>rfl | false=>exact absurd (Or.inl hq) hf);unfold Ze9 Zmn at hf;(repeat' split at hf) <;> simp_all)
 ·rw[if_pos ho]at h;exact absurd h ho
end Go.W
namespace Go.P
theorem Zl9:Zam 116:=Zak Tryz.func116 (by kernel_rfl) rfl
def Zft (d:Nat):Prop:= ∀ {B D b:Nat} {s:ByteArray} {w:World} {vs:List Value} {x:T},Bld 80 B b s w->B<=w.heap.size->Zcv B w D vs x->Zal d x=0->s.size+(Zd5 x).size < 1000000000->Calls Tryz.prog 116 #[.pointer (some ⟨b,0,none⟩),.agg vs.toArray] w (Zfw 80 B b (s++Zd5 x) w)
theorem Zi5 {d:Nat}(hd:d<=3)(ih:d < 3->Zft (d+1)):Zft d:=by
 intro B D b s w vs x h hB hS hok hs;obtain⟨h64,h6,hin,hk⟩:=okT hok;obtain⟨p,c,rfl,ht,hk64,hi64,hc,hrow⟩:=hS;have P:=Zaa (Zwu x);have B0:=Zaa ((Fr.refl B b w).alloc hB (.cells #[.int .i64 x.k,.int .i64 x.i,.string x.t,.slice p x.l.length c] 103));have H0:=Zaa (h.alloc (.cells #[.int .i64 x.k,.int .i64 x.i,.string x.t,.slice p x.l.length c] 103));have hbw:b < w.heap.size:=by obtain⟨_,_,_,q,_,_⟩:=h.form;exact q.lt
 obtain⟨k,hkk,hk8⟩: ∃ k:Nat,x.k=(k:Int)/\k < 8:=⟨x.k.toNat,by omega,by omega⟩;have hsk:s.size+1+((Zd5 x).size - 1) < 1000000000/\1<=(Zd5 x).size:=by
  have:1<=(Zd5 x).size:=by rw[P.out,Zae,Zch];omega
  omega
 have hw8:IntKind.u8.wrap (k:Int)=(k:Int):=by simp[IntKind.wrap_u8'];omega
 have hk256:(x.k % 256).toNat=k:=by omega
 rw[hk256]at P;rw[hkk]at H0 B0 P hk⊢;have CW:=Zaa (Zdi Zfc H0.out.drew k (by omega) (by omega) (Ycu hB B0.out.drew.size));have L0:=Zaa (Blk.new w #[.int .i64 (k:Int),.int .i64 x.i,.string x.t,.slice p x.l.length c] 103);have FIN:Box (∀ {y:ByteArray},Zd5 x=b1 k++y->s++b1 k++y=s++Zd5 x):=⟨fun h=>by rw[h,Za2]⟩;clear h hok;go_enter Tryz.func116,Tryz.ntmps116
 go_wp2_with fail
 go_region_with (go_at_call 89;refine CW.out.mono ?_;rintro e w1 ⟨rfl,hb1,hw1⟩)
 have R:=Zaa (Ycs hb1 (B0.out.drew.trans hw1));obtain⟨y0,y1,y2,y3,sf⟩:=(hw1.blk (L:=w.heap.size) L0.out (by omega) (by decide)).four;have hB1:=Ycu hB R.out.2.size;clear hb1 hw1 CW H0 B0;rcases hk with hk | hk | hk | hk
 ·have E:=Zaa (FIN.out (y:=Zdk x.t) (by rw[P.out,if_neg (by omega),if_neg (by omega),if_neg (by omega)]));have CT:=Zaa (Zry Zfc R.out.1 x.t (by rw[Zae,Zch];have:=congrArg ByteArray.size E.out;rw[Zae,Zae,Zch,Zae]at this;omega) hB1);have g1:((k:Int)==2)=false:=by rw[beq_eq_false_iff_ne];omega
  have g2:((k:Int)==5)=false:=by rw[beq_eq_false_iff_ne];omega
  have g3:((k:Int)==6)=false:=by rw[beq_eq_false_iff_ne];omega
  have g4:((k:Int)==7)=false:=by rw[beq_eq_false_iff_ne];omega
  clear hk P FIN hin hrow;go_wp2_with fail
  refine CT.out.mono ?_;rintro e w2 ⟨rfl,hb2,hw2⟩;go_wp2_with fail
  go_end0
  exact⟨rfl,E.out▸hb2,R.out.2.trans hw2⟩
 ·have E:=Zaa (FIN.out (y:=Zfi (Zi9 x.i)) (by rw[P.out,if_pos hk]));have hfold:Zi9 x.i < 18446744073709551616:=by obtain⟨h1,h2⟩:=hi64;unfold Zi9;split <;> omega
  have CN:=Zaa (Zd2 Zfc R.out.1 (Zi9 x.i) hfold (by rw[Zae,Zch];have:=congrArg ByteArray.size E.out;rw[Zae,Zae,Zch,Zae]at this;omega) hB1);have CF:=Zaa (Zzs x.i hi64);clear P FIN hin hrow;rcases hk with hk | hk;all_goals
   obtain rfl:k=_:=Int.ofNat.inj hk;go_wp2_with (first | (go_at_call 159;refine(CF.out _).mono ?_;rintro e w2 ⟨rfl,rfl⟩) | (go_at_call 113;refine CN.out.mono ?_;rintro e w3 ⟨rfl,hb2,hw2⟩))
   go_end0
   exact⟨rfl,E.out▸hb2,R.out.2.trans hw2⟩
 ·obtain⟨hk,hi⟩:=hk;obtain rfl:k=6:=Int.ofNat.inj hk;obtain⟨i,hii,hi2⟩: ∃ i:Nat,x.i=(i:Int)/\i < 2:=⟨x.i.toNat,by omega,by omega⟩;have E:=Zaa (FIN.out (y:=b1 i) (by rw[P.out,if_neg (by omega),if_pos hk,hii];congr 2;omega));rw[hii]at y1;have hwi:IntKind.u8.wrap (i:Int)=(i:Int):=by simp[IntKind.wrap_u8'];omega
  have CN:=Zaa (Zdi Zfc R.out.1.drew i (by omega) (by rw[Zae,Zch];omega) hB1);clear P FIN hin hrow hk hi hii;go_wp2_with fail
  go_region_with (go_at_call 89;refine CN.out.mono ?_;rintro e w2 ⟨rfl,hb2,hw2⟩)
  go_wp2_with fail
  go_end0
  exact⟨rfl,E.out▸hb2,R.out.2.drew.trans hw2⟩
 ·obtain⟨hk,hd3⟩:=hk;have ih:= @ih (by omega);obtain rfl:k=7:=Int.ofNat.inj hk;have E:=Zaa (FIN.out (y:=Za4 Zd5 x.l) (by rw[P.out,if_neg (by omega),if_neg (by omega),if_pos hk]));have CM:=Zaa (Zif (c:=c) (B:=B) (D:=D) Zl9 (first:=#[.pointer (some ⟨b,0,none⟩)]) (cap:=#[]) (f:=Zd5) R.out.1 (by rw[Zae,Zch];have:=congrArg ByteArray.size E.out;rw[Zae,Zae,Zch,Zae]at this;omega) (hrow.carry fun _ _ _ r=>r.carry (Go.W.Below.carry R.out.2.below lr) (Yeb D)) hB1 fun u vs y s' hy hu hf hS hz=>ih hu (Ycu hB1 hf.size) hS (hin y hy) hz);have hmf: ∀ (fn:Fn) (first cap:Array Value) (w:World),(Instr.makeFunc fn first cap).run Tryz.prog w= .ok (.func fn first cap) w:=fun _ _ _ _=>rfl;clear P FIN hin hrow hk ih;go_wp2_with fail
  refine CM.out.mono ?_;rintro e w2 ⟨rfl,hb2,hw2⟩;go_wp2_with fail
  go_end0
  exact⟨rfl,E.out▸hb2,R.out.2.trans hw2⟩
theorem Zkc: ∀ d,d<=3->Zft d:=by
 have h3:Zft 3:=Zi5 (by omega) fun h=>absurd h (by omega);have h2:Zft 2:=Zi5 (by omega) fun _=> @h3;have h1:Zft 1:=Zi5 (by omega) fun _=> @h2;have h0:Zft 0:=Zi5 (by omega) fun _=> @h1;intro d hd;match d,hd with
 | 0,_=>exact @h0
 | 1,_=>exact @h1
 | 2,_=>exact @h2
 | 3,_=>exact @h3
end Go.P
namespace Go.W
theorem Zbz {α:Type}{f:α->Int}{m:Nat}{l:List α}(h:Zbw f m l=0):l.length<=m/\ ∀ x,x∈l->f x=0:=by
 unfold Zbw at h;by_cases hm:m < l.length
 ·rw[if_pos hm]at h;cases h
 ·rw[if_neg hm]at h;exact⟨by omega,Zf1 h⟩
theorem Zea {a b:Int}(h:(if a≠0 then a else b)=0):a=0/\b=0:=by
 by_cases ha:a=0
 ·rw[if_neg (by omega)]at h;exact⟨ha,h⟩
 ·rw[if_pos ha]at h;exact absurd h ha
theorem okA {x:A}(h:Zb9 x=0):x.name.size<=16/\x.terms.length<=6/\ ∀ y,y∈x.terms->Zal 0 y=0:=by
 unfold Zb9 at h;by_cases hn:Zcp x.name=false
 ·rw[if_pos hn]at h;cases h
 ·rw[if_neg hn]at h;refine⟨?_,Zbz h⟩
  have:Zcp x.name=true:=by cases hq:Zcp x.name with
   | true=>rfl
   | false=>exact absurd hq hn
  unfold Zcp at this;simp at this;omega
theorem okG {body:List A}{x:G}(h:Ze5 body x=0):1<=x.op/\x.op<=7/\Zal 0 x.a=0/\Zal 0 x.b=0:=by
 unfold Ze5 at h;by_cases hn:x.op < 1\/7 < x.op
 ·rw[if_pos hn]at h;cases h
 ·rw[if_neg hn]at h;obtain⟨h1,h2⟩:=Zea h;exact⟨by omega,by omega,(Zea h1).1,(Zea h2).1⟩
theorem Ycg {x:List R}(h:Zat x=0): ∀ y,y∈x->Za0 y=0:=by
 unfold Zat at h;split at h
 ·cases h
 ·intro y hy
  have:=(Zbz h).2 y hy
  unfold Zcj at this;split at this
  ·cases this
  ·exact this
theorem okB {x:R}(h:Za0 x=0):x.body.length<=4/\x.guards.length<=4/\(∀ y,y∈x.body->Zb9 y=0)/\ ∀ y,y∈x.guards->Ze5 x.body y=0:=by
 unfold Za0 at h;split at h
 ·cases h
 ·split at h
  ·cases h
  ·obtain⟨h1,h2⟩:=Zea h;exact⟨by omega,by omega,Zf1 h1,Zf1 h2⟩
end Go.W
namespace Go.P
variable {B D b:Nat}{s:ByteArray}{w:World}{vs:List Value}{x:R}
theorem Zg8: ∀ (fn:Fn) (first cap:Array Value) (w:World),(Instr.makeFunc fn first cap).run Tryz.prog w= .ok (.func fn first cap) w:=fun _ _ _ _=>rfl
theorem Zmb:Zam 55:=Zak Tryz.func55 (by kernel_rfl) rfl
theorem Zrq:Zam 161:=Zak Tryz.func161 (by kernel_rfl) rfl
theorem Zuv:Zam 117:=Zak Tryz.func117 (by kernel_rfl) rfl
theorem Zt1:Zam 57:=Zak Tryz.func57 (by kernel_rfl) rfl
theorem Zr2:Zam 59:=Zak Tryz.func59 (by kernel_rfl) rfl
theorem Zok {x:A}(h:Bld 80 B b s w)(hB:B<=w.heap.size)(hS:Zev B w D vs x)(hok:Zb9 x=0)(hs:s.size+(Zk4 x).size < 1000000000):
  Calls Tryz.prog 55 #[.pointer (some ⟨b,0,none⟩),.agg vs.toArray] w (Zfw 80 B b (s++Zk4 x) w):=by
 obtain⟨hn,hl,hin⟩:=okA hok;obtain⟨p,c,rfl,ht,hc,hrow⟩:=hS;have hz:s.size+((Zdk x.name).size+(Za4 Zd5 x.terms).size) < 1000000000:=by rw[Zk4,Zae]at hs;exact hs
 have E:Box (s++Zdk x.name++Za4 Zd5 x.terms=s++Zk4 x):=⟨by rw[Zk4,Za2]⟩;have B0:=Zaa ((Fr.refl B b w).alloc hB (.cells #[.string x.name,.slice p x.terms.length c] 98));have CT:=Zaa (Zry Zfc (h.alloc (.cells #[.string x.name,.slice p x.terms.length c] 98)) x.name (by omega) (Ycu hB B0.out.size));have hbw:b < w.heap.size:=by obtain⟨_,_,_,q,_,_⟩:=h.form;exact q.lt
 have L0:=Zaa (Blk.new w #[.string x.name,.slice p x.terms.length c] 98);have hmf:=Zg8;have CM:=Zaa (fun u (hu:Bld 80 B b (s++Zdk x.name) u) (hf:Fr B b w u)=>Zif (c:=c) (B:=B) (D:=D) Zl9 (first:=#[.pointer (some ⟨b,0,none⟩)]) (cap:=#[]) (f:=Zd5) hu (by rw[Zae];omega) (hrow.carry fun _ _ _ r=>r.carry (Go.W.Below.carry hf.below lr) lr) (Ycu hB hf.size) fun u2 vs y s' hy hu2 hf2 hS hz=>Zkc 0 (by omega) hu2 (Ycu hB (Ycu hf.size hf2.size)) hS (hin y hy) hz);clear h hrow hin hok hs hz;go_enter Tryz.func55,Tryz.ntmps55
 go_wp2_with fail
 refine CT.out.mono ?_;rintro e w1 ⟨rfl,hb1,hw1⟩;have R:=Zaa (Ycs hb1 (B0.out.trans hw1));obtain⟨y0,y1,sf⟩:=(hw1.blk (L:=w.heap.size) L0.out (by omega) (by decide)).two;have C2:=Zaa (CM.out _ hb1 R.out.2);clear hb1 hw1 CT CM;go_wp2_with fail
 refine C2.out.mono ?_;rintro e w2 ⟨rfl,hb2,hw2⟩;go_wp2_with fail
 go_end0
 exact⟨rfl,E.out▸hb2,R.out.2.trans hw2⟩
theorem Z1p {x:G}{body:List A}(h:Bld 80 B b s w)(hB:B<=w.heap.size)(hS:Zf5 B w D vs x)(hok:Ze5 body x=0)(hs:s.size+(Zvg x).size < 1000000000):
  Calls Tryz.prog 161 #[.pointer (some ⟨b,0,none⟩),.agg vs.toArray] w (Zfw 80 B b (s++Zvg x) w):=by
 obtain⟨h1,h7,hra,hrb⟩:=okG hok;obtain⟨va,vb,rfl,ho,ha,hb⟩:=hS;obtain⟨op,hop,hop8⟩: ∃ k:Nat,x.op=(k:Int)/\k < 8:=⟨x.op.toNat,by omega,by omega⟩;have hpo:(x.op % 256).toNat=op:=by omega
 have hz:s.size+(1+(Zd5 x.a).size+(Zd5 x.b).size) < 1000000000:=by rw[Zvg,Zae,Zae,Zch]at hs;exact hs
 have E:Box (s++b1 op++Zd5 x.a++Zd5 x.b=s++Zvg x):=⟨by rw[Zvg,hpo,Za2,Za2,Za2]⟩;have hbw:b < w.heap.size:=by obtain⟨_,_,_,q,_,_⟩:=h.form;exact q.lt
 have CA:=Zaa (fun u (hu:Bld 80 B b (s++b1 op) u) (hf:Fr B b w u)=>Zkc 0 (by omega) hu (Ycu hB hf.size) (Zcv.carry ha (Go.W.Below.carry hf.below lr)) hra (by rw[Zae,Zch];omega));have CB:=Zaa (fun u (hu:Bld 80 B b (s++b1 op++Zd5 x.a) u) (hf:Fr B b w u)=>Zkc 0 (by omega) hu (Ycu hB hf.size) (Zcv.carry hb (Go.W.Below.carry hf.below lr)) hrb (by rw[Zae,Zae,Zch];omega));obtain⟨p1,c1,rfl,_⟩:=ha;obtain⟨p2,c2,rfl,_⟩:=hb;rw[hop];have B0:=Zaa ((Fr.refl B b w).alloc hB (.cells #[.int .i64 (op:Int),.int .i64 x.a.k,.int .i64 x.a.i,.string x.a.t,.slice p1 x.a.l.length c1,.int .i64 x.b.k,.int .i64 x.b.i,.string x.b.t,.slice p2 x.b.l.length c2] 105));have L0:=Zaa (Blk.new w #[.int .i64 (op:Int),.int .i64 x.a.k,.int .i64 x.a.i,.string x.a.t,.slice p1 x.a.l.length c1,.int .i64 x.b.k,.int .i64 x.b.i,.string x.b.t,.slice p2 x.b.l.length c2] 105);have CW:=Zaa (Zdi Zfc (h.alloc (.cells #[.int .i64 (op:Int),.int .i64 x.a.k,.int .i64 x.a.i,.string x.a.t,.slice p1 x.a.l.length c1,.int .i64 x.b.k,.int .i64 x.b.i,.string x.b.t,.slice p2 x.b.l.length c2] 105)).drew op (by omega) (by omega) (Ycu hB B0.out.drew.size));have hw8:IntKind.u8.wrap (op:Int)=(op:Int):=by simp[IntKind.wrap_u8'];omega
 clear h hok hs hz hop hpo ho h1 h7;go_enter Tryz.func161,Tryz.ntmps161
 go_wp2_with fail
 go_region_with (go_at_call 89;refine CW.out.mono ?_;rintro e w1 ⟨rfl,hb1,hw1⟩)
 have R:=Zaa (B0.out.drew.trans hw1);have L1:=Zaa (hw1.blk (L:=w.heap.size) L0.out (by omega) (by decide));obtain⟨y0,y1,y2,y3,y4,y5,y6,y7,y8,sf⟩:=L1.out.nine;have C1:=Zaa (CA.out _ hb1 R.out);clear hb1 hw1 CW CA;go_wp2_with fail
 refine C1.out.mono ?_;rintro e w2 ⟨rfl,hb2,hw2⟩;have R2:=Zaa (R.out.trans hw2);have L2:=Zaa (hw2.blk (L:=w.heap.size) L1.out (by omega) (by decide));have C2:=Zaa (CB.out _ hb2 R2.out);clear y0 y1 y2 y3 y4 y5 y6 y7 y8 sf hb2 hw2 CB C1;obtain⟨y0,y1,y2,y3,y4,y5,y6,y7,y8,sf⟩:=L2.out.nine;go_wp2_with fail
 refine C2.out.mono ?_;rintro e w3 ⟨rfl,hb3,hw3⟩;go_wp2_with fail
 go_end0
 exact⟨rfl,E.out▸hb3,R2.out.trans hw3⟩
theorem Zuu (h:Bld 80 B b s w)(hB:B<=w.heap.size)(hS:Zfy B w D vs x)(hok:Za0 x=0)(hs:s.size+(Zb6 x).size < 1000000000):
  Calls Tryz.prog 117 #[.pointer (some ⟨b,0,none⟩),.agg vs.toArray] w (Zfw 80 B b (s++Zb6 x) w):=by
 obtain⟨_,_,hia,hig⟩:=okB hok;obtain⟨va,p1,c1,p2,c2,rfl,⟨p0,c0,rfl,_⟩,_,hr1,_,hr2⟩:=hS;have hz:s.size+((Za4 Zk4 x.body).size+(Za4 Zvg x.guards).size) < 1000000000:=by rw[Zb6,Zae]at hs;exact hs
 have E:Box (s++Za4 Zk4 x.body++Za4 Zvg x.guards=s++Zb6 x):=⟨by rw[Zb6,Za2]⟩;have B0:=Zaa ((Fr.refl B b w).alloc hB (.cells #[.string x.head.name,.slice p0 x.head.terms.length c0,.slice p1 x.body.length c1,.slice p2 x.guards.length c2] 101));have L0:=Zaa (Blk.new w #[.string x.head.name,.slice p0 x.head.terms.length c0,.slice p1 x.body.length c1,.slice p2 x.guards.length c2] 101);have hbw:b < w.heap.size:=by obtain⟨_,_,_,q,_,_⟩:=h.form;exact q.lt
 have hmf:=Zg8;have C1:=Zaa (Zh7 (c:=c1) (B:=B) (D:=D) Zmb (first:=#[.pointer (some ⟨b,0,none⟩)]) (cap:=#[]) (f:=Zk4) (h.alloc (.cells #[.string x.head.name,.slice p0 x.head.terms.length c0,.slice p1 x.body.length c1,.slice p2 x.guards.length c2] 101)) (by omega) (hr1.carry fun _ _ _ r=>r.carry (Go.W.Below.carry B0.out.below lr) lr) (Ycu hB B0.out.size) fun u2 vs y s' hy hu2 hf2 hS hz=>Zok hu2 (Ycu hB (Ycu B0.out.size hf2.size)) hS (hia y hy) hz);have CM:=Zaa (fun u (hu:Bld 80 B b (s++Za4 Zk4 x.body) u) (hf:Fr B b w u)=>Zmv (c:=c2) (B:=B) (D:=D) Zrq (first:=#[.pointer (some ⟨b,0,none⟩)]) (cap:=#[]) (f:=Zvg) hu (by rw[Zae];omega) (hr2.carry fun _ _ _ r=>r.carry (Go.W.Below.carry hf.below lr) lr) (Ycu hB hf.size) fun u2 vs y s' hy hu2 hf2 hS hz=>Z1p hu2 (Ycu hB (Ycu hf.size hf2.size)) hS (hig y hy) hz);clear h hr1 hr2 hia hig hok hs hz;go_enter Tryz.func117,Tryz.ntmps117
 go_wp2_with fail
 refine C1.out.mono ?_;rintro e w1 ⟨rfl,hb1,hw1⟩;have R:=Zaa (B0.out.trans hw1);obtain⟨y0,y1,y2,y3,sf⟩:=(hw1.blk (L:=w.heap.size) L0.out (by omega) (by decide)).four;have C2:=Zaa (CM.out _ hb1 R.out);clear hb1 hw1 C1 CM;go_wp2_with fail
 refine C2.out.mono ?_;rintro e w2 ⟨rfl,hb2,hw2⟩;go_wp2_with fail
 go_end0
 exact⟨rfl,E.out▸hb2,R.out.trans hw2⟩
theorem Z1r (h:Bld 80 B b s w)(hB:B<=w.heap.size)(hS:Zfy B w D vs x)(hok:Zcr x=0)(hs:s.size+(Zvi x).size < 1000000000):
  Calls Tryz.prog 57 #[.pointer (some ⟨b,0,none⟩),.agg vs.toArray] w (Zfw 80 B b (s++Zvi x) w):=by
 obtain⟨hok1,hok2⟩:=Zea hok;have hok2:=(Zea hok2).1;have hz:s.size+((Zk4 x.head).size+(Zb6 x).size) < 1000000000:=by rw[Zvi,Zae]at hs;exact hs
 have E:Box (s++Zk4 x.head++Zb6 x=s++Zvi x):=⟨by rw[Zvi,Za2]⟩;have CB:=Zaa (fun u (hu:Bld 80 B b (s++Zk4 x.head) u) (hf:Fr B b w u)=>Zuu hu (Ycu hB hf.size) (Zfy.carry hS (Go.W.Below.carry hf.below lr)) hok2 (by rw[Zae];omega));obtain⟨va,p1,c1,p2,c2,rfl,hA,_,hr1,_,hr2⟩:=hS;have CA:=Zaa (fun u (hu:Bld 80 B b s u) (hf:Fr B b w u)=>Zok hu (Ycu hB hf.size) (Zev.carry hA (Go.W.Below.carry hf.below lr)) hok1 (by omega));obtain⟨p0,c0,rfl,_⟩:=hA;have B0:=Zaa ((Fr.refl B b w).alloc hB (.cells #[.string x.head.name,.slice p0 x.head.terms.length c0,.slice p1 x.body.length c1,.slice p2 x.guards.length c2] 101));have L0:=Zaa (Blk.new w #[.string x.head.name,.slice p0 x.head.terms.length c0,.slice p1 x.body.length c1,.slice p2 x.guards.length c2] 101);have hbw:b < w.heap.size:=by obtain⟨_,_,_,q,_,_⟩:=h.form;exact q.lt
 have C1:=Zaa (CA.out _ (h.alloc (.cells #[.string x.head.name,.slice p0 x.head.terms.length c0,.slice p1 x.body.length c1,.slice p2 x.guards.length c2] 101)) B0.out);clear h hr1 hr2 hok hs hz CA;go_enter Tryz.func57,Tryz.ntmps57
 go_wp2_with fail
 refine C1.out.mono ?_;rintro e w1 ⟨rfl,hb1,hw1⟩;have R:=Zaa (B0.out.trans hw1);obtain⟨y0,y1,y2,y3,sf⟩:=(hw1.blk (L:=w.heap.size) L0.out (by omega) (by decide)).four;have C2:=Zaa (CB.out _ hb1 R.out);clear hb1 hw1 C1 CB;go_wp2_with fail
 refine C2.out.mono ?_;rintro e w2 ⟨rfl,hb2,hw2⟩;go_wp2_with fail
 go_end0
 exact⟨rfl,E.out▸hb2,R.out.trans hw2⟩
theorem Z0z {x:List R}(h:Bld 80 B b s w)(hB:B<=w.heap.size)(hS:Ziw B w D vs x)(hok:Zat x=0)(hs:s.size+(Za4 Zb6 x).size < 1000000000):
  Calls Tryz.prog 59 #[.pointer (some ⟨b,0,none⟩),.agg vs.toArray] w (Zfw 80 B b (s++Za4 Zb6 x) w):=by
 obtain⟨p,c,rfl,_,hr⟩:=hS;have B0:=Zaa ((Fr.refl B b w).alloc hB (.cells #[.slice p x.length c] 67));have hmf:=Zg8;have C1:=Zaa (Zim (c:=c) (B:=B) (D:=D) Zuv (first:=#[.pointer (some ⟨b,0,none⟩)]) (cap:=#[]) (f:=Zb6) (h.alloc (.cells #[.slice p x.length c] 67)) (by omega) (hr.carry fun _ _ _ r=>r.carry (Go.W.Below.carry B0.out.below lr) lr) (Ycu hB B0.out.size) fun u2 vs y s' hy hu2 hf2 hS hz=>Zuu hu2 (Ycu hB (Ycu B0.out.size hf2.size)) hS (Ycg hok y hy) hz);clear h hr hok hs;go_enter Tryz.func59,Tryz.ntmps59
 go_wp2_with fail
 refine C1.out.mono ?_;rintro e w1 ⟨rfl,hb1,hw1⟩;go_wp2_with fail
 go_end0
 exact⟨rfl,hb1,B0.out.trans hw1⟩
theorem Z02 {x:Bk}(h:Bld 80 B b s w)(hB:B<=w.heap.size)(hS:Zbk B w D vs x)(hok:Zby x=0)(hs:s.size+(Zdx x).size < 1000000000):
  Calls Tryz.prog 27 #[.pointer (some ⟨b,0,none⟩),.agg vs.toArray] w (Zfw 80 B b (s++Zdx x) w):=by
 obtain⟨ok1,hok⟩:=Zea hok;obtain⟨ok2,ok3⟩:=Zea hok;obtain⟨p,c,p1,c1,p2,c2,rfl,_,hr,_,hr1,_,hr2⟩:=hS;have hz:s.size+((Za4 Zk4 x.facts).size+(Za4 Zvi x.rules).size+(Za4 (Za4 Zb6) x.checks).size) < 1000000000:=by rw[Zdx,Zae,Zae]at hs;exact hs
 have E:Box (s++Za4 Zk4 x.facts++Za4 Zvi x.rules++Za4 (Za4 Zb6) x.checks=s++Zdx x):=⟨by rw[Zdx,Za2,Za2,Za2]⟩;have B0:=Zaa ((Fr.refl B b w).alloc hB (.cells #[.slice p x.facts.length c,.slice p1 x.rules.length c1,.slice p2 x.checks.length c2] 38));have L0:=Zaa (Blk.new w #[.slice p x.facts.length c,.slice p1 x.rules.length c1,.slice p2 x.checks.length c2] 38);have hbw:b < w.heap.size:=by obtain⟨_,_,_,q,_,_⟩:=h.form;exact q.lt
 have hmf:=Zg8;have C1:=Zaa (Zh7 (c:=c) (B:=B) (D:=D) Zmb (first:=#[.pointer (some ⟨b,0,none⟩)]) (cap:=#[]) (f:=Zk4) (h.alloc (.cells #[.slice p x.facts.length c,.slice p1 x.rules.length c1,.slice p2 x.checks.length c2] 38)) (by omega) (hr.carry fun _ _ _ r=>r.carry (Go.W.Below.carry B0.out.below lr) lr) (Ycu hB B0.out.size) fun u2 vs y s' hy hu2 hf2 hS hz=>Zok hu2 (Ycu hB (Ycu B0.out.size hf2.size)) hS (Zea ((Zbz ok1).2 y hy)).1 hz);have CM:=Zaa (fun u (hu:Bld 80 B b (s++Za4 Zk4 x.facts) u) (hf:Fr B b w u)=>Zim (c:=c1) (B:=B) (D:=D) Zt1 (first:=#[.pointer (some ⟨b,0,none⟩)]) (cap:=#[]) (f:=Zvi) hu (by rw[Zae];omega) (hr1.carry fun _ _ _ r=>r.carry (Go.W.Below.carry hf.below lr) lr) (Ycu hB hf.size) fun u2 vs y s' hy hu2 hf2 hS hz=>Z1r hu2 (Ycu hB (Ycu hf.size hf2.size)) hS ((Zbz ok2).2 y hy) hz);have CN:=Zaa (fun u (hu:Bld 80 B b (s++Za4 Zk4 x.facts++Za4 Zvi x.rules) u) (hf:Fr B b w u)=>Zmx (c:=c2) (B:=B) (D:=D) Zr2 (first:=#[.pointer (some ⟨b,0,none⟩)]) (cap:=#[]) (f:=Za4 Zb6) hu (by rw[Zae,Zae];omega) (hr2.carry fun _ _ _ r=>r.carry (Go.W.Below.carry hf.below lr) lr) (Ycu hB hf.size) fun u2 vs y s' hy hu2 hf2 hS hz=>Z0z hu2 (Ycu hB (Ycu hf.size hf2.size)) hS ((Zbz ok3).2 y hy) hz);clear h hr hr1 hr2 hok ok1 ok2 ok3 hs hz;go_enter Tryz.func27,Tryz.ntmps27
 go_wp2_with fail
 refine C1.out.mono ?_;rintro e w1 ⟨rfl,hb1,hw1⟩;have R:=Zaa (B0.out.trans hw1);have L1:=Zaa (hw1.blk (L:=w.heap.size) L0.out (by omega) (by decide));obtain⟨y0,y1,y2,sf⟩:=L1.out.three;have C2:=Zaa (CM.out _ hb1 R.out);clear hb1 hw1 C1 CM;go_wp2_with fail
 refine C2.out.mono ?_;rintro e w2 ⟨rfl,hb2,hw2⟩;have R2:=Zaa (R.out.trans hw2);have L2:=Zaa (hw2.blk (L:=w.heap.size) L1.out (by omega) (by decide));clear y0 y1 y2 sf;obtain⟨y0,y1,y2,sf⟩:=L2.out.three;have C3:=Zaa (CN.out _ hb2 R2.out);clear hb2 hw2 C2 CN;go_wp2_with fail
 refine C3.out.mono ?_;rintro e w3 ⟨rfl,hb3,hw3⟩;go_wp2_with fail
 go_end0
 exact⟨rfl,E.out▸hb3,R2.out.trans hw3⟩
end Go.P
namespace Go.P
def Zbe:Prop:= ∀ (a:Nat->Addr) (s:ByteArray) (w:World),Zap a w->s.size < 1000000000->Calls Tryz.prog 228 #[.string s] w fun e w'=>e= .returned (.bool (Zuc s))/\Below w.heap.size w w'
theorem Zvk (V:Zbe){a:Nat->Addr}{w:World}(Z:Zap a w)(k i:Int)(t:ByteArray)(p:Option Addr)(n c:Nat)(ht:t.size < 1000000000):
  Calls Tryz.prog 200 #[.agg #[.int .i64 k,.int .i64 i,.string t,.slice p n c]] w fun e w'=>e= .returned (.bool (Ze9 k i t n))/\Below w.heap.size w w':=by
 have e0:=Zd0 t;have C1:=Zaa (fun u=>Zlq t u ht);have C2:=Zaa (fun u hu=>V a t u hu ht);have ZZ:=Zaa Z;clear Z;have F:Box (Ze9 k i t n=Zmn k i t n (Zcp t) (Zuc t)):=⟨rfl⟩;generalize Zcp t=b1 at*;generalize Zuc t=b2 at*;generalize Ze9 k i t n=ans at*;go_enter Tryz.func200,Tryz.ntmps200
 go_wp2_with fail
 go_quiet (fail)
 go_wp2_with (first | (go_at_call 151;refine(C1.out _).mono ?_;rintro e w' ⟨rfl,hb⟩) | (go_at_call 228;refine(C2.out _ (ZZ.out.below (Zb2 ((Yct _ w).alloc lr _)))).mono ?_;rintro e w' ⟨rfl,hb⟩))
 all_goals go_ret
 all_goals first | exact⟨Zb3 (by rw[F.out];simp_all [Zmn]),(Zb2 ((Yct w.heap.size w).alloc lr _)).trans (hb.mono (by simp))⟩ | exact⟨Zb3 (by rw[F.out];simp only[Z25,Z5n]at*;simp_all [Zmn]),Zb2 ((Yct w.heap.size w).alloc lr _)⟩
end Go.P
