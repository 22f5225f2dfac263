import Derived.Test.YtmebjfclpalmaaaGreatDoorW29
import Derived.Laws.StructEq
set_option maxRecDepth 100000
set_option maxHeartbeats 8000000
set_option linter.unusedSimpArgs false
open Go.Proofs Go.RowKit Go.W Tryz
namespace Go.P
attribute [local go_sem] Yea
theorem Zqs {w:World}{q p m:Nat}{cs:Array Value}{x:Pt}{gs:List Gt}{S:List Nat}{fs:List (ByteArray×Nat)}{vs:List T}{F:List Nat}{xs:List (ByteArray×Nat)}{ov:Value}{Fo:List Nat}(h:Ctx w q p m cs [x] gs S fs vs F xs ov Fo){seen a0 a1 a2 a3 s0:Nat}(hse:seen<=60)(c8:cs[8]?=some (.int .u64 (a0:Int)))(c9:cs[9]?=some (.int .u64 (a1:Int)))(c10:cs[10]?=some (.int .u64 (a2:Int)))(c11:cs[11]?=some (.int .u64 (a3:Int)))(hs:bits BinOp.andNot IntKind.u64 (a0:Int) ((2 ^ seen - 1:Nat):Int)=(s0:Int))(R:World->World->Prop)(CT: ∀ u,Below w.heap.size w u->Calls prog 249 #[.pointer (some ⟨q,0,none⟩),.agg #[.int .u64 (s0:Int),.int .u64 (a1:Int),.int .u64 (a2:Int),.int .u64 (a3:Int)]] u fun e w'=>e= .returned (.bool true)/\R u w')(hR: ∀ u w',Below w.heap.size w u->R u w'->R w w'):
  Calls prog 219 #[.pointer (some ⟨q,0,none⟩),.int .i64 (seen:Int)] w fun e w'=>e= .returned (.bool true)/\R w w':=by
 obtain⟨pa,ca,c3,_⟩:=h.rd.atoms;simp only[Ydp,Ydt,Yd7]at c3;have q3:=(h.cell 3 (by omega)).trans c3;have q8:=(h.cell 8 (by omega)).trans c8;have q9:=(h.cell 9 (by omega)).trans c9;have q10:=(h.cell 10 (by omega)).trans c10;have q11:=(h.cell 11 (by omega)).trans c11;have CB:=Zaa (Zie seen hse);have HC:=Zaa CT;have HR:=Zaa hR;clear CT hR h c3 c8 c9 c10 c11;refine Yfn func219 rfl ?_;simp only[ntmps219,Ydn,Ydp,Ydt,Nat.reduceAdd,Nat.reduceSub,Ydx,Ydw,Yd2,Ydz,Ydy,Ydv];go_wp2
 refine Ye7 2 ?_;rw[Ye5];go_wp2
 refine Ye7 1 ?_;rw[Ye5];go_wp2
 go_region_with ((go_at_call 246;refine(CB.out _).mono ?_;rintro e _ ⟨rfl,rfl⟩))
 all_goals
  go_wp2_with fail
  refine(HC.out _ ((Ydb _ w).alloc lr _).drew).mono ?_;rintro e w9 ⟨rfl,hr⟩;have hF:=HR.out _ _ ((Ydb _ w).alloc lr _).drew hr;clear hr;go_wp2_with fail
  rw[Ye5];go_wp2
  go_ret
  exact⟨rfl,hF⟩
end Go.P
namespace Go.P
variable {y pn:ByteArray}{k n a0 a1 a2 a3:Nat}{fx:ByteArray×Nat}
theorem Z1e (v k:Nat)(h:y.size≠0):Zbn [(y,v)] (y,k)=(v,true):=by
 unfold Zbn;rw[if_neg h];simp[Zgl]
section
variable {w:World} {q p m:Nat} {cs:Array Value} {at_:List Pt} {x:Pt} {gs:List Gt} {S:List Nat} {fs:List (ByteArray×Nat)} {vs:List T} {F:List Nat} {xs:List (ByteArray×Nat)} {ov:Value} {Fo:List Nat}
def Z5n (w w':World) (q p m:Nat) (cs:Array Value) (x:Pt) (gs:List Gt) (S:List Nat) (fs:List (ByteArray×Nat)) (vs:List T) (F Fo:List Nat) (u:World):Prop:= ∃ ov' Fo' F',Ctx w' q p m cs [x] gs S fs vs F' [] ov' Fo'/\Off (q::m::Fo++F) u w'/\(∀ i,i∈F'->i∈F\/w.heap.size<=i)/\ ∀ i,i∈Fo'->i∈Fo\/w.heap.size<=i
structure Hm (w:World) (cs:Array Value) (S:List Nat) (pn y:ByteArray) (k:Nat):Prop where
 home: ∃ gh ch,cs[5]?=some (.slice (some ⟨gh,0,none⟩) 1 ch)/\gh∈S/\w.cell? ⟨gh,0,none⟩=some (.string y)/\w.cell? ⟨gh,1,none⟩=some (.int .i64 0)/\w.cell? ⟨gh,2,none⟩=some (.int .i64 0)
 head:cs[1]?=some (.string pn)/\ ∃ g c,cs[2]?=some (.slice (some ⟨g,0,none⟩) 1 c)/\g∈S/\Zdu w g (y,k)
 sz:y.size≠0
theorem Hm.of {w':World}{cs':Array Value}(h:Hm w cs S pn y k)(hs:w.heap.size<=w'.heap.size)(hb: ∀ j,j∈S->w'.heap[j]?=w.heap[j]?)(hc: ∀ j,j < 6->cs'[j]?=cs[j]?):Hm w' cs' S pn y k:=by
 obtain⟨⟨gh,ch,c5,m1,g0,g1,g2⟩,⟨c1,g,c,c2,m2,hg⟩,hy⟩:=h;exact⟨⟨gh,ch,(hc 5 (by omega)).trans c5,m1,(Yde (a:=⟨gh,0,none⟩) (hb gh m1)).trans g0,(Yde (a:=⟨gh,1,none⟩) (hb gh m1)).trans g1,(Yde (a:=⟨gh,2,none⟩) (hb gh m1)).trans g2⟩,⟨(hc 1 (by omega)).trans c1,g,c,(hc 2 (by omega)).trans c2,m2,hg.of hs (hb g m2)⟩,hy⟩
theorem Z48 (h:Ctx w q p m cs [x] gs S fs vs F [] ov Fo)(hm:Hm w cs S pn y k){l0 l1 l2 l3:Nat}(hs:l0 < 8)(hn:Za5 l0=[n])(hf:fs[n]?=some fx)(hN:Zjf (pn,fx.2) fs)(hl:fs.length < 60):
  Calls prog 249 #[.pointer (some ⟨q,0,none⟩),.agg #[.int .u64 (l0:Int),.int .u64 (l1:Int),.int .u64 (l2:Int),.int .u64 (l3:Int)]] w fun e w'=>e= .returned (.bool true)/\Z5n w w' q p m cs x gs S (fs++[(pn,fx.2)]) vs F Fo w:=by
 have hz:2 ^ n < 8/\Za5 (2 ^ n)=[n]:=by
  have:n < 3:=Zcp (s:=l0) (by rw[hn];simp)
  have:n=0\/n=1\/n=2:=by omega
  rcases this with rfl | rfl | rfl <;> exact⟨by decide,by decide⟩
 refine Z47 l0 l1 l2 l3 true (fun u w'=>Z5n w w' q p m cs x gs S (fs++[(pn,fx.2)]) vs F Fo u) (fun u b v hb lb lv hw=>?_) fun u w' hb ⟨ov',Fo',F',h1,h2,h3⟩=>⟨ov',Fo',F',h1,(Off.of hb).trans h2 fun _ h=> .inl h,h3⟩;have hm':=hm.of (cs':=cs) hb.size (fun j hj=>hb.block j (h.rd.lS j hj)) fun _ _=>rfl;obtain⟨⟨gh,ch,c5,m1,g0,g1,g2⟩,_,_⟩:=hm';refine(Z49 (h.below hb) hw l0 l1 l2 l3 (fun u' hu'=>Zn4 ((h.below hb).below hu') l0 l1 l2 l3 hs hn) c5 m1 g0 g1 g2 hf hs hn (fun j hj=>?_) (fs':=fs++[(pn,fx.2)]) fun u' ov' Fo' hc ht ho=>?_).mono ?_
 ·have:j < w.heap.size:=by
   simp only[Ydj,Ydk]at hj;rcases hj with rfl | rfl | hj | hj
   ·exact h.bd.lt _ (by simp)
   ·exact h.bd.lt _ (by simp)
   ·exact h.bd.lt _ (by simp[hj])
   ·exact h.wd.lt _ hj
  exact⟨by omega,by omega⟩
 ·have hm2:=(hm.of (cs':=cs) hb.size (fun j hj=>hb.block j (h.rd.lS j hj)) fun _ _=>rfl).of (cs':=cs) ho.size (fun j hj=>ho.block j (Ydh (h.rd.lS j hj) hb.size) fun q=>(h.dB j q).2.1 hj) fun _ _=>rfl;obtain⟨_,⟨c1,g,c,c2,m2,hg⟩,hy⟩:=hm2;have e:=Z1e fx.2 k hy
  have:=Z7k hc ht (k:=1) (2 ^ n) l1 l2 l3 (fun u'' hb''=>Zn4 (hc.below hb'') (2 ^ n) l1 l2 l3 hz.1 hz.2) c5 c1 c2 hg (by rw[e];exact hN) hl (fun hj=>by have:=h.wd.lt b hj;omega)
  rw[e]at this;exact this
 ·rintro e w' ⟨rfl,ov',Fo',F',h1,h2,h3,h4⟩;exact⟨rfl,ov',Fo',F',h1,h2,fun i hi=>(h3 i hi).imp id (Ydc hb.size),fun i hi=>(h4 i hi).imp id (Ydc hb.size)⟩
theorem Z5a (h:Ctx w q p m cs at_ gs S fs vs F xs ov Fo)(h4:at_.length<=4)(hk:0 < at_.length)(l1 l2 l3:Nat):
  Calls prog 249 #[.pointer (some ⟨q,0,none⟩),.agg #[.int .u64 ((0:Nat):Int),.int .u64 (l1:Int),.int .u64 (l2:Int),.int .u64 (l3:Int)]] w fun e w'=>e= .returned (.bool true)/\Below w.heap.size w w':=
 Z47 0 l1 l2 l3 true (fun u w'=>Below u.heap.size u w') (fun _ _ _ hb _ _ hw=>Z46 hw 0 0 l1 l2 l3 fun _ hu=>Z3b ((h.below hb).below hu) h4 hk l1 l2 l3) fun _ _ hb h=>hb.trans (h.mono hb.size)
theorem Zwb (h:Ctx w q p m cs [x] gs S fs vs F [] ov Fo)(hm:Hm w cs S pn y k){seen s0:Nat}(hse:seen<=60)(c8:cs[8]?=some (.int .u64 (a0:Int)))(c9:cs[9]?=some (.int .u64 (a1:Int)))(c10:cs[10]?=some (.int .u64 (a2:Int)))(c11:cs[11]?=some (.int .u64 (a3:Int)))(ha:bits BinOp.andNot IntKind.u64 (a0:Int) ((2 ^ seen - 1:Nat):Int)=(s0:Int))(hs:s0 < 8)(hn:Za5 s0=[n])(hf:fs[n]?=some fx)(hN:Zjf (pn,fx.2) fs)(hl:fs.length < 60):
  Calls prog 219 #[.pointer (some ⟨q,0,none⟩),.int .i64 (seen:Int)] w fun e w'=>e= .returned (.bool true)/\Z5n w w' q p m cs x gs S (fs++[(pn,fx.2)]) vs F Fo w:=by
 refine Zqs h hse c8 c9 c10 c11 ha (fun u w'=>Z5n w w' q p m cs x gs S (fs++[(pn,fx.2)]) vs F Fo u) (fun u hu=>?_) fun u w' hb ⟨ov',Fo',F',h1,h2,h3⟩=>⟨ov',Fo',F',h1,(Off.of hb).trans h2 fun _ h=> .inl h,h3⟩;refine(Z48 (h.below hu) (hm.of hu.size (fun j hj=>hu.block j (h.rd.lS j hj)) fun _ _=>rfl) hs hn hf hN hl).mono ?_;rintro e w' ⟨rfl,ov',Fo',F',h1,h2,h3,h4⟩;exact⟨rfl,ov',Fo',F',h1,h2,fun i hi=>(h3 i hi).imp id (Ydc hu.size),fun i hi=>(h4 i hi).imp id (Ydc hu.size)⟩
theorem Zwc (h:Ctx w q p m cs [x] gs S fs vs F xs ov Fo){seen:Nat}(hse:seen<=60)(c8:cs[8]?=some (.int .u64 (a0:Int)))(c9:cs[9]?=some (.int .u64 (a1:Int)))(c10:cs[10]?=some (.int .u64 (a2:Int)))(c11:cs[11]?=some (.int .u64 (a3:Int)))(ha:bits BinOp.andNot IntKind.u64 (a0:Int) ((2 ^ seen - 1:Nat):Int)=((0:Nat):Int)):
  Calls prog 219 #[.pointer (some ⟨q,0,none⟩),.int .i64 (seen:Int)] w fun e w'=>e= .returned (.bool true)/\Below w.heap.size w w':=
 Zqs h hse c8 c9 c10 c11 ha (fun u w'=>Below u.heap.size u w') (fun _ hu=>Z5a (h.below hu) (by simp) (by simp) a1 a2 a3) fun _ _ hb h=>hb.trans (h.mono hb.size)
end
end Go.P
namespace Go.P
attribute [local go_sem] Yea
theorem Zvb {w:World}{p n a0 a1 a2 a3:Nat}{hn:ByteArray}{pt pb pg:Option Addr}{nt ct nb cb ng cg:Nat}{J J2:Nat->World->Prop}(sJ: ∀ q u v,J q u->Below u.heap.size u v->J q v)(sJ2: ∀ q u v,J2 q u->Below u.heap.size u v->J2 q v)
  (CB: ∀ u,Below w.heap.size w u->Calls prog 217 #[.pointer (some ⟨p,0,none⟩),.agg #[.string hn,.slice pt nt ct,.slice pb nb cb,.slice pg ng cg]] u fun e w'=> ∃ q,e= .returned (.pointer (some ⟨q,0,none⟩))/\J q w')
  (hJ: ∀ q u,J q u-> ∃ g c,u.cell? ⟨p,0,none⟩=some (.slice g n c))
  (CL: ∀ q u,J q u->Calls prog 218 #[.pointer (some ⟨q,0,none⟩),.int .i64 0,.int .i64 (n:Int)] u fun e w'=>e= .returned (.tuple #[])/\J2 q w')
  (CA: ∀ q u,J2 q u->Calls prog 221 #[.pointer (some ⟨q,0,none⟩)] u fun e w'=>e= .returned (.bool true)/\Below u.heap.size u w')
  (hJ2: ∀ q u,J2 q u->u.cell? ⟨q,8,none⟩=some (.int .u64 (a0:Int))/\u.cell? ⟨q,9,none⟩=some (.int .u64 (a1:Int))/\u.cell? ⟨q,10,none⟩=some (.int .u64 (a2:Int))/\u.cell? ⟨q,11,none⟩=some (.int .u64 (a3:Int)))
  (CH: ∀ q u,J2 q u->Calls prog 222 #[.pointer (some ⟨q,0,none⟩),.agg #[.int .u64 (a0:Int),.int .u64 (a1:Int),.int .u64 (a2:Int),.int .u64 (a3:Int)]] u fun e w'=>e= .returned (.bool true)/\Below u.heap.size u w'):
  Calls prog 191 #[.pointer (some ⟨p,0,none⟩),.agg #[.string hn,.slice pt nt ct,.slice pb nb cb,.slice pg ng cg]] w fun e w'=>e= .returned (.bool true)/\ ∃ q,J2 q w':=by
 have HB:=Zaa CB;have HL:=Zaa CL;have HA:=Zaa CA;have HC:=Zaa CH;have SJ:=Zaa sJ;have SJ2:=Zaa sJ2;have HJ:=Zaa hJ;have HJ2:=Zaa hJ2;clear CB CL CA CH sJ sJ2 hJ hJ2;refine Yfn func191 rfl ?_;simp only[ntmps191,Ydn,Ydp,Ydt,Nat.reduceAdd,Nat.reduceSub,Ydx,Ydw,Yd2,Ydz,Ydy,Ydv];go_wp2_with fail
 refine(HB.out _ ((Ydb _ w).alloc lr _)).mono ?_;rintro e w1 ⟨q,rfl,j1⟩;obtain⟨g,c,p0⟩:=HJ.out q w1 j1;have J1:=Zaa j1;clear j1;go_wp2_with fail
 refine(HL.out q _ J1.out).mono ?_;rintro e w2 ⟨rfl,j2⟩;have J2:=Zaa j2;clear j2 p0;go_wp2_with fail
 refine(HA.out q _ J2.out).mono ?_;rintro e w3 ⟨rfl,hb3⟩;have j3:=SJ2.out q _ _ J2.out hb3;obtain⟨z0,z1,z2,z3⟩:=HJ2.out q _ j3;have J3:=Zaa j3;clear j3 hb3;go_wp2_with fail
 refine(HC.out q _ J3.out).mono ?_;rintro e w4 ⟨rfl,hb4⟩;have J4:=Zaa (SJ2.out q _ _ J3.out hb4);clear hb4;go_wp2
 go_ret
 exact⟨rfl,q,J4.out⟩
end Go.P
namespace Go.P
variable {g c:Nat}{s:ByteArray×Nat}{w:World}
theorem Z6a (x:ByteArray)(k:Nat)(w:World):(binOp .eql 366 (.agg #[.string x,.int .i64 (k:Int)]) (.agg #[.string x,.int .i64 (k:Int)])).run prog w= .ok (.bool true) w:=by
 rw[run_eql_struct,run_equalIn_struct w _ _ _ _ (by kernel_rfl) (by kernel_rfl)];go_simp
theorem Zw9 (p:Option Addr)(c:Nat)(x:Value)(y:Value)(w:World):Calls prog 277 #[.slice p 0 c,.agg #[x,y]] w fun e w'=>e= .returned (.int .i64 (-1))/\Below w.heap.size w w':=by
 have B0:=fun o=>(Ydb w.heap.size w).alloc lr o;go_in
 go_wp2
 refine Ye7 1 ?_;rw[Ye5];go_wp2
 go_ret
 exact⟨rfl,B0 _⟩
theorem Z1a (hg:Zdu w g s):Calls prog 277 #[.slice (some ⟨g,0,none⟩) 1 c,.agg #[.string s.1,.int .i64 (s.2:Int)]] w fun e w'=>e= .returned (.int .i64 0)/\Below w.heap.size w w':=by
 have hg0:=fun o=>(hg.of (w':=w.alloc o) (by simp) (Ydf _ _ _ hg.1)).2.1;have hg1:=fun o=>(hg.of (w':=w.alloc o) (by simp) (Ydf _ _ _ hg.1)).2.2.1;have he:=Z6a s.1 s.2;have B0:=fun o=>(Ydb w.heap.size w).alloc lr o;clear hg;go_in
 go_wp2
 refine Ye7 1 ?_;rw[Ye5];go_wp2
 go_quiet (fail)
 all_goals
  go_wp2
  go_ret
  exact⟨rfl,Zb6 (B0 _)⟩
theorem Zp7 (p:Option Addr)(c:Nat)(x:Value)(y:Value)(w:World):Calls prog 263 #[.slice p 0 c,.agg #[x,y]] w fun e w'=>e= .returned (.bool false)/\Below w.heap.size w w':=by
 have C:=Zaa (fun o=>Zw9 p c x y (w.alloc o));have B0:=fun o=>(Ydb w.heap.size w).alloc lr o;go_in
 go_wp2_with fail
 refine(C.out _).mono ?_;rintro e w' ⟨rfl,hb⟩;go_wp2
 go_ret
 exact⟨rfl,(B0 _).trans (hb.mono (by simp))⟩
theorem Zsp (hg:Zdu w g s):Calls prog 263 #[.slice (some ⟨g,0,none⟩) 1 c,.agg #[.string s.1,.int .i64 (s.2:Int)]] w fun e w'=>e= .returned (.bool true)/\Below w.heap.size w w':=by
 have C:=Zaa (fun o=>Z1a (c:=c) (hg.of (w':=w.alloc o) (by simp) (Ydf _ _ _ hg.1)));have B0:=fun o=>(Ydb w.heap.size w).alloc lr o;clear hg;go_in
 go_wp2_with fail
 refine(C.out _).mono ?_;rintro e w' ⟨rfl,hb⟩;go_wp2
 go_ret
 exact⟨rfl,(B0 _).trans (hb.mono (by simp))⟩
theorem Zwi (f:Value)(w:World):Calls prog 278 #[.slice none 0 0,f] w fun e w'=>e= .returned (.int .i64 (-1))/\w'=w:=by
 go_in
 go_wp2
 refine Ye7 1 ?_;rw[Ye5];go_wp2
 go_ret
 exact⟨rfl,rfl⟩
theorem Zpv (f:Value)(w:World):Calls prog 264 #[.slice none 0 0,f] w fun e w'=>e= .returned (.bool false)/\w'=w:=by
 have C:=Zaa (Zwi f w);go_in
 go_wp2_with fail
 refine mq C.out ?_;rintro w' rfl;go_wp2
 go_ret
 exact⟨rfl,rfl⟩
end Go.P
namespace Go.P
variable {w:World}{g' ga c' ca:Nat}{n n':ByteArray}{x:ByteArray×Nat}
theorem Z3e {g c:Nat}{x:ByteArray}{k:Nat}(hx:(x.toList==[])=false)(hg:Zdu w g (x,k))(a0:w.cell? ⟨ga,0,none⟩=some (.string n'))(a1:w.cell? ⟨ga,1,none⟩=some (.slice (some ⟨g',0,none⟩) 1 c'))(hg':Zdu w g' (x,k)):
  Calls prog 244 #[.agg #[.string n,.slice (some ⟨g,0,none⟩) 1 c],.slice (some ⟨ga,0,none⟩) 1 ca] w fun e w'=> ∃ gh ch,e= .returned (.slice (some ⟨gh,0,none⟩) 1 ch)/\w.heap.size<=gh/\w'.cell? ⟨gh,0,none⟩=some (.string x)/\w'.cell? ⟨gh,1,none⟩=some (.int .i64 0)/\w'.cell? ⟨gh,2,none⟩=some (.int .i64 0)/\Below w.heap.size w w':=by
 have HB:=fun o=>(Ydb w.heap.size w).alloc lr o;have hla:=Zbi a0;have a0':=fun o=>(Yde (a:=⟨ga,0,none⟩) (Ydf w o _ hla)).trans a0;have a1':=fun o=>(Yde (a:=⟨ga,1,none⟩) (Ydf w o _ hla)).trans a1;have h0':=fun o=>(hg'.of (w':=w.alloc o) (by simp) (Ydf _ _ _ hg'.1)).2.1;have h1':=fun o=>(hg'.of (w':=w.alloc o) (by simp) (Ydf _ _ _ hg'.1)).2.2.1;have h0'':=fun o o'=>(hg'.of (w':=(w.alloc o).alloc o') (by simp;omega) (((HB o).alloc (by simp) o').block _ hg'.1)).2.1;have h1'':=fun o o'=>(hg'.of (w':=(w.alloc o).alloc o') (by simp;omega) (((HB o).alloc (by simp) o').block _ hg'.1)).2.2.1;have HG:=Zaa hg;have HG':=Zaa hg';have hmf:=fun(fn:Fn) (first cap:Array Value) (w:World)=>(rfl:(Instr.makeFunc fn first cap).run prog w= .ok (.func fn first cap) w);clear hg hg';go_in
 go_wp2
 refine Ye7 2 ?_;rw[Ye5];go_wp2
 refine Ye7 2 ?_;rw[Ye5];go_wp2_with fail
 obtain⟨W3,hW3⟩: ∃ W3,Box (((w.alloc (.cells #[.string n,.slice (some ⟨g,0,none⟩) 1 c] 324)).alloc (.cells #[.string n',.slice (some ⟨g',0,none⟩) 1 c'] 324)).alloc (.cells #[.string x,.int .i64 (k:Int)] 366)=W3):=⟨_,⟨rfl⟩⟩;have B3:Box (Below w.heap.size w W3):=⟨hW3.out▸(((Ydb _ w).alloc lr _).alloc (by simp) _).alloc (by simp;omega) _⟩;have S3:Box (W3.heap.size=w.heap.size+3):=⟨by rw[<- hW3.out];simp⟩;have L2:Box (Blk W3 (w.heap.size+1+1) #[.string x,.int .i64 (k:Int)] 366):=⟨hW3.out▸Z2h w _ _ _ _⟩;rw[hW3.out];refine(Zsp (c:=c) (HG.out.of B3.out.size (B3.out.block g HG.out.1))).mono ?_;rintro e w5 ⟨rfl,hb5⟩;have B5:=tr B3 hb5;have L5:=Zaa (L2.out.of (hb5.block _ L2.out.lt));have z0:=L5.out.two.1;have z0':=fun o=>(L5.out.alloc o).two.1;have CF:=Zaa (fun f=>Zpv f w5);clear hb5;go_wp2_with fail
 refine(CF.out _).mono ?_;rintro e w6 ⟨rfl,h6⟩;obtain rfl:=h6.symm;go_wp2_with fail
 rw[Ye5];go_wp2_with fail
 rw[Ye5];go_wp2_with fail
 have B5':=B5.out;go_ret
 have hn:=Zpo w5 (.cells #[.string x,.int .i64 0,.int .i64 0] 391) (#[.string x,.int .i64 0,.int .i64 0]++Builtin.zeroCells #[.string ⟨#[]⟩,.int .i64 0,.int .i64 0] ((Question.appendCap 1 0 391).cut (w5.tape w5.drawn (Question.appendCap 1 0 391)) - 1)) 391;exact⟨w5.heap.size+1,_,rfl,by have:=B5'.size;omega,(hn.cell 0).trans (by rw[Yd6 (by simp)];rfl),(hn.cell 1).trans (by rw[Yd6 (by simp)];rfl),(hn.cell 2).trans (by rw[Yd6 (by simp)];rfl),((B5'.alloc B5'.size _).alloc (by have:=B5'.size;simp;omega) _).drew⟩
theorem Z3d (hx:(x.1.toList==[])=true)(a0:w.cell? ⟨ga,0,none⟩=some (.string n'))(a1:w.cell? ⟨ga,1,none⟩=some (.slice (some ⟨g',0,none⟩) 1 c'))(hg':Zdu w g' x):
  Calls prog 244 #[.agg #[.string n,.slice none 0 0],.slice (some ⟨ga,0,none⟩) 1 ca] w fun e w'=>e= .returned (.slice none 0 0)/\Below w.heap.size w w':=by
 have HB:=fun o=>(Ydb w.heap.size w).alloc lr o;have hla:=Zbi a0;have a0':=fun o=>(Yde (a:=⟨ga,0,none⟩) (Ydf w o _ hla)).trans a0;have a1':=fun o=>(Yde (a:=⟨ga,1,none⟩) (Ydf w o _ hla)).trans a1;have h0'':=fun o o'=>(hg'.of (w':=(w.alloc o).alloc o') (by simp;omega) (((HB o).alloc (by simp) o').block _ hg'.1)).2.1;have h1'':=fun o o'=>(hg'.of (w':=(w.alloc o).alloc o') (by simp;omega) (((HB o).alloc (by simp) o').block _ hg'.1)).2.2.1;have hmf:=fun(fn:Fn) (first cap:Array Value) (w:World)=>(rfl:(Instr.makeFunc fn first cap).run prog w= .ok (.func fn first cap) w);clear hg';go_in
 go_wp2
 refine Ye7 2 ?_;rw[Ye5];go_wp2
 refine Ye7 2 ?_;rw[Ye5];go_wp2_with fail
 rw[Ye5];go_wp2_with fail
 rw[Ye5];go_wp2
 go_ret
 exact⟨rfl,(((HB _).alloc (by simp) _).alloc (by simp;omega) _)⟩
theorem Z3f {g0 g1 c0 c1:Nat}{x1:ByteArray×Nat}{n0 n1:ByteArray}(hx:(x.1.toList==[])=true)(hx1:(x1.1.toList==[])=false)(a0:w.cell? ⟨ga,0,none⟩=some (.string n0))(a1:w.cell? ⟨ga,1,none⟩=some (.slice (some ⟨g0,0,none⟩) 1 c0))(a2:w.cell? ⟨ga,2,none⟩=some (.string n1))(a3:w.cell? ⟨ga,3,none⟩=some (.slice (some ⟨g1,0,none⟩) 1 c1))(hg:Zdu w g0 x)(hg1:Zdu w g1 x1):
  Calls prog 244 #[.agg #[.string n,.slice none 0 0],.slice (some ⟨ga,0,none⟩) 2 ca] w fun e w'=>e= .returned (.slice none 0 0)/\Below w.heap.size w w':=by
 have HB:=fun o=>(Ydb w.heap.size w).alloc lr o;have hla:=Zbi a0;have a0':=fun o=>(Yde (a:=⟨ga,0,none⟩) (Ydf w o _ hla)).trans a0;have a1':=fun o=>(Yde (a:=⟨ga,1,none⟩) (Ydf w o _ hla)).trans a1;have h0'':=fun o o'=>(hg.of (w':=(w.alloc o).alloc o') (by simp;omega) (((HB o).alloc (by simp) o').block _ hg.1)).2.1;have h1'':=fun o o'=>(hg.of (w':=(w.alloc o).alloc o') (by simp;omega) (((HB o).alloc (by simp) o').block _ hg.1)).2.2.1;have hmf:=fun(fn:Fn) (first cap:Array Value) (w:World)=>(rfl:(Instr.makeFunc fn first cap).run prog w= .ok (.func fn first cap) w);obtain⟨W3,hW3⟩: ∃ W3,Box (((w.alloc (.cells #[.string n,.slice none 0 0] 324)).alloc (.cells #[.string n0,.slice (some ⟨g0,0,none⟩) 1 c0] 324)).alloc (.cells #[.string x.1,.int .i64 (x.2:Int)] 366)=W3):=⟨_,⟨rfl⟩⟩;have B3:Below w.heap.size w W3:=hW3.out▸(((Ydb _ w).alloc lr _).alloc (by simp) _).alloc (by simp;omega) _;have S3:W3.heap.size=w.heap.size+3:=by rw[<- hW3.out];simp
 have L0:Blk W3 w.heap.size #[.string n,.slice none 0 0] 324:=hW3.out▸((Blk.new w _ _).alloc _).alloc _;have b2:=(Yde (a:=⟨ga,2,none⟩) (B3.block ga hla)).trans a2;have b3:=(Yde (a:=⟨ga,3,none⟩) (B3.block ga hla)).trans a3;have hg3:=hg1.of B3.size (B3.block g1 hg1.1);have i0:=fun o=>(hg3.of (w':=W3.alloc o) (by simp) (Ydf _ _ _ hg3.1)).2.1;have i1:=fun o=>(hg3.of (w':=W3.alloc o) (by simp) (Ydf _ _ _ hg3.1)).2.2.1;have l1:=fun o o'=>((L0.alloc o).alloc o').two.2.1;have CC:=Zaa (fun o o'=>Zp7 none 0 (.string x1.1) (.int .i64 (x1.2:Int)) ((W3.alloc o).alloc o'));have BB:=Zaa B3;have HS:=Zaa S3;clear hg hg1 hg3 a2 a3 B3 L0 S3;go_in
 go_wp2
 refine Ye7 3 ?_;rw[Ye5];go_wp2
 refine Ye7 2 ?_;rw[Ye5];go_wp2_with fail
 rw[Ye5];go_wp2_with fail
 rw[hW3.out];clear hW3;rw[Ye5];go_wp2
 refine Ye7 2 ?_;rw[Ye5];go_wp2_with fail
 refine(CC.out _ _).mono ?_;rintro e w6 ⟨rfl,hb6⟩;have B6:=BB.out.trans ((((Ydb _ W3).alloc lr _).alloc (by simp) _).trans (hb6.mono (by simp;omega)) |>.mono BB.out.size);have B6':=Zaa B6;clear hb6 B6;go_wp2_with fail
 rw[Ye5];go_wp2_with fail
 rw[Ye5];go_wp2
 go_ret
 exact⟨rfl,B6'.out⟩
end Go.P
