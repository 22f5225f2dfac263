import Derived.Test.YtghnjdpgbldlkaaGreatDoorW06
set_option linter.defProp false
set_option maxRecDepth 100000
set_option maxHeartbeats 8000000
set_option linter.unusedSimpArgs false
open Go.Proofs Go.RowKit Go.W Tryz
namespace Go.W
def GJ (fs:List (ByteArray×Nat)) (pn:ByteArray) (s:ByteArray×Nat) (pre:List Nat):Nat:=pre.foldl (fun a n=>if(GU [] pn s<|fs.getD n (⟨#[]⟩,0)).1 then a ||| 2 ^ n else a) 0
def Nq {s n:Nat}(h:n∈BR s):n<3:=by
 unfold BR at h
 have:=(List.mem_filter.1 h).1
 simp at this;omega
def Uu (fs:List (ByteArray×Nat))(pn:ByteArray)(s:ByteArray×Nat){pre:List Nat}(h: ∀ n,n∈pre->n<3):GJ fs pn s pre<8:=by
 unfold GJ;have key: ∀ (l:List Nat) (a:Nat),(∀ n,n∈l->n<3)->a<8->l.foldl (fun a n=>if(GU [] pn s<|fs.getD n (⟨#[]⟩,0)).1 then a ||| 2 ^ n else a) a<8:=by
  intro l;induction l with
  | nil=>intro a _ h;exact h
  | cons n l ih=>
   intro a hl ha;rw[List.foldl_cons];refine ih _ (fun k hk=>hl k (by simp[hk])) ?_;split
   ·have hn:=hl n zw
    exact Nat.or_lt_two_pow (n:=3) ha (by have:n=0∨n=1∨n=2:=zx;rcases this with rfl | rfl | rfl <;> decide)
   ·exact ha
 exact key pre 0 h zu
def Yfu (f x:Nat)(hf:f<8)(hx:x<3):bits BinOp.or IntKind.u64 (f:Int) (IntKind.u64.wrap<|2 ^ x)=((f ||| 2 ^ x:Nat):Int):=by
 have h1:x=0\/x=1\/x=2:=zx
 have h2:f=0\/f=1\/f=2\/f=3\/f=4\/f=5\/f=6\/f=7:=zx
 rcases h1 with rfl | rfl | rfl <;> rcases h2 with rfl | rfl | rfl | rfl | rfl | rfl | rfl | rfl <;> rfl
end Go.W
namespace Go.P
open Go.RowKit Go.W Go.Shelf
attribute [local go_sem] MZ
def nO {w:World}{q p m:Nat}{cs:Array Value}{at_:List Pt}{gs:List Gt}{S:List Nat}{fs:List (ByteArray×Nat)}{vs:List T}{F:List Nat}{ov:Value}{Fo:List Nat}(h:Ctx w q p m cs at_ gs S fs vs F [] ov Fo)(hl:gs.length<=1){g c:Nat}{sl:ByteArray×Nat}(hg:JL w g sl)(TG:g∈S)(pn:ByteArray)(s:Nat)(hs:s<8)(hb: ∀ n,n∈BR s->n<fs.length)(ha: ∀ n,n∈BR s->(GU [] pn sl<|fs.getD n (⟨#[]⟩,0)).1=true-> ∀ y,y∈gs->WJ (GU [] pn sl<|fs.getD n (⟨#[]⟩,0)).2 vs y):
  Calls prog 253 #[.pointer<|Qb q 0,.agg #[.string pn,.slice (Qb g 0) 1 c],.int .u64 (s:Int)] w fun e w'=>e= .returned (.int .u64 (GJ fs pn sl (BR s):Int))/\ ∃ Aw Aj,Ctx w' q p m cs at_ gs S fs vs F [] Aw Aj/\Off (q::m::Fo) w w'/\ ∀ i,i∈Aj->i∈Fo\/w.heap.size<=i:=by
 obtain⟨po,co,rfl⟩:=h.bd.row.form;have q7:w.cell? ⟨q,7,none⟩=some (.slice po 0 co):=h.bd.cells.2.1;have Dv:=h.bd.blk.lt;have q7': ∀ o1 o2 o3,(((w.alloc o1).alloc o2).alloc o3).cell? ⟨q,7,none⟩=some (.slice po 0 co):=fun o1 o2 o3=>h.bd.cells.2.1▸Am (a:=⟨q,7,none⟩) ((Ah _ _ _ (by simp;omega)).trans<|(Ah _ _ _ (by simp;omega)).trans<|Ah _ _ _ Dv);have H:=AA h;have Dw:=fun(fn:Fn) (first cap:Array Value) (w:World)=>(rfl:(Instr.makeFunc fn first cap).run prog w= .ok (.func fn first cap) w);clear h;refine(callsIn_wide (n:=5)).1 ?_;refine callsIn_of_wp_marks func253 rfl trivial ?_ rfl;simp only[ntmps253,E9,BO,D7,Nat.reduceAdd,Nat.reduceSub,Ju,Jv,Jr,Jt,FK,Gm];obtain⟨W4,hW4⟩: ∃ W4,AC ((((w.alloc<|.cells #[.pointer<|Qb q 0] 329).alloc<|.cells #[.string pn,.slice (Qb g 0) 1 c] 323).alloc<|.cells #[.int .u64 0] 338).alloc (.cells #[.int .i64 0] 3)=W4):=⟨_,⟨rfl⟩⟩;have B4:AC (Bl w W4):=⟨hW4.out▸((((AQ _ w).alloc lr _).alloc zw _).alloc (by simp;omega) _).alloc (by simp;omega) _⟩;have S4:AC (W4.heap.size=w.heap.size+4):=⟨by rw[<- hW4.out];simp⟩;have L0:AJ W4 w.heap.size #[.pointer<|Qb q 0] 329:=hW4.out▸(((AJ.new w _ _).alloc _).alloc _).alloc _;have L1:AJ W4 (w.heap.size+1) #[.string pn,.slice (Qb g 0) 1 c] 323:=hW4.out▸((Jd w _ _ _).alloc _).alloc _;have L2:AJ W4 (w.heap.size+1+1) #[.int .u64 0] 338:=hW4.out▸(UC w _ _ _ _).alloc _;have L3:AJ W4 (w.heap.size+1+1+1) #[.int .i64 0] 3:=hW4.out▸by have:=AJ.new (((w.alloc<|.cells #[.pointer<|Qb q 0] 329).alloc<|.cells #[.string pn,.slice (Qb g 0) 1 c] 323).alloc<|.cells #[.int .u64 0] 338) #[.int .i64 0] 3;rwa [EH,EH,EH]at this
 have HL:=AA<|AF L0<|AF L1<|AF L2 L3;clear L0 L1 L2 L3;gi_wp2
 rw[hW4.out];clear hW4 q7 q7';have eB:=S4.out;have F9:=H.out.bd.lt;have OT:AC (∀ W W' Aw Aj,Ctx W q p m cs at_ gs S fs vs F [] Aw Aj->(∀ i,i∈Aj->i∈Fo\/w.heap.size+6<=i)->Off [W4.heap.size,W4.heap.size+1] W W'->Ctx W' q p m cs at_ gs S fs vs F [] Aw Aj):=⟨fun W W' Aw Aj hc CZ k=>hc.other k fun j hj=>by
  have kW:w.heap.size+4<=j/\j<w.heap.size+6:=by simp at hj;omega
  refine⟨fun h=>?_,fun h=>by have:=H.out.wd.lt j h;omega,fun h=>by have:=H.out.rd.lS j h;omega,AU H.out.gl.2.2 zx⟩;simp only[Be]at h;rcases h with rfl | rfl | h
  ·omega
  ·have:=F9 j zw;omega
  ·rcases CZ j h with h | h
   ·have:=F9 j (by simp[h]);omega
   ·omega⟩
 refine Zd (K:=255) (s:=s) (xs:=BR s) (Z:=U6) rfl (DL func255 zt rfl) (ZV _ s hs) rfl
  (fun pre W=> ∃ Aw Aj,Ctx W q p m cs at_ gs S fs vs F [] Aw Aj/\AJ W w.heap.size #[.pointer<|Qb q 0] 329/\AJ W (w.heap.size+1) #[.string pn,.slice (Qb g 0) 1 c] 323/\AJ W (w.heap.size+1+1) #[.int .u64 (GJ fs pn sl pre:Int)] 338/\AJ W (w.heap.size+1+1+1) #[.int .i64 0] 3/\Off (q::m::Fo) w W/\ ∀ i,i∈Aj->i∈Fo\/w.heap.size+6<=i)
  (fun _ _=>False) (fun _ _ ⟨_,_,hc,_⟩=>hc.gl.1) ?_ (fun _ _ _ h _=>h) ⟨_,Fo,H.out.below B4.out,HL.out.1,HL.out.2.1,HL.out.2.2.1,HL.out.2.2.2,Off.of B4.out,fun _ h=> .inl h⟩
  (fun x=>{tmps:=#[Value.pointer<|Qb q 0,Value.agg #[.string pn,.slice (Qb g 0) 1 c],.int .u64 (s:Int),.pointer<|Qb w.heap.size 0,.pointer<|Qb (w.heap.size+1) 0,undef,.int .u64 0,.pointer<|Qb (w.heap.size+1+1) 0,.pointer<|Qb (w.heap.size+1+1+1) 0,.int .i64 (x:Int),.pointer<|Qb q 0,.pointer<|Qb q 0,.pointer<|Qb q 6,.pointer<|Qb q 7,.slice po 0 co,.int .i64 0,.int .u64 (s:Int),.func (.func 255) #[.int .u64 (s:Int)] #[],.int .i64 (x:Int),undef,undef,undef,undef,undef,undef,undef,undef,undef,undef,undef,undef,undef,undef,undef,undef,undef,undef,undef,undef,undef,undef,undef,undef,undef,undef,undef,undef,undef],defers:=[]}) ?assign ?body ?done (fun _ _ h _=>h.elim)
 ·rintro pre W W' ⟨Aw,Aj,hc,b0,b1,b2,b3,ho,CZ⟩ k;have nn: ∀ j,j<w.heap.size+4->j∉[W4.heap.size,W4.heap.size+1]:=fun j hj=>by simp;omega
  refine⟨Aw,Aj,OT.out W W' _ _ hc CZ k,b0.of<|k.block _ b0.lt<|nn _ zx,b1.of<|k.block _ b1.lt<|nn _ zx,b2.of<|k.block _ b2.lt<|nn _ zx,b3.of<|k.block _ b3.lt<|nn _ zx,ho.trans k fun i hi=>?_,CZ⟩;simp at hi;exact .inr zx
 case assign=>
  intro l x W K hK;gi_wp2
  exact hK
 case body=>
  rintro l pre x rest W hx ⟨Aw,Aj,hc,b0,b1,b2,b3,ho,CZ⟩ hW;have YC:x∈BR s:=by rw[hx];simp
  have Gx:=hb x YC;obtain⟨fx,QY⟩: ∃ fx,fs[x]?=some fx:=⟨_,DK Gx⟩;have hgd:fs.getD x (⟨#[]⟩,0)=fx:=by rw[List.getD_eq_getElem?_getD,QY];rfl
  have ha':=ha x YC;rw[hgd]at ha';have FS:AC (GJ fs pn sl (pre++[x])=if(GU [] pn sl fx).1 then GJ fs pn sl pre ||| 2 ^ x else GJ fs pn sl pre):=⟨by unfold GJ;rw[List.foldl_append,List.foldl_cons,List.foldl_nil,hgd]⟩;obtain⟨k,r,fv,vv,Ff,Fv,hw⟩:=hc.wd;obtain⟨gf,Y0,cs8,G,rfl,kX,⟨_,rfl⟩,key⟩:=hw.facts.nth x fx QY;have p0:=hw.blk.four.1;have zU: ∀ j,j≠7->W.cell? ⟨q,j,none⟩=cs[j]?:=fun j hj=>by
   rw[hc.bd.blk.cell,Bc,if_neg zx]
  have q0:=(zU 0 zx).trans hc.rd.c0;have f0:W.cell? ⟨gf,x*8,none⟩=some (.string fx.1):=key 0 _ rfl;have f1:=key 1 _ rfl;have f2:=key 2 _ rfl;have f3:=key 3 _ rfl;have f4:=key 4 _ rfl;have f5:=key 5 _ rfl;have f6:=key 6 _ rfl;have f7:=key 7 _ rfl;have hgW:JL W g sl:=hg.of ho.size (ho.block g hg.1 fun q=>(H.out.dB g q).2.1 TG);have CM:=AA<|ut (w:=W.drew) (hc.below (AQ _ W).drew).bd (c:=c) (hgW.of (w':=W.drew) lr rfl) pn fx zw;unfold He at CM;have c0:=b0.one.1;have c1:=b1.two.1;have RX:=b1.two.2.1;have hxi:(x:Int)<(fs.length:Int):=zx
  have hpl:=hw.blk.lt;have hpn:p∈F:=by rw[hw.own];simp
  have aR:gf∈F:=by rw[hw.own];simp[kX]
  have IZ:gf<W.heap.size:=hw.new.lt gf (by rw[hw.own];simp[kX]);have eT:(GU [] pn sl fx).2.length<=1:=by
   unfold GU;split
   ·simp
   ·split <;> simp
  generalize GU [] pn sl fx=r at*;have HH:=AA<|AF hc<|AF b0<|AF b1<|AF b2<|AF b3<|AF ho CZ;clear hc b0 b1 b2 b3 ho CZ hw key zU;have hmx:prog.follows .mixedOrders=true:=zt
  obtain⟨rb,rx⟩:=r;dsimp only at CM FS ha' eT;gi_wp2
  have AV:W.drew.cell? ⟨w.heap.size,0,none⟩=some (.pointer<|Qb q 0)/\W.drew.cell? ⟨w.heap.size+1,0,none⟩=some (.string pn)/\W.drew.cell? ⟨w.heap.size+1,1,none⟩=some (.slice (Qb g 0) 1 c)/\W.drew.cell? ⟨q,0,none⟩=some (.pointer<|Qb p 0)/\W.drew.cell? ⟨p,0,none⟩=some (.slice (Qb gf 0) fs.length Y0)/\W.drew.cell? ⟨gf,x*8,none⟩=some (.string fx.1)/\W.drew.cell? ⟨gf,x*8+1,none⟩=some (.int .i64 1)/\W.drew.cell? ⟨gf,x*8+2,none⟩=some (.int .i64 (fx.2:Int))/\W.drew.cell? ⟨gf,x*8+3,none⟩=some (.int .i64 0)/\W.drew.cell? ⟨gf,x*8+4,none⟩=some (.int .i64 0)/\W.drew.cell? ⟨gf,x*8+5,none⟩=some (.int .i64 0)/\W.drew.cell? ⟨gf,x*8+6,none⟩=some (.int .i64 0)/\W.drew.cell? ⟨gf,x*8+7,none⟩=some (.int .i64 0):=⟨c0,c1,RX,q0,p0,f0,f1,f2,f3,f4,f5,f6,f7⟩;refine nX (fun u=>u.cell? ⟨w.heap.size,0,none⟩=some (.pointer<|Qb q 0)/\u.cell? ⟨w.heap.size+1,0,none⟩=some (.string pn)/\u.cell? ⟨w.heap.size+1,1,none⟩=some (.slice (Qb g 0) 1 c)/\u.cell? ⟨q,0,none⟩=some (.pointer<|Qb p 0)/\u.cell? ⟨p,0,none⟩=some (.slice (Qb gf 0) fs.length Y0)/\u.cell? ⟨gf,x*8,none⟩=some (.string fx.1)/\u.cell? ⟨gf,x*8+1,none⟩=some (.int .i64 1)/\u.cell? ⟨gf,x*8+2,none⟩=some (.int .i64 (fx.2:Int))/\u.cell? ⟨gf,x*8+3,none⟩=some (.int .i64 0)/\u.cell? ⟨gf,x*8+4,none⟩=some (.int .i64 0)/\u.cell? ⟨gf,x*8+5,none⟩=some (.int .i64 0)/\u.cell? ⟨gf,x*8+6,none⟩=some (.int .i64 0)/\u.cell? ⟨gf,x*8+7,none⟩=some (.int .i64 0)) hmx (fun⟨_,_,h⟩=>h) zt ?_;refine tk 0 (.pointer<|Qb q 0) AV (hy:=fun u hS=>by obtain⟨s0,s1,s2,s3,s4,s5,s6,s7,s8,s9,sa,sb,sc⟩:=hS;go_simp) ?_;try simp only[zz]
  refine tk 1 (.pointer<|Qb q 0) AV ?_;try simp only[zz]
  refine tk 2 (.pointer<|Qb q 6) AV ?_;try simp only[zz]
  refine tk 3 (.agg #[.string pn,.slice (Qb g 0) 1 c]) AV (hy:=fun u hS=>by obtain⟨s0,s1,s2,s3,s4,s5,s6,s7,s8,s9,sa,sb,sc⟩:=hS;go_simp) ?_;try simp only[zz]
  refine tk 4 (.pointer<|Qb q 0) AV (hy:=fun u hS=>by obtain⟨s0,s1,s2,s3,s4,s5,s6,s7,s8,s9,sa,sb,sc⟩:=hS;go_simp) ?_;try simp only[zz]
  refine tk 5 (.pointer<|Qb q 0) AV ?_;try simp only[zz]
  refine tk 6 (.pointer<|Qb q 0) AV ?_;try simp only[zz]
  refine tk 7 (.pointer<|Qb p 0) AV (hy:=fun u hS=>by obtain⟨s0,s1,s2,s3,s4,s5,s6,s7,s8,s9,sa,sb,sc⟩:=hS;go_simp) ?_;try simp only[zz]
  refine tk 8 (.pointer<|Qb p 0) AV ?_;try simp only[zz]
  refine tk 9 (.pointer<|Qb p 0) AV ?_;try simp only[zz]
  refine tk 10 (.slice (Qb gf 0) fs.length Y0) AV (hy:=fun u hS=>by obtain⟨s0,s1,s2,s3,s4,s5,s6,s7,s8,s9,sa,sb,sc⟩:=hS;go_simp) ?_;try simp only[zz]
  refine tk 11 (.int .i64 (x:Int)) AV ?_;try simp only[zz]
  refine tk 12 (.pointer<|Qb gf<|x*8) AV ?_;try simp only[zz]
  refine tk 13 (.agg #[.string fx.1,.int .i64 1,.int .i64 (fx.2:Int),.int .i64 0,.int .i64 0,.int .i64 0,.int .i64 0,.int .i64 0]) AV (hy:=fun u hS=>by obtain⟨s0,s1,s2,s3,s4,s5,s6,s7,s8,s9,sa,sb,sc⟩:=hS;go_simp) ?_;try simp only[zz]
  refine Eg (rs:=[14]) zt zw<|EG rfl (fun K' hK'=>?_) Eh;go_simp;refine CM.out.mono ?_;rintro e w2 ⟨rfl,dR,F2,hb2,EU,hs2⟩;have C2:=(HH.out.1.below (AQ _ W).drew).step hb2 EU hs2 ⟨rfl,fun _ _=>rfl⟩;have nB: ∀ j,w.heap.size<=j->j<w.heap.size+4->j∉q::m::Aj:=fun j h1 h2 h=>by
   simp only[Be]at h;rcases h with rfl | rfl | h
   ·omega
   ·have:=F9 j zw;omega
   ·rcases HH.out.2.2.2.2.2.2 j h with h | h
    ·have:=F9 j (by simp[h]);omega
    ·omega
  have Ph:p∉q::m::Aj:=fun h=>(HH.out.1.dB p h).1 hpn;have Ua:gf∉q::m::Aj:=fun h=>(HH.out.1.dB gf h).1 aR;have bk: ∀ j,j<W.heap.size->j∉q::m::Aj-> ∀ o,w2.cell? ⟨j,o,none⟩=W.cell? ⟨j,o,none⟩:=fun j hj hn o=>Am (a:=⟨j,o,none⟩) (EU.block j hj hn);have q2:w2.cell? ⟨q,0,none⟩=some (.pointer<|Qb p 0):=by
   rw[C2.bd.blk.cell,Bc,if_neg zx];exact C2.rd.c0
  refine hK'.out _ _ ⟨(bk _ zx (nB _ zx zx) _).trans c0,(bk _ zx (nB _ zx zx) _).trans c1,(bk _ zx (nB _ zx zx) _).trans RX,q2,(bk _ hpl Ph _).trans p0,(bk _ IZ Ua _).trans f0,(bk _ IZ Ua _).trans f1,(bk _ IZ Ua _).trans f2,(bk _ IZ Ua _).trans f3,(bk _ IZ Ua _).trans f4,(bk _ IZ Ua _).trans f5,(bk _ IZ Ua _).trans f6,(bk _ IZ Ua _).trans f7⟩ fun Fz=>?_;try simp only[zz]
  refine tk 15 (.bool rb) Fz ?_;try simp only[zz]
  have Xr:AC (∀ u w5 Ik,(∀ j,j<W.heap.size->j∉q::m::Aj->j≠w.heap.size+1+1->u.heap[j]?=W.heap[j]?)->W.heap.size<=u.heap.size->u.os=W.os/\u.tape=W.tape/\u.output=W.output->AJ u (w.heap.size+1+1) #[.int .u64 (GJ fs pn sl (pre++[x]):Int)] 338->Ctx u q p m cs at_ gs S fs vs F rx dR F2->Bd w5 q 344 6 m cs [] Ik F2->Off (q::m::F2) u w5->uI W4.heap.size W w5/\ ∃ Aw Aj,Ctx w5 q p m cs at_ gs S fs vs F [] Aw Aj/\AJ w5 w.heap.size #[.pointer<|Qb q 0] 329/\AJ w5 (w.heap.size+1) #[.string pn,.slice (Qb g 0) 1 c] 323/\AJ w5 (w.heap.size+1+1) #[.int .u64 (GJ fs pn sl (pre++[x]):Int)] 338/\AJ w5 (w.heap.size+1+1+1) #[.int .i64 0] 3/\Off (q::m::Fo) w w5/\ ∀ i,i∈Aj->i∈Fo\/w.heap.size+6<=i):=⟨fun u w5 Ik ku hsu RP b2u cu bd5 BQ=>by
   obtain⟨hc,b0,b1,b2,b3,ho,CZ⟩:=HH.out;have IG: ∀ j,w.heap.size<=j->j<w.heap.size+6->j∉q::m::Aj:=fun j h1 h2 h=>by
    simp only[Be]at h;rcases h with rfl | rfl | h
    ·omega
    ·have:=F9 j zw;omega
    ·rcases CZ j h with h | h
     ·have:=F9 j (by simp[h]);omega
     ·omega
   have zF: ∀ j,j<W.heap.size->j∉q::m::Aj->j∉q::m::F2:=fun j hj hn h=>by
    simp only[Be,not_or]at h hn;rcases h with h | h | h
    ·exact hn.1 h
    ·exact hn.2.1 h
    ·rcases hs2 j h with h | h
     ·exact hn.2.2 h
     ·have h:W.heap.size<=j:=h;omega
   have k5: ∀ j,j<W.heap.size->j∉q::m::Aj->j≠w.heap.size+1+1->w5.heap[j]?=W.heap[j]?:=fun j hj hn h2=>(BQ.block j zx<|zF j hj hn).trans (ku j hj hn h2);have S8:W4.heap.size<W.heap.size/\W4.heap.size+1<W.heap.size:=⟨zx,zx⟩;refine⟨⟨k5 _ S8.1 (IG _ zx zx) zx,k5 _ S8.2 (IG _ zx zx) zx⟩,Ik,F2,cu.step bd5 BQ (fun _ h=> .inl h) ⟨rfl,fun _ _=>rfl⟩,b0.of<|k5 _ b0.lt (IG _ zx zx) zx,b1.of<|k5 _ b1.lt (IG _ zx zx) zx,b2u.of<|BQ.block _ b2u.lt<|zF _ b2.lt<|IG _ zx zx,b3.of<|k5 _ b3.lt (IG _ zx zx) zx,⟨BQ.os.trans<|RP.1.trans ho.os,BQ.tape.trans<|RP.2.1.trans ho.tape,BQ.output.trans<|RP.2.2.trans ho.output,AU ho.size<|AU hsu BQ.size,fun j hj hn=>?_⟩,fun i hi=>?_⟩
   ·have YW:j∉q::m::Aj:=fun h=>by
     simp only[Be,not_or]at h hn;rcases h with h | h | h
     ·exact hn.1 h
     ·exact hn.2.1 h
     ·rcases CZ j h with h | h
      ·exact hn.2.2 h
      ·omega
    exact(k5 j (Ba hj ho.size) YW zx).trans<|ho.block j hj hn
   ·rcases hs2 i hi with h | h
    ·exact CZ i h
    ·have h:W.heap.size<=i:=h;exact .inr zx⟩
  cases rb with
  | false=>
   refine wpAnyH_take (i:=16) (v:=undef) rfl zt zt zt (fun _ _ _ h=>h) (Or.inr ⟨by rfl,rfl⟩) Fz ?_;try simp only[zz]
   refine wpAnyH_take (i:=17) (v:=undef) rfl zt zt zt (fun _ _ _ h=>h) (Or.inr ⟨by rfl,rfl⟩) Fz ?_;try simp only[zz]
   refine tk 18 (.bool false) Fz ?_;try simp only[zz]
   refine Lp zt ?_ _;gi_wp2
   have KU: ∀ j,j<W.heap.size->j∉q::m::Aj->j≠w.heap.size+1+1->w2.heap[j]?=W.heap[j]?:=fun j hj hn _=>EU.block j hj hn;have Sj:W.heap.size<=w2.heap.size:=EU.size;have qd:w2.os=W.os/\w2.tape=W.tape/\w2.output=W.output:=⟨EU.os,EU.tape,EU.output⟩;have CU:=C2;have yK:AJ w2 (w.heap.size+1+1) #[.int .u64 (GJ fs pn sl (pre++[x]):Int)] 338:=by
    have:=HH.out.2.2.2.1.of<|EU.block _ HH.out.2.2.2.1.lt<|nB _ zx zx
    rw[FS.out];exact this
   have G9:(w2).drew.cell? ⟨w.heap.size,0,none⟩=some (.pointer<|Qb q 0)/\(w2).drew.cell? ⟨w.heap.size+1+1+1,0,none⟩=some (.int .i64 0):=⟨(Am (a:=⟨w.heap.size,0,none⟩)<|KU w.heap.size zx (nB _ zx zx) zx).trans c0,(Am (a:=⟨w.heap.size+1+1+1,0,none⟩)<|KU (w.heap.size+1+1+1) zx (nB _ zx zx) zx).trans HH.out.2.2.2.2.1.one.1⟩;refine nX (fun u=>u.cell? ⟨w.heap.size,0,none⟩=some (.pointer<|Qb q 0)/\u.cell? ⟨w.heap.size+1+1+1,0,none⟩=some (.int .i64 0)) hmx (fun⟨_,_,h⟩=>h) zt ?_;refine tk 0 (.pointer<|Qb q 0) G9 (hy:=fun u hS=>by obtain⟨s0,s1⟩:=hS;go_simp) ?_;try simp only[zz]
   refine tk 1 (.pointer<|Qb q 0) G9 ?_;try simp only[zz]
   refine tk 2 (.pointer<|Qb q 6) G9 ?_;try simp only[zz]
   refine tk 3 (.int .i64 0) G9 (hy:=fun u hS=>by obtain⟨s0,s1⟩:=hS;go_simp) ?_;try simp only[zz]
   refine Eg (rs:=[4]) zt zw<|EG rfl (fun K' hK'=>?_) Eh;go_simp;refine(jG (CU.below (AQ _ _).drew).bd eT).mono ?_;rintro e w5 ⟨rfl,Ik,Yn,BQ⟩;have FO:=Xr.out _ w5 Ik KU Sj qd yK CU Yn ⟨BQ.os,BQ.tape,BQ.output,BQ.size,BQ.block⟩;refine hK'.out _ _ ⟨FO.2.choose_spec.choose_spec.2.1.one.1,FO.2.choose_spec.choose_spec.2.2.2.2.1.one.1⟩ fun _=>?_;try simp only[zz]
   refine Lp zt ?_ _;exact FO
  | true=>
   refine tk 16 (.pointer<|Qb q 0) Fz (hy:=fun u hS=>by obtain⟨s0,s1,s2,s3,s4,s5,s6,s7,s8,s9,sa,sb,sc⟩:=hS;go_simp) ?_;try simp only[zz]
   refine Eg (rs:=[17]) zt zw<|EG rfl (fun K' hK'=>?_) Eh;go_simp;refine(wR C2 hl<|ha' rfl).mono ?_;rintro e w3 ⟨rfl,hb3⟩;obtain⟨s0,s1,s2,s3,s4,s5,s6,s7,s8,s9,sa,sb,sc⟩:=Fz;have hp2:=Ba hpl EU.size;have hf2:=Ba IZ EU.size;refine hK'.out _ _ ⟨Aq s0 hb3,Aq s1 hb3,Aq s2 hb3,Aq s3 hb3,Aq s4 hb3,Aq s5 hb3,Aq s6 hb3,Aq s7 hb3,Aq s8 hb3,Aq s9 hb3,Aq sa hb3,Aq sb hb3,Aq sc hb3⟩ fun Pm=>?_;try simp only[zz]
   refine tk 18 (.bool true) Pm ?_;try simp only[zz]
   refine Lp zt ?_ _;have hw3:w.heap.size+1+1<w2.heap.size:=by have:W.heap.size<=w2.heap.size:=EU.size;omega
   have z2:=(hb3.block (w.heap.size+1+1) hw3).trans<|EU.block (w.heap.size+1+1) HH.out.2.2.2.1.lt<|nB _ zx zx;have Y9:AJ w3 (w.heap.size+1+1) _ _:=HH.out.2.2.2.1.of z2;obtain⟨d0,ds⟩:=Y9.one;have hx3:x<3:=Nq YC;have kP:=Yfu (GJ fs pn sl pre) x (Uu fs pn sl (pre:=pre) fun n hn=>Nq (s:=s) (by rw[hx];simp[hn])) hx3;have E2:AC (GJ fs pn sl (pre++[x])=GJ fs pn sl pre ||| 2 ^ x):=⟨FS.out.trans<|if_pos rfl⟩;clear FS;generalize GJ fs pn sl pre=fv at*;generalize fv ||| 2 ^ x=Uh at*;gi_wp2
   gi_region
   all_goals
    have KU: ∀ j,j<W.heap.size->j∉q::m::Aj->j≠w.heap.size+1+1->((w3.setCell ⟨w.heap.size+1+1,0,none⟩<|.int .u64 (Uh:Int)).drew).heap[j]?=W.heap[j]?:=fun j hj hn h2=>(Au w3 ⟨w.heap.size+1+1,0,none⟩ _ j h2).trans ((hb3.block j<|Ba hj EU.size).trans<|EU.block j hj hn);have Sj:W.heap.size<=((w3.setCell ⟨w.heap.size+1+1,0,none⟩<|.int .u64 (Uh:Int)).drew).heap.size:=by have h1:W.heap.size<=w2.heap.size:=EU.size;have:=hb3.size;simp[World.setCell];omega
    have qd:((w3.setCell ⟨w.heap.size+1+1,0,none⟩<|.int .u64 (Uh:Int)).drew).os=W.os/\((w3.setCell ⟨w.heap.size+1+1,0,none⟩<|.int .u64 (Uh:Int)).drew).tape=W.tape/\((w3.setCell ⟨w.heap.size+1+1,0,none⟩<|.int .u64 (Uh:Int)).drew).output=W.output:=⟨hb3.os.trans EU.os,hb3.tape.trans EU.tape,hb3.output.trans EU.output⟩;have CU:=((C2.below hb3).other (G:=[w.heap.size+1+1]) ((Off.refl _ w3).set (w.heap.size+1+1) 0 (.int .u64 (Uh:Int)) zw) (fun j hj=>by
     have ej:=MX.1 hj;subst ej;refine⟨fun h=>?_,fun h=>by have:=H.out.wd.lt _ h;omega,fun h=>by have:=H.out.rd.lS _ h;omega,AU H.out.gl.2.2 (show w.heap.size<=w.heap.size+1+1 by omega)⟩;simp only[Be]at h;rcases h with h | h | h
     ·omega
     ·have:=F9 m zw;omega
     ·rcases hs2 _ h with h | h
      ·exact nB (w.heap.size+1+1) zx zx (by simp[h])
      ·have h:W.heap.size<=w.heap.size+1+1:=h
       omega)).below (AQ _ _).drew
    have yK:AJ (w3.setCell ⟨w.heap.size+1+1,0,none⟩<|.int .u64 (Uh:Int)).drew (w.heap.size+1+1) #[.int .u64 (GJ fs pn sl (pre++[x]):Int)] 338:=by rw[E2.out];exact Y9.set 0 (.int .u64 (Uh:Int))
    gi_wp2
    have G9:((w3.setCell ⟨w.heap.size+1+1,0,none⟩<|.int .u64 (Uh:Int)).drew).drew.cell? ⟨w.heap.size,0,none⟩=some (.pointer<|Qb q 0)/\((w3.setCell ⟨w.heap.size+1+1,0,none⟩<|.int .u64 (Uh:Int)).drew).drew.cell? ⟨w.heap.size+1+1+1,0,none⟩=some (.int .i64 0):=⟨(Am (a:=⟨w.heap.size,0,none⟩)<|KU w.heap.size zx (nB _ zx zx) zx).trans c0,(Am (a:=⟨w.heap.size+1+1+1,0,none⟩)<|KU (w.heap.size+1+1+1) zx (nB _ zx zx) zx).trans HH.out.2.2.2.2.1.one.1⟩;refine nX (fun u=>u.cell? ⟨w.heap.size,0,none⟩=some (.pointer<|Qb q 0)/\u.cell? ⟨w.heap.size+1+1+1,0,none⟩=some (.int .i64 0)) hmx (fun⟨_,_,h⟩=>h) zt ?_;refine tk 0 (.pointer<|Qb q 0) G9 (hy:=fun u hS=>by obtain⟨s0,s1⟩:=hS;go_simp) ?_;try simp only[zz]
    refine tk 1 (.pointer<|Qb q 0) G9 ?_;try simp only[zz]
    refine tk 2 (.pointer<|Qb q 6) G9 ?_;try simp only[zz]
    refine tk 3 (.int .i64 0) G9 (hy:=fun u hS=>by obtain⟨s0,s1⟩:=hS;go_simp) ?_;try simp only[zz]
    refine Eg (rs:=[4]) zt zw<|EG rfl (fun K' hK'=>?_) Eh;go_simp;refine(jG (CU.below (AQ _ _).drew).bd eT).mono ?_;rintro e w5 ⟨rfl,Ik,Yn,BQ⟩;have FO:=Xr.out _ w5 Ik KU Sj qd yK CU Yn ⟨BQ.os,BQ.tape,BQ.output,BQ.size,BQ.block⟩;refine hK'.out _ _ ⟨FO.2.choose_spec.choose_spec.2.1.one.1,FO.2.choose_spec.choose_spec.2.2.2.2.1.one.1⟩ fun _=>?_;try simp only[zz]
    refine Lp zt ?_ _;exact FO
 case done=>
  rintro W ⟨Aw,Aj,hc,b0,b1,b2,b3,ho,CZ⟩ hD;have d2:=AJ.cell b2 0;simp at d2;have Do:=AA<|AF hc<|AF ho CZ;clear hc b0 b1 b2 b3 ho CZ;gi_wp2
  refine⟨zw,.inl ⟨_,_,rfl,run_takeDeferred hD,?_⟩⟩;have k:Off [W4.heap.size,W4.heap.size+1] W (W.putObj W4.heap.size<|.deferred none):=Off.putObj _ zw;refine⟨_,results_tmp rfl _ _ _,rfl,Aw,Aj,OT.out _ _ _ _ Do.out.1 Do.out.2.2 k,Do.out.2.1.trans k fun i hi=>?_,fun i hi=>(Do.out.2.2 i hi).imp id zx⟩;simp at hi;exact .inr zx
end Go.P
namespace Go.P
variable {w:World}{q p m n:Nat}{cs:Array Value}{at_:List Pt}{gs:List Gt}{S F Fo:List Nat}{fs xs:List (ByteArray×Nat)}{vs:List T}{ov:Value}{fx:ByteArray×Nat}
def Ctx.cell (h:Ctx w q p m cs at_ gs S fs vs F xs ov Fo)(j:Nat)(hj:j≠7):w.cell? ⟨q,j,none⟩=cs[j]?:=by
 rw[h.bd.blk.cell,Bc,if_neg zx]
def Ctx.fact (h:Ctx w q p m cs at_ gs S fs vs F xs ov Fo)(hf:fs[n]?=some fx): ∃ gf cf,w.cell? ⟨p,0,none⟩=some (.slice (Qb gf 0) fs.length cf)/\p∈F/\gf∈F/\w.cell? ⟨gf,n*8,none⟩=some (.string fx.1)/\w.cell? ⟨gf,n*8+1,none⟩=some (.int .i64 1)/\w.cell? ⟨gf,n*8+2,none⟩=some (.int .i64 (fx.2:Int))/\w.cell? ⟨gf,n*8+3,none⟩=some (.int .i64 0)/\w.cell? ⟨gf,n*8+4,none⟩=some (.int .i64 0)/\w.cell? ⟨gf,n*8+5,none⟩=some (.int .i64 0)/\w.cell? ⟨gf,n*8+6,none⟩=some (.int .i64 0)/\w.cell? ⟨gf,n*8+7,none⟩=some (.int .i64 0):=by
 obtain⟨k,r,fv,vv,Ff,Fv,hw⟩:=h.wd;obtain⟨gf,cf,cs8,G,rfl,kX,⟨_,rfl⟩,key⟩:=hw.facts.nth n fx hf;exact⟨gf,cf,hw.blk.four.1,by rw[hw.own];simp,by rw[hw.own];simp[kX],key 0 _ rfl,key 1 _ rfl,key 2 _ rfl,key 3 _ rfl,key 4 _ rfl,key 5 _ rfl,key 6 _ rfl,key 7 _ rfl⟩
def Zos (h:Ctx w q p m cs at_ gs S fs vs F [] ov Fo){i seen:Nat}{x:Pt}(hx:at_[i]?=some x)(hi:i+1=at_.length)(h4:at_.length<=4)(hn:fs[n]?=some fx):
  Calls prog 256 #[.pointer<|Qb q 0,.int .i64 (i:Int),.int .i64 (n:Int),.int .i64 (seen:Int)] w fun e w'=>e= .returned (.tuple #[])/\ ∃ Aw Aj,Ctx w' q p m cs at_ gs S fs vs F [] Aw Aj/\Off (q::m::Fo) w w'/\ ∀ i,i∈Aj->i∈Fo\/w.heap.size<=i:=by
 obtain⟨pa,ca,c3,hA⟩:=h.rd.atoms;obtain⟨ga,g,c,rfl,EZ,TG,a0,a1,Md⟩:=hA i x hx;obtain⟨gf,cf,p0,Ph,FV,f0,f1,f2,f3,f4,f5,f6,f7⟩:=h.fact hn;have q0:=(h.cell 0 zx).trans h.rd.c0;have q3:=(h.cell 3 zx).trans c3;have hil:(i:Int)<(at_.length:Int):=zx
 have M9:(n:Int)<(fs.length:Int):=by have:=(Gl.1 hn).1;omega
 have qj: ¬ ((i:Int)+1<(at_.length:Int)):=zx
 have hi4:(i:Int)<4:=zx
 have CM:=AA<|ut (w:=w.drew) (h.below (AQ _ w).drew).bd (c:=c) (Md.of (w':=w.drew) lr rfl) x.1 fx zw;have eT:(GU [] x.1 x.2 fx).2.length<=1:=by
  unfold GU;split
  ·simp
  ·split <;> simp
 unfold He at CM;have H:=AA h;clear h hA;go_in
 go_wp2
 go_region_held3 (fun u=>u.cell? ⟨q,0,none⟩=some (.pointer<|Qb p 0)/\u.cell? ⟨q,3,none⟩=some (.slice (Qb ga 0) at_.length ca)/\u.cell? ⟨ga,i*2,none⟩=some (.string x.1)/\u.cell? ⟨ga,i*2+1,none⟩=some (.slice (Qb g 0) 1 c)/\u.cell? ⟨p,0,none⟩=some (.slice (Qb gf 0) fs.length cf)/\u.cell? ⟨gf,n*8,none⟩=some (.string fx.1)/\u.cell? ⟨gf,n*8+1,none⟩=some (.int .i64 1)/\u.cell? ⟨gf,n*8+2,none⟩=some (.int .i64 (fx.2:Int))/\u.cell? ⟨gf,n*8+3,none⟩=some (.int .i64 0)/\u.cell? ⟨gf,n*8+4,none⟩=some (.int .i64 0)/\u.cell? ⟨gf,n*8+5,none⟩=some (.int .i64 0)/\u.cell? ⟨gf,n*8+6,none⟩=some (.int .i64 0)/\u.cell? ⟨gf,n*8+7,none⟩=some (.int .i64 0)) (first | exact⟨q0,q3,a0,a1,p0,f0,f1,f2,f3,f4,f5,f6,f7⟩ | exact S2) (first
  | (go_at_call 282;refine CM.out.mono ?_;rintro e w2 ⟨rfl,dR,F2,hb2,EU,hs2⟩;have C2:=(H.out.below (AQ _ w).drew).step hb2 EU hs2 ⟨rfl,fun _ _=>rfl⟩;have bk: ∀ j,j<w.heap.size->j∉q::m::Fo-> ∀ o,w2.cell? ⟨j,o,none⟩=w.cell? ⟨j,o,none⟩:=(fun j hj hn o=>Am (a:=⟨j,o,none⟩) (EU.block j hj hn));have nS: ∀ j,j∈S->j∉q::m::Fo:=(fun j hj h=>(H.out.dB j h).2.1 hj);have nF: ∀ j,j∈F->j∉q::m::Fo:=(fun j hj h=>(H.out.dB j h).1 hj);have lS:=H.out.rd.lS;have lF:=H.out.wd.lt;have S2:=AF ((C2.cell 0 zx).trans C2.rd.c0)<|AF ((C2.cell 3 zx).trans c3)<|AF ((bk ga (lS _ EZ) (nS _ EZ) _).trans a0)<|AF ((bk ga (lS _ EZ) (nS _ EZ) _).trans a1)<|AF ((bk p (lF _ Ph) (nF _ Ph) _).trans p0)<|AF ((bk gf (lF _ FV) (nF _ FV) _).trans f0)<|AF ((bk gf (lF _ FV) (nF _ FV) _).trans f1)<|AF ((bk gf (lF _ FV) (nF _ FV) _).trans f2)<|AF ((bk gf (lF _ FV) (nF _ FV) _).trans f3)<|AF ((bk gf (lF _ FV) (nF _ FV) _).trans f4)<|AF ((bk gf (lF _ FV) (nF _ FV) _).trans f5)<|AF ((bk gf (lF _ FV) (nF _ FV) _).trans f6)<|(bk gf (lF _ FV) (nF _ FV) _).trans f7))
 have aD:=S2.2.1;have FF:=AA<|AF C2<|AF EU hs2;have CF:=AA<|jG C2.bd eT;clear S2 C2 hb2 EU hs2 bk nS nF lS lF q0 q3 a0 a1 p0 f0 f1 f2 f3 f4 f5 f6 f7 CM;go_wp2
 refine Dt 1 ?_;rw[A8];go_wp2_with fail
 refine CF.out.mono ?_;rintro e w5 ⟨rfl,Ik,Bf,BQ⟩;have FO:=AA<|AF (FF.out.1.step Bf BQ (fun _ h=> .inl h) ⟨rfl,fun _ _=>rfl⟩)<|AF ((Off.of (F:=q::m::Fo) (AQ _ w).drew).trans (FF.out.2.1.trans BQ fun i hi=>by
  simp only[Be]at hi⊢;rcases hi with h | h | h
  ·exact .inl<|.inl h
  ·exact .inl<|.inr<|.inl h
  ·exact(FF.out.2.2 i h).imp (fun h=> .inr (.inr h)) id) fun _ h=> .inl h) FF.out.2.2
 clear Bf BQ CF FF;go_wp2
 go_end0
 exact⟨rfl,Ik,F2,FO.out.1,FO.out.2.1,FO.out.2.2⟩
end Go.P
namespace Go.W
def Z4n (a b:Nat)(ha:a<8)(hb:b<8):bits BinOp.and IntKind.u64 (a:Int) (b:Int)=((a &&& b:Nat):Int):=by
 have h1:a=0\/a=1\/a=2\/a=3\/a=4\/a=5\/a=6\/a=7:=zx
 have h2:b=0\/b=1\/b=2\/b=3\/b=4\/b=5\/b=6\/b=7:=zx
 rcases h1 with rfl | rfl | rfl | rfl | rfl | rfl | rfl | rfl <;> rcases h2 with rfl | rfl | rfl | rfl | rfl | rfl | rfl | rfl <;> rfl
end Go.W
namespace Go.P
variable {n:Nat}
section
variable {w:World} {q p m:Nat} {cs:Array Value} {at_:List Pt} {x x1:Pt} {gs:List Gt} {S:List Nat} {fs:List (ByteArray×Nat)} {vs:List T} {F:List Nat} {xs:List (ByteArray×Nat)} {ov:Value} {Fo:List Nat}
def Zlq (h:Ctx w q p m cs at_ gs S fs vs F xs ov Fo)(h4:at_.length<=4){i:Nat}(hi:i+1=at_.length)(l0 l1 l2 l3:Nat):
  Calls prog 260 #[.pointer<|Qb q 0,.agg #[.int .u64 (l0:Int),.int .u64 (l1:Int),.int .u64 (l2:Int),.int .u64 (l3:Int)],.int .i64 (i:Int),.int .i64 (n:Int)] w fun e w'=>e= .returned (.tuple #[.agg #[.int .u64 (l0:Int),.int .u64 (l1:Int),.int .u64 (l2:Int),.int .u64 (l3:Int)],.bool true])/\Bl w w':=by
 obtain⟨pa,ca,c3,hA⟩:=h.rd.atoms;have q3:=(h.cell 3 zx).trans c3;have Dv:=h.bd.blk.lt;have hi4:(i:Int)<4:=zx
 have qj: ¬ ((i:Int)+1<(at_.length:Int)):=zx
 have B2: ∀ o o',Bl w ((w.alloc o).alloc o'):=fun o o'=>((AQ _ w).alloc lr o).alloc zw o';have aD: ∀ o o',((w.alloc o).alloc o').cell? ⟨q,3,none⟩=some (.slice pa at_.length ca):=fun o o'=>(Am (a:=⟨q,3,none⟩)<|(B2 o o').block q Dv).trans q3;clear h hA;go_in
 go_wp2
 refine Dt 1 ?_;rw[A8];go_wp2
 refine CQ (by simp[results,results260,go_sem];try rfl) rfl ?_;exact⟨rfl,B2 _ _⟩
def Zwk (h:Ctx w q p m cs [x,x1] gs S fs vs F xs ov Fo){b:Nat}(hn:n<60)(cb:cs[12+n*4+1]?=some (.int .u64 (b:Int)))(Gq:b<8)(l0 l1 l2 l3:Nat)(h1:l1<8)(hz:l1 &&& b≠0):
  Calls prog 260 #[.pointer<|Qb q 0,.agg #[.int .u64 (l0:Int),.int .u64 (l1:Int),.int .u64 (l2:Int),.int .u64 (l3:Int)],.int .i64 0,.int .i64 (n:Int)] w fun e w'=>e= .returned (.tuple #[.agg #[.int .u64 (l0:Int),.int .u64 ((l1 &&& b:Nat):Int),.int .u64 (l2:Int),.int .u64 (l3:Int)],.bool true])/\Bl w w':=by
 obtain⟨pa,ca,c3,hA⟩:=h.rd.atoms;simp only[BO,D7,Hr]at c3;have q3:=(h.cell 3 zx).trans c3;have qb:=(h.cell (12+n*4+1) zx).trans cb;have Dv:=h.bd.blk.lt;have qY:(n:Int)<60:=zx
 have hand:=Z4n l1 b h1 Gq;obtain⟨r,hr⟩: ∃ r,l1 &&& b=r:=⟨_,rfl⟩;rw[hr]at hand hz⊢;have pq:((r:Int)==0)=false:=by rw[BK];omega
 obtain⟨W2,hW2⟩: ∃ W2,AC ((w.alloc<|.cells #[.int .u64 (l0:Int),.int .u64 (l1:Int),.int .u64 (l2:Int),.int .u64 (l3:Int)] 340).alloc (.cells #[.int .u64 0,.int .u64 0,.int .u64 0,.int .u64 0] 340)=W2):=⟨_,⟨rfl⟩⟩;have B2:AC (Bl w W2):=⟨hW2.out▸((AQ _ w).alloc lr _).alloc zw _⟩;have L0:AC (AJ W2 w.heap.size #[.int .u64 (l0:Int),.int .u64 (l1:Int),.int .u64 (l2:Int),.int .u64 (l3:Int)] 340):=⟨hW2.out▸(AJ.new w _ _).alloc _⟩;have L1:AC (AJ W2 (w.heap.size+1) #[.int .u64 0,.int .u64 0,.int .u64 0,.int .u64 0] 340):=⟨hW2.out▸Jd w _ _ _⟩;obtain⟨a0,a1,a2,a3,sa⟩:=L0.out.four;obtain⟨d0,d1,d2,d3,sd⟩:=L1.out.four;have aD:=(Am (a:=⟨q,3,none⟩)<|B2.out.block q Dv).trans q3;have qb':=(Am (a:=⟨q,12+n*4+1,none⟩)<|B2.out.block q Dv).trans qb;have YR:q≠w.heap.size:=zx
 have hq2:w.heap.size≠q:=zx
 clear h hA hr;go_in
 go_wp2_with fail
 rw[hW2.out];clear hW2;refine Dt 2 ?_;rw[A8];go_wp2
 go_region
 all_goals
  go_wp2_with fail
  rw[A8];go_wp2
  refine CQ (by simp[results,results260,go_sem,d0,d1,d2,d3];try rfl) rfl ?_;have e1:w.heap.size<=w.heap.size+1:=zx
  exact⟨rfl,(((((B2.out.setCell (p:=⟨w.heap.size,1,none⟩) lr _).setCell (p:=⟨w.heap.size+1,0,none⟩) e1 _).setCell (p:=⟨w.heap.size+1,1,none⟩) e1 _).setCell (p:=⟨w.heap.size+1,2,none⟩) e1 _).setCell (p:=⟨w.heap.size+1,3,none⟩) e1 _).drew⟩
end
end Go.P
namespace Go.P
section
variable {w:World} {q p m:Nat} {cs:Array Value} {at_:List Pt} {gs:List Gt} {S:List Nat} {fs:List (ByteArray×Nat)} {vs:List T} {F:List Nat} {xs:List (ByteArray×Nat)} {ov:Value} {Fo:List Nat}
def ZQ (w:World) (q b v:Nat):Prop:=AJ w b #[.pointer<|Qb q 0] 329/\AJ w v #[.func (.func 259) #[] #[.pointer<|Qb b 0,.pointer<|Qb v 0]] 381
def Z1g (h:Ctx w q p m cs at_ gs S fs vs F xs ov Fo){b v:Nat}(hw:ZQ w q b v)(l0 l1 l2 l3:Nat):
  Calls prog 259 #[.int .i64 (at_.length:Int),.agg #[.int .u64 (l0:Int),.int .u64 (l1:Int),.int .u64 (l2:Int),.int .u64 (l3:Int)],.pointer<|Qb b 0,.pointer<|Qb v 0] w fun e w'=>e= .returned (.bool true)/\Bl w w':=by
 obtain⟨pa,ca,c3,hA⟩:=h.rd.atoms;have q3:=(h.cell 3 zx).trans c3;have Dv:=h.bd.blk.lt;have b0:=hw.1.one.1;have hbl:=hw.1.lt;have B3: ∀ o1 o2 o3,Bl w (((w.alloc o1).alloc o2).alloc o3):=fun o1 o2 o3=>(((AQ _ w).alloc lr o1).alloc zw o2).alloc (by simp;omega) o3;have aD: ∀ o1 o2 o3,(((w.alloc o1).alloc o2).alloc o3).cell? ⟨q,3,none⟩=some (.slice pa at_.length ca):=fun o1 o2 o3=>(Am (a:=⟨q,3,none⟩)<|(B3 o1 o2 o3).block q Dv).trans q3;have au: ∀ o1 o2 o3,(((w.alloc o1).alloc o2).alloc o3).cell? ⟨b,0,none⟩=some (.pointer<|Qb q 0):=fun o1 o2 o3=>(Am (a:=⟨b,0,none⟩)<|(B3 o1 o2 o3).block b hbl).trans b0;clear h hA hw;refine(callsIn_wide (n:=5)).1 ?_;refine callsIn_of_wp_marks func259 rfl trivial ?_ rfl;simp only[ntmps259,E9,BO,D7,Nat.reduceAdd,Nat.reduceSub,Ju,Jv,Jr,Jt,FK,Gm];refine wpIn_wide.2 ?_;go_wp2
 go_quiet (fail)
 go_wp2
 exact⟨.bool true,by simp[results,results259,go_sem],rfl,(KR<|B3 _ _ _).setCell (p:=⟨w.heap.size+1+1,0,none⟩) (by show w.heap.size<=w.heap.size+1+1;omega) _⟩
end
end Go.P
namespace Go.P
open Go.RowKit Go.W Go.Shelf
attribute [local go_sem] MZ
def ui {w:World}{q p m:Nat}{cs:Array Value}{at_:List Pt}{gs:List Gt}{S:List Nat}{fs:List (ByteArray×Nat)}{vs:List T}{F:List Nat}{xs:List (ByteArray×Nat)}{ov:Value}{Fo:List Nat}(h:Ctx w q p m cs at_ gs S fs vs F xs ov Fo){b v:Nat}(hw:ZQ w q b v)(h4:at_.length<=4){k s n:Nat}{rest:List Nat}(l0 l1 l2 l3 m0 m1 m2 m3:Nat)(rR:k=0/\s=l0\/k=1/\s=l1)(hk:k<at_.length)(hs:s<8)(hn:BR s=n::rest)
  (CN: ∀ u,Bl w u->Calls prog 260 #[.pointer<|Qb q 0,.agg #[.int .u64 (l0:Int),.int .u64 (l1:Int),.int .u64 (l2:Int),.int .u64 (l3:Int)],.int .i64 (k:Int),.int .i64 (n:Int)] u fun e w'=>e= .returned (.tuple #[.agg #[.int .u64 (m0:Int),.int .u64 (m1:Int),.int .u64 (m2:Int),.int .u64 (m3:Int)],.bool true])/\Bl u w')
  (CW: ∀ u,Bl w u->Calls prog 259 #[.int .i64 ((k+1:Nat):Int),.agg #[.int .u64 (m0:Int),.int .u64 (m1:Int),.int .u64 (m2:Int),.int .u64 (m3:Int)],.pointer<|Qb b 0,.pointer<|Qb v 0] u fun e w'=>e= .returned (.bool true)/\Bl u w'):
  Calls prog 259 #[.int .i64 (k:Int),.agg #[.int .u64 (l0:Int),.int .u64 (l1:Int),.int .u64 (l2:Int),.int .u64 (l3:Int)],.pointer<|Qb b 0,.pointer<|Qb v 0] w fun e w'=>e= .returned (.bool true)/\Bl w w':=by
 obtain⟨pa,ca,c3,hA⟩:=h.rd.atoms;have q3:=(h.cell 3 zx).trans c3;have Dv:=h.bd.blk.lt;have b0:=hw.1.one.1;have hbl:=hw.1.lt;have ne:((k:Int)==(at_.length:Int))=false:=by rw[BK];omega
 have hk4:(k:Int)<4:=zx
 have HN:=AA CN;have HW:=AA CW;have xZ:=AA hw;have HG:=AA h.gl;clear CN CW h hA hw;obtain⟨W3,hW3⟩: ∃ W3,AC (((w.alloc<|.cells #[.int .i64 (k:Int)] 3).alloc<|.cells #[.int .u64 (l0:Int),.int .u64 (l1:Int),.int .u64 (l2:Int),.int .u64 (l3:Int)] 340).alloc (.cells #[.bool false] 4)=W3):=⟨_,⟨rfl⟩⟩;have B3:AC (Bl w W3):=⟨hW3.out▸(((AQ _ w).alloc lr _).alloc zw _).alloc (by simp;omega) _⟩;have S3:AC (W3.heap.size=w.heap.size+3):=⟨by rw[<- hW3.out];simp⟩;have L0:AC (AJ W3 w.heap.size #[.int .i64 (k:Int)] 3):=⟨hW3.out▸((AJ.new w _ _).alloc _).alloc _⟩;have L1:AC (AJ W3 (w.heap.size+1) #[.int .u64 (l0:Int),.int .u64 (l1:Int),.int .u64 (l2:Int),.int .u64 (l3:Int)] 340):=⟨hW3.out▸(Jd w _ _ _).alloc _⟩;have L2:AC (AJ W3 (w.heap.size+1+1) #[.bool false] 4):=⟨hW3.out▸UC w _ _ _ _⟩;have y0:=L0.out.one.1;obtain⟨y1,y2,y3,y4,ys⟩:=L1.out.four;have yk:W3.cell? ⟨w.heap.size+1,k,none⟩=some (.int .u64 (s:Int)):=by
  rcases rR with⟨rfl,rfl⟩ | ⟨rfl,rfl⟩
  ·exact y1
  ·exact y2
 have Dw:=fun(fn:Fn) (first cap:Array Value) (w:World)=>(rfl:(Instr.makeFunc fn first cap).run prog w= .ok (.func fn first cap) w);have aD:=(Am (a:=⟨q,3,none⟩)<|B3.out.block q Dv).trans q3;have au:=(Am (a:=⟨b,0,none⟩)<|B3.out.block b hbl).trans b0;clear q3 b0;refine(callsIn_wide (n:=5)).1 ?_;refine callsIn_of_wp_marks func259 rfl trivial ?_ rfl;simp only[ntmps259,E9,BO,D7,Nat.reduceAdd,Nat.reduceSub,Ju,Jv,Jr,Jt,FK,Gm];refine wpIn_wide.2 ?_;go_wp2_with fail
 rw[hW3.out];clear hW3;go_quiet (fail)
 go_wp2_with fail
 have eB:=S3.out;have BL:AC (∀ W W',Bl w W->Off [W3.heap.size,W3.heap.size+1] W W'->Bl w W'):=⟨fun W W' hB k=>hB.trans (k.below (fun i hi=>by simp at hi;omega) hB.size)⟩;have hen: ∀ args w,(callFunc 259 args).run prog w= .ok (.enter 259 args) w:=DL func259 zt rfl;refine(wpIn_wide (n:=5)).1 ?_;refine Zd (K:=255) (s:=s) (xs:=BR s) (Z:=U6) rfl (DL func255 zt rfl) (ZV _ s hs) rfl
  (fun pre W=>pre=[]/\Bl w W/\AJ W w.heap.size #[.int .i64 (k:Int)] 3/\AJ W (w.heap.size+1) #[.int .u64 (l0:Int),.int .u64 (l1:Int),.int .u64 (l2:Int),.int .u64 (l3:Int)] 340/\AJ W (w.heap.size+1+1) #[.bool false] 4)
  (fun _ W=>Bl w W/\AJ W (w.heap.size+1+1) #[.bool true] 4) (fun _ W h=>(HG.out.of (F:=[]) (Off.of h.2.1) fun _ h=>(by cases h)).1) ?_ ?_ ⟨rfl,KR B3.out,L0.out,L1.out,L2.out⟩
  (fun x=>{tmps:=#[.int .i64 (k:Int),.agg #[.int .u64 (l0:Int),.int .u64 (l1:Int),.int .u64 (l2:Int),.int .u64 (l3:Int)],.pointer<|Qb b 0,.pointer<|Qb v 0,.pointer<|Qb w.heap.size 0,.pointer<|Qb (w.heap.size+1) 0,.pointer<|Qb (w.heap.size+1+1) 0,.int .i64 (x:Int),undef,undef,.int .i64 (k:Int),.pointer<|Qb q 0,.pointer<|Qb q 0,.pointer<|Qb q 3,.slice pa at_.length ca,.int .i64 (at_.length:Int),.bool false,.int .i64 (k:Int),.pointer<|Qb (w.heap.size+1) k,.int .u64 (s:Int),.func (.func 255) #[.int .u64 (s:Int)] #[],.int .i64 (x:Int),undef,undef,undef,undef,undef,undef,undef,undef,undef,undef,undef,undef,undef,undef,undef,undef],defers:=[]}) ?assign ?body ?done ?stop
 ·rintro pre W W' ⟨rfl,hB,b0,b1,b2⟩ k;have nn: ∀ j,j<w.heap.size+3->j∉[W3.heap.size,W3.heap.size+1]:=fun j hj=>by simp;omega
  exact⟨rfl,BL.out W W' hB k,b0.of<|k.block _ b0.lt<|nn _ zx,b1.of<|k.block _ b1.lt<|nn _ zx,b2.of<|k.block _ b2.lt<|nn _ zx⟩
 ·rintro pre W W' ⟨hB,b2⟩ k;exact⟨BL.out W W' hB k,b2.of<|k.block _ b2.lt (by simp;omega)⟩
 case assign=>
  intro l x W K hK;gi_wp2
  exact hK
 case body=>
  rintro l pre x yh W hx ⟨rfl,hB,b0,b1,b2⟩ hW;rw[hn]at hx;injection hx with hx1 hx2;subst hx1;have HH:=AA<|AF hB<|AF b0<|AF b1 b2;have bb:=(Am (a:=⟨b,0,none⟩)<|hB.block b hbl).trans xZ.out.1.one.1;have z0:=b0.one.1;obtain⟨z1,z2,z3,z4,zs⟩:=b1.four;have C1:=AA<|HN.out W hB;clear hB b0 b1 b2;gi_wp2
  refine⟨trivial,(CallsIn.inRound l<|callsIn_wide.2 C1.out).mono ?_⟩;rintro e w4 ⟨rfl,hb4⟩;obtain⟨hB,b0,b1,b2⟩:=HH.out;have O7:Bl w w4:=hB.trans<|hb4.mono hB.size;have WR:=AA<|AF hb4<|AF O7<|AF (b0.of<|hb4.block _ b0.lt)<|AF (b1.of<|hb4.block _ b1.lt)<|b2.of<|hb4.block _ b2.lt;have z0': ∀ o,(w4.alloc o).cell? ⟨w.heap.size,0,none⟩=_:=fun o=>(WR.out.2.2.1.alloc o).one.1;have vv: ∀ o,(w4.alloc o).cell? ⟨v,0,none⟩=_:=fun o=>(Am (a:=⟨v,0,none⟩)<|(O7.alloc O7.size o).block v xZ.out.2.lt).trans xZ.out.2.one.1;clear hB b0 b1 b2 hb4 O7;have C2:=AA<|HW.out (w4.alloc<|.cells #[.int .u64 (m0:Int),.int .u64 (m1:Int),.int .u64 (m2:Int),.int .u64 (m3:Int)] 340)<|WR.out.2.1.alloc WR.out.2.1.size _;gi_wp2
  rw[show((k+1:Nat):Int)=(k:Int)+1 from rfl]at C2;refine⟨trivial,(CallsIn.inRound l<|callsIn_wide.2 C2.out).mono ?_⟩;rintro e w6 ⟨rfl,Gs⟩;have TP:Bl w4 w6:=((AQ _ w4).alloc lr _).trans<|Gs.mono zw;obtain⟨hb4,O7,b0,b1,b2⟩:=WR.out;have b6:=b2.of<|TP.block _ b2.lt;have y6:=b6.soft;have y6':=b6.one.1;have K6:=AA<|AF (O7.trans<|TP.mono O7.size)<|AF b6<|AF (hb4.block _<|Nat.lt_of_succ_lt hW)<|AF (hb4.block _ hW)<|AF (TP.block _<|Ba (Nat.lt_of_succ_lt hW) hb4.size)<|TP.block _<|Ba hW hb4.size;clear TP hb4 O7 b0 b1 b2 b6 Gs;gi_wp2
  obtain⟨k1,k2,k3,k4,k5,k6⟩:=K6.out;have ns: ∀ j,j≠w.heap.size+1+1->(w6.setCell ⟨w.heap.size+1+1,0,none⟩<|.bool true).heap[j]?=w6.heap[j]?:=fun j hj=>Au w6 _ _ j hj;refine⟨⟨(ns _ ?_).trans<|k5.trans k3,(ns _ ?_).trans<|k6.trans k4⟩,k1.setCell (by show w.heap.size<=w.heap.size+1+1;omega) _,k2.set 0 _⟩
  ·show W3.heap.size≠_;omega
  ·show W3.heap.size+1≠_;omega
 case done=>
  rintro W ⟨h,_⟩ _;rw[hn]at h;cases h
 case stop=>
  rintro pre W ⟨hB,b2⟩ hD;have c2:=b2.one.1;gi_wp2
  refine⟨zw,.inl ⟨_,_,rfl,run_takeDeferred hD,?_⟩⟩;have c3:(W.putObj W3.heap.size<|.deferred none).cell? ⟨w.heap.size+1+1,0,none⟩=some (.bool true):=(Am (a:=⟨w.heap.size+1+1,0,none⟩)<|World.putObj_heap_other (by show w.heap.size+1+1≠_;omega)).trans c2;exact⟨.bool true,by simp[results,results259,go_sem,c3],rfl,hB.trans<|(Off.putObj (F:=[W3.heap.size]) (.deferred none) zw).below (fun i hi=>by simp at hi;omega) hB.size⟩
end Go.P
