import Derived.Test.YtghnjdpgbldlkaaGreatDoorW18
import Derived.Test.YtghnjdpgbldlkaaGreatDoorW19
set_option linter.defProp false
set_option maxRecDepth 100000
set_option maxHeartbeats 8000000
set_option linter.unusedSimpArgs false
open Go.Proofs Go.RowKit Go.W Tryz
namespace Go.W
def Z9i (a b:Nat)(ha:a<8)(hb:b<8):bits BinOp.or IntKind.u64 (a:Int) (b:Int)=((a ||| b:Nat):Int):=by
 have h1:a=0\/a=1\/a=2\/a=3\/a=4\/a=5\/a=6\/a=7:=zx
 have h2:b=0\/b=1\/b=2\/b=3\/b=4\/b=5\/b=6\/b=7:=zx
 rcases h1 with rfl | rfl | rfl | rfl | rfl | rfl | rfl | rfl <;> rcases h2 with rfl | rfl | rfl | rfl | rfl | rfl | rfl | rfl <;> rfl
end Go.W
namespace Go.P
open Go.RowKit Go.W Go.Shelf
variable {w:World}
attribute [local go_sem] MZ
def tX {P:Program}{c:Code}{Q:Exit->Act->World->Prop}{a:Act}(K3:Act->World->Prop)(h:c.wp P (Exit.then K3 fun _ _ _=>False) a w)(hk: ∀ a w,K3 a w->Q .normal a w):c.wp P Q a w:=
 Code.wp_mono (fun e a w q=>by cases e <;> first | exact hk _ _ q | exact q.elim) h
def Zwh {q p m:Nat}{cs:Array Value}{x:Pt}{gs:List Gt}{S:List Nat}{fs:List (ByteArray×Nat)}{vs:List T}{F:List Nat}{ov:Value}{Fo:List Nat}(h:Ctx w q p m cs [x] gs S fs vs F [] ov Fo)(hl:gs.length<=1){seen now sN a0 fit:Nat}(MB:seen<=60)(hno:now<=60)(qK:bits BinOp.andNot IntKind.u64 ((2 ^ now-1:Nat):Int) ((2 ^ seen-1:Nat):Int)=(sN:Int))(RN:sN<8)(c8:cs[8]?=some (.int .u64 (a0:Int)))(aU:a0<8)(hb: ∀ n,n∈BR sN->n<fs.length)(ha: ∀ n,n∈BR sN->(GU [] x.1 x.2<|fs.getD n (⟨#[]⟩,0)).1=true-> ∀ y,y∈gs->WJ (GU [] x.1 x.2<|fs.getD n (⟨#[]⟩,0)).2 vs y)(BG:GJ fs x.1 x.2 (BR sN)=fit)(hb2: ∀ n,n∈BR (a0 ||| fit)->n<fs.length):
  Calls prog 227 #[.pointer<|Qb q 0,.int .i64 (seen:Int),.int .i64 (now:Int)] w fun e w'=>e= .returned (.tuple #[])/\ ∃ Aw Aj,Ctx w' q p m (cs.setIfInBounds 8<|.int .u64 ((a0 ||| fit:Nat):Int)) [x] gs S fs vs F [] Aw Aj/\Off (q::m::Fo) w w'/\ ∀ i,i∈Aj->i∈Fo\/w.heap.size<=i:=by
 obtain⟨pa,ca,c3,hA⟩:=h.rd.atoms;obtain⟨ga,g,c,rfl,EZ,TG,a1,Vo,Md⟩:=hA 0 x rfl;have IZ:fit<8:=BG▸Uu _ _ _ fun k hk=>Nq hk;have kP:=Z9i a0 fit aU IZ;have haf:a0 ||| fit<8:=Nat.or_lt_two_pow (n:=3) aU IZ;simp only[BO,D7,Hr,Ol]at a1 Vo c3;have q3:=(h.cell 3 zx).trans c3;have q8:=(h.cell 8 zx).trans c8;have lM:AC (8<cs.size):=⟨(IU.1 c8).1⟩;have qs:=h.bd.blk.soft;have Dv:=h.bd.blk.lt;have Kq:=h.rd.lS ga EZ;have CN:=AA<|jH now hno;have CS:=AA<|jH seen MB;have H:=AA h;generalize a0 ||| fit=af at*;clear h hA;refine(callsIn_wide (n:=5)).1 ?_;refine callsIn_of_wp_marks func227 rfl trivial ?_ rfl;simp only[ntmps227,E9,BO,D7,Nat.reduceAdd,Nat.reduceSub,Ju,Jv,Jr,Jt,FK,Gm];refine wpIn_wide.2 ?_;obtain⟨W2,hW2⟩: ∃ W2,AC ((w.alloc<|.cells #[.pointer<|Qb q 0] 329).alloc (.cells #[.int .i64 (seen:Int)] 3)=W2):=⟨_,⟨rfl⟩⟩;have B2:AC (Bl w W2):=⟨hW2.out▸((AQ _ w).alloc lr _).alloc zw _⟩;have S2:AC (W2.heap.size=w.heap.size+2):=⟨by rw[<- hW2.out];simp⟩;have L0:AC (AJ W2 w.heap.size #[.pointer<|Qb q 0] 329):=⟨hW2.out▸(AJ.new w _ _).alloc _⟩;have L1:AC (AJ W2 (w.heap.size+1) #[.int .i64 (seen:Int)] 3):=⟨hW2.out▸Jd w _ _ _⟩;have LL:=AA<|AF L0.out L1.out;have C2:=AA<|H.out.below B2.out;have z1:=(Am (a:=⟨ga,0,none⟩)<|B2.out.block ga Kq).trans a1;have pJ:=(Am (a:=⟨ga,1,none⟩)<|B2.out.block ga Kq).trans Vo;go_wp2_with fail
 rw[hW2.out];refine Dt 2 ?_;rw[A8];go_wp2_with fail
 obtain⟨W3,hW3⟩: ∃ W3,W2.alloc (.cells #[.string x.1,.slice (Qb g 0) 1 c] 323)=W3:=⟨_,rfl⟩;have B3:AC (Bl W2 W3):=⟨hW3▸(AQ _ W2).alloc lr _⟩;have S3:AC (W3.heap.size=w.heap.size+3):=⟨by rw[<- hW3];simp[S2.out]⟩;have L2:AC (AJ W3 W2.heap.size #[.string x.1,.slice (Qb g 0) 1 c] 323):=⟨hW3▸AJ.new W2 _ _⟩;have C3:=AA<|C2.out.below B3.out;have BX:AC (∀ u:World,(∀ j,w.heap.size<=j->j<w.heap.size+3->u.heap[j]?=W3.heap[j]?)->u.cell? ⟨w.heap.size,0,none⟩=some (.pointer<|Qb q 0)/\u.cell? ⟨w.heap.size+1,0,none⟩=some (.int .i64 (seen:Int))/\u.cell? ⟨W2.heap.size,0,none⟩=some (.string x.1)/\u.cell? ⟨W2.heap.size,1,none⟩=some (.slice (Qb g 0) 1 c)):=⟨fun u hu=>by
  have h2:=S2.out;have e0:=(L0.out.of<|B3.out.block w.heap.size zx).of<|hu w.heap.size zx zx;have e1:=(L1.out.of<|B3.out.block (w.heap.size+1) zx).of<|hu (w.heap.size+1) zx zx;have e2:=L2.out.of<|hu W2.heap.size zx zx;exact⟨e0.one.1,e1.one.1,e2.two.1,e2.two.2.1⟩⟩
 have AV:=BX.out W3.drew fun _ _ _=>rfl;have nB: ∀ j,w.heap.size<=j->j∉q::m::Fo:=fun j hj h=>by have:=H.out.bd.lt j h;omega
 have KS:AC (∀ w5,Off (q::m::Fo) W3.drew w5->w5.cell? ⟨w.heap.size,0,none⟩=some (.pointer<|Qb q 0)/\w5.cell? ⟨w.heap.size+1,0,none⟩=some (.int .i64 (seen:Int))/\w5.cell? ⟨W2.heap.size,0,none⟩=some (.string x.1)/\w5.cell? ⟨W2.heap.size,1,none⟩=some (.slice (Qb g 0) 1 c)):=⟨fun w5 ho=>BX.out w5 fun j h1 h2=>ho.block j (by have:=S3.out;show j<W3.heap.size;omega) (nB j h1)⟩;have eG:JL W3.drew g x.2:=(Md.of B2.out.size<|B2.out.block g Md.1).of B3.out.size<|B3.out.block g<|Ba Md.1 B2.out.size;have CF:=AA<|nO (C3.out.below (AQ _ W3).drew) hl (c:=c) eG TG x.1 sN RN hb ha;rw[BG]at CF;have q83:=(C3.out.cell 8 zx).trans c8;have HFT:=AA BG;clear BG eG hb ha;rw[hW3];clear hW3;obtain⟨K3,hK3⟩: ∃ K3:Act->World->Prop,AC (∀ a' w5,K3 a' w5↔(a'={tmps:=#[.pointer<|Qb q 0,.int .i64 (seen:Int),.int .i64 (now:Int),.pointer<|Qb w.heap.size 0,.pointer<|Qb (w.heap.size+1) 0,undef,.int .i64 0,.pointer<|Qb W2.heap.size 0,undef,undef,.pointer<|Qb q 0,.pointer<|Qb q 0,.pointer<|Qb q 3,.slice (Qb ga 0) 1 ca,.int .i64 1,.int .i64 0,.bool true,.int .i64 0,.pointer<|Qb ga 0,.agg #[.string x.1,.slice (Qb g 0) 1 c],.pointer<|Qb q 0,.int .i64 0,.pointer<|Qb q 0,.pointer<|Qb q 8,.pointer<|Qb q 8,.int .u64 (a0:Int),.pointer<|Qb q 0,.agg #[.string x.1,.slice (Qb g 0) 1 c],.int .i64 (now:Int),.int .u64 ((2 ^ now-1:Nat):Int),.int .i64 (seen:Int),.int .u64 ((2 ^ seen-1:Nat):Int),.int .u64 (sN:Int),.int .u64 (fit:Int),.int .u64 (af:Int),.pointer<|Qb q 0,.pointer<|Qb q 8,.pointer<|Qb q 8,undef,undef,undef,undef,undef,undef,undef,undef,undef,undef,undef,undef,undef,undef,undef,undef,undef,undef,undef,undef,undef,undef,undef],defers:=[]}/\ ∃ Ik F5,Ctx w5 q p m (cs.setIfInBounds 8<|.int .u64 (af:Int)) [x] gs S fs vs F [] Ik F5/\Off (q::m::Fo) W3.drew w5/\ ∀ i,i∈F5->i∈Fo\/W3.drew.heap.size<=i)):=⟨_,⟨fun _ _=>Iff.rfl⟩⟩;refine tX K3 ?_ ?_;refine U7 (S:=fun u=>u.cell? ⟨w.heap.size,0,none⟩=some (.pointer<|Qb q 0)/\u.cell? ⟨w.heap.size+1,0,none⟩=some (.int .i64 (seen:Int))/\u.cell? ⟨W2.heap.size,0,none⟩=some (.string x.1)/\u.cell? ⟨W2.heap.size,1,none⟩=some (.slice (Qb g 0) 1 c)) zt ?_;change wpAnyH _ _ _ _ _ _ _ _ (World.drew _);refine tk 0 (.pointer<|Qb q 0) AV (hy:=fun u hS=>by obtain⟨s0,s1,s2,s3⟩:=hS;go_simp) ?_;try simp only[zz]
 refine tk 1 (.int .i64 0) AV ?_;try simp only[zz]
 refine tk 2 (.pointer<|Qb q 0) AV ?_;try simp only[zz]
 refine tk 3 (.pointer<|Qb q 8) AV ?_;try simp only[zz]
 refine tk 4 (.pointer<|Qb q 8) AV ?_;try simp only[zz]
 refine tk 6 (.pointer<|Qb q 0) AV (hy:=fun u hS=>by obtain⟨s0,s1,s2,s3⟩:=hS;go_simp) ?_;try simp only[zz]
 refine tk 7 (.agg #[.string x.1,.slice (Qb g 0) 1 c]) AV (hy:=fun u hS=>by obtain⟨s0,s1,s2,s3⟩:=hS;go_simp) ?_;try simp only[zz]
 refine tk 8 (.int .i64 (now:Int)) AV ?_;try simp only[zz]
 refine tk 10 (.int .i64 (seen:Int)) AV (hy:=fun u hS=>by obtain⟨s0,s1,s2,s3⟩:=hS;go_simp) ?_;try simp only[zz]
 refine tk 15 (.pointer<|Qb q 0) AV ?_;try simp only[zz]
 refine tk 16 (.pointer<|Qb q 8) AV ?_;try simp only[zz]
 refine Eg (rs:=[5,9]) zt zw<|EG rfl (fun K' hK'=>?_)<|EG rfl (fun K' hK'=>?_) Eh
 ·go_simp;refine hK'.out _ _ AV fun _=>?_;try simp only[zz]
  refine Eg (rs:=[9]) zt zw<|EG rfl (fun K' hK'=>?_) Eh;go_simp;refine(CN.out _).mono ?_;rintro e _ ⟨rfl,rfl⟩;refine hK'.out _ _ AV fun _=>?_;try simp only[zz]
  refine Eg (rs:=[11]) zt zw<|EG rfl (fun K' hK'=>?_) Eh;go_simp;refine(CS.out _).mono ?_;rintro e _ ⟨rfl,rfl⟩;refine hK'.out _ _ AV fun _=>?_;try simp only[zz]
  refine tk 12 (.int .u64 (sN:Int)) AV ?_;try simp only[zz]
  refine Eg (rs:=[13]) zt zw<|EG rfl (fun K' hK'=>?_) Eh;go_simp;refine CF.out.mono ?_;rintro e w5 ⟨rfl,Ik,F5,J8,BQ,hs5⟩;have EJ:=KS.out w5 BQ;have kC:=(J8.cell 8 zx).trans c8;have Xx:=J8.bd.blk.soft;refine hK'.out _ _ EJ fun _=>?_;try simp only[zz]
  refine tk 14 (.int .u64 (af:Int)) EJ ?_;try simp only[zz]
  refine tk 17 (.pointer<|Qb q 8) EJ ?_;try simp only[zz]
  refine Eg (rs:=[18]) zt zw<|EG rfl (fun K' hK'=>?_) Eh;go_simp;have hop:=BQ.set q 8 (.int .u64 (af:Int)) zw;refine hK'.out _ _ (KS.out _ hop) fun _=>?_;try simp only[zz]
  refine Lp zt ?_ _;exact(hK3.out _ _).2 ⟨rfl,Ik,F5,J8.put 8 lr<|.int .u64 (af:Int),hop,hs5⟩
 ·go_simp;refine(CN.out _).mono ?_;rintro e _ ⟨rfl,rfl⟩;refine hK'.out _ _ AV fun _=>?_;try simp only[zz]
  refine Eg (rs:=[5,11]) zt zw<|EG rfl (fun K' hK'=>?_)<|EG rfl (fun K' hK'=>?_) Eh
  ·go_simp;refine hK'.out _ _ AV fun _=>?_;try simp only[zz]
   refine Eg (rs:=[11]) zt zw<|EG rfl (fun K' hK'=>?_) Eh;go_simp;refine(CS.out _).mono ?_;rintro e _ ⟨rfl,rfl⟩;refine hK'.out _ _ AV fun _=>?_;try simp only[zz]
   refine tk 12 (.int .u64 (sN:Int)) AV ?_;try simp only[zz]
   refine Eg (rs:=[13]) zt zw<|EG rfl (fun K' hK'=>?_) Eh;go_simp;refine CF.out.mono ?_;rintro e w5 ⟨rfl,Ik,F5,J8,BQ,hs5⟩;have EJ:=KS.out w5 BQ;have kC:=(J8.cell 8 zx).trans c8;have Xx:=J8.bd.blk.soft;refine hK'.out _ _ EJ fun _=>?_;try simp only[zz]
   refine tk 14 (.int .u64 (af:Int)) EJ ?_;try simp only[zz]
   refine tk 17 (.pointer<|Qb q 8) EJ ?_;try simp only[zz]
   refine Eg (rs:=[18]) zt zw<|EG rfl (fun K' hK'=>?_) Eh;go_simp;have hop:=BQ.set q 8 (.int .u64 (af:Int)) zw;refine hK'.out _ _ (KS.out _ hop) fun _=>?_;try simp only[zz]
   refine Lp zt ?_ _;exact(hK3.out _ _).2 ⟨rfl,Ik,F5,J8.put 8 lr<|.int .u64 (af:Int),hop,hs5⟩
  ·go_simp;refine(CS.out _).mono ?_;rintro e _ ⟨rfl,rfl⟩;refine hK'.out _ _ AV fun _=>?_;try simp only[zz]
   refine tk 12 (.int .u64 (sN:Int)) AV ?_;try simp only[zz]
   refine Eg (rs:=[5,13]) zt zw<|EG rfl (fun K' hK'=>?_)<|EG rfl (fun K' hK'=>?_) Eh
   ·go_simp;refine hK'.out _ _ AV fun _=>?_;try simp only[zz]
    refine Eg (rs:=[13]) zt zw<|EG rfl (fun K' hK'=>?_) Eh;go_simp;refine CF.out.mono ?_;rintro e w5 ⟨rfl,Ik,F5,J8,BQ,hs5⟩;have EJ:=KS.out w5 BQ;have kC:=(J8.cell 8 zx).trans c8;have Xx:=J8.bd.blk.soft;refine hK'.out _ _ EJ fun _=>?_;try simp only[zz]
    refine tk 14 (.int .u64 (af:Int)) EJ ?_;try simp only[zz]
    refine tk 17 (.pointer<|Qb q 8) EJ ?_;try simp only[zz]
    refine Eg (rs:=[18]) zt zw<|EG rfl (fun K' hK'=>?_) Eh;go_simp;have hop:=BQ.set q 8 (.int .u64 (af:Int)) zw;refine hK'.out _ _ (KS.out _ hop) fun _=>?_;try simp only[zz]
    refine Lp zt ?_ _;exact(hK3.out _ _).2 ⟨rfl,Ik,F5,J8.put 8 lr<|.int .u64 (af:Int),hop,hs5⟩
   ·go_simp;refine CF.out.mono ?_;rintro e w5 ⟨rfl,Ik,F5,J8,BQ,hs5⟩;have EJ:=KS.out w5 BQ;have kC:=(J8.cell 8 zx).trans c8;have Xx:=J8.bd.blk.soft;refine hK'.out _ _ EJ fun _=>?_;try simp only[zz]
    refine Eg (rs:=[5]) zt zw<|EG rfl (fun K' hK'=>?_) Eh;go_simp;refine hK'.out _ _ EJ fun _=>?_;try simp only[zz]
    refine tk 14 (.int .u64 (af:Int)) EJ ?_;try simp only[zz]
    refine tk 17 (.pointer<|Qb q 8) EJ ?_;try simp only[zz]
    refine Eg (rs:=[18]) zt zw<|EG rfl (fun K' hK'=>?_) Eh;go_simp;have hop:=BQ.set q 8 (.int .u64 (af:Int)) zw;refine hK'.out _ _ (KS.out _ hop) fun _=>?_;try simp only[zz]
    refine Lp zt ?_ _;exact(hK3.out _ _).2 ⟨rfl,Ik,F5,J8.put 8 lr<|.int .u64 (af:Int),hop,hs5⟩
 intro a' w5 h5;obtain⟨rfl,Ik,F5,J8,BQ,hs5⟩:=(hK3.out _ _).1 h5;clear h5 hK3 K3;dsimp only;have q35:w5.cell? ⟨q,3,none⟩=some (.slice (Qb ga 0) 1 ca):=by
  rw[J8.cell 3 zx,Bc,if_neg zx];exact c3
 have kC:w5.cell? ⟨q,8,none⟩=some (.int .u64 (af:Int)):=by
  rw[J8.cell 8 zx,Bc,if_pos rfl,if_pos (by have:=lM.out;omega)]
 obtain⟨y0,y1,y2,y3⟩:=KS.out w5 BQ;have FF:=AA<|AF J8<|AF BQ hs5;clear J8 BQ hs5 CF CN CS q83 AV nB z1 pJ L0 L1 L2 C2 C3 q3 q8 a1 Vo;go_wp2_with fail
 rw[A8];go_wp2_with fail
 have Pe:w.heap.size+3<=w5.heap.size:=by have h1:W3.heap.size<=w5.heap.size:=FF.out.2.1.size;have:=S3.out;omega
 have hq5:q<w5.heap.size:=zx
 refine Dt 2 ?_;rw[A8];go_wp2_with fail
 have di:w.heap.size<w5.heap.size:=zx
 have hwl1:w.heap.size+1<w5.heap.size:=zx
 have Dw:=fun(fn:Fn) (first cap:Array Value) (w:World)=>(rfl:(Instr.makeFunc fn first cap).run prog w= .ok (.func fn first cap) w);go_quiet (fail)
 go_wp2_with fail
 obtain⟨W6,hW6⟩: ∃ W6,(w5.alloc<|.cells #[.int .i64 0] 3).drewN nq=W6:=⟨_,rfl⟩;have B6:AC (Bl w5 W6):=⟨hW6▸KR ((AQ _ w5).alloc lr _)⟩;have S6:AC (W6.heap.size=w5.heap.size+1):=⟨by rw[<- hW6];simp⟩;have Li:AC (AJ W6 w5.heap.size #[.int .i64 0] 3):=⟨hW6▸(AJ.new w5 _ _).dr _⟩;rw[hW6];clear hW6 Dw;have eB:=S6.out;have O6:AC (Off (q::m::Fo) w W6):=⟨((Off.of B2.out).trans ((Off.of (F:=q::m::Fo) B3.out).drew.trans (FF.out.2.1.trans (Off.of (F:=[]) B6.out) fun _ h=>(by cases h)) fun _ h=> .inl h) fun _ h=> .inl h)⟩;have F9:=H.out.bd.lt;have Xu: ∀ i,i∈F5->i∈Fo\/(w.heap.size+3<=i/\i<w5.heap.size)\/w5.heap.size+3<=i:=fun i hi=>(FF.out.2.2 i hi).imp id fun h=> .inl ⟨by have h:W3.heap.size<=i:=h;have:=S3.out;omega,FF.out.1.bd.lt i (by simp[hi])⟩;have OT:AC (∀ W W' Aw Aj,Ctx W q p m (cs.setIfInBounds 8<|.int .u64 (af:Int)) [x] gs S fs vs F [] Aw Aj->(∀ i,i∈Aj->i∈Fo\/(w.heap.size+3<=i/\i<w5.heap.size)\/w5.heap.size+3<=i)->Off [W6.heap.size,W6.heap.size+1] W W'->Ctx W' q p m (cs.setIfInBounds 8<|.int .u64 (af:Int)) [x] gs S fs vs F [] Aw Aj):=⟨fun W W' Aw Aj hc CZ k=>hc.other k fun j hj=>by
  have kW:w5.heap.size+1<=j/\j<w5.heap.size+3:=by simp at hj;omega
  refine⟨fun h=>?_,fun h=>by have:=H.out.wd.lt j h;omega,fun h=>by have:=H.out.rd.lS j h;omega,AU H.out.gl.2.2 zx⟩;simp only[Be]at h;rcases h with rfl | rfl | h
  ·omega
  ·have:=F9 j zw;omega
  ·rcases CZ j h with h | h | h
   ·have:=F9 j (by simp[h]);omega
   ·omega
   ·omega⟩
 have hub: ∀ (u:World),(∀ j,w.heap.size<=j->j<w.heap.size+3->u.heap[j]?=W3.heap[j]?)->AJ u w.heap.size #[.pointer<|Qb q 0] 329/\AJ u (w.heap.size+1) #[.int .i64 (seen:Int)] 3:=fun u hu=>by
  have h2:=S2.out;exact⟨(LL.out.1.of<|B3.out.block w.heap.size zx).of<|hu w.heap.size zx zx,(LL.out.2.of<|B3.out.block (w.heap.size+1) zx).of<|hu (w.heap.size+1) zx zx⟩
 have fP:=hub W6 fun j h1 h2=>(B6.out.block j zx).trans (FF.out.2.1.block j (by have:=S3.out;show j<W3.heap.size;omega) (fun h=>by have:=F9 j h;omega));refine(wpIn_wide (n:=5)).1 ?_;refine Zd (K:=255) (s:=af) (xs:=BR af) (Z:=U6) rfl (DL func255 zt rfl) (ZV _ af haf) rfl
  (fun _ W=> ∃ Aw Aj,Ctx W q p m (cs.setIfInBounds 8<|.int .u64 (af:Int)) [x] gs S fs vs F [] Aw Aj/\AJ W w.heap.size #[.pointer<|Qb q 0] 329/\AJ W (w.heap.size+1) #[.int .i64 (seen:Int)] 3/\AJ W w5.heap.size #[.int .i64 0] 3/\Off (q::m::Fo) w W/\ ∀ i,i∈Aj->i∈Fo\/(w.heap.size+3<=i/\i<w5.heap.size)\/w5.heap.size+3<=i)
  (fun _ _=>False) (fun _ _ ⟨_,_,hc,_⟩=>hc.gl.1) ?_ (fun _ _ _ h _=>h) ⟨Ik,F5,FF.out.1.below B6.out,fP.1,fP.2,Li.out,O6.out,Xu⟩
  (fun n=>{tmps:=#[.pointer<|Qb q 0,.int .i64 (seen:Int),.int .i64 (now:Int),.pointer<|Qb w.heap.size 0,.pointer<|Qb (w.heap.size+1) 0,undef,.int .i64 0,.pointer<|Qb W2.heap.size 0,.pointer<|Qb w5.heap.size 0,.int .i64 (n:Int),.pointer<|Qb q 0,.pointer<|Qb q 0,.pointer<|Qb q 3,.slice (Qb ga 0) 1 ca,.int .i64 1,.int .i64 1,.bool false,.int .i64 0,.pointer<|Qb ga 0,.agg #[.string x.1,.slice (Qb g 0) 1 c],.pointer<|Qb q 0,.int .i64 0,.pointer<|Qb q 0,.pointer<|Qb q 8,.pointer<|Qb q 8,.int .u64 (a0:Int),.pointer<|Qb q 0,.agg #[.string x.1,.slice (Qb g 0) 1 c],.int .i64 (now:Int),.int .u64 ((2 ^ now-1:Nat):Int),.int .i64 (seen:Int),.int .u64 ((2 ^ seen-1:Nat):Int),.int .u64 (sN:Int),.int .u64 (fit:Int),.int .u64 (af:Int),.pointer<|Qb q 0,.pointer<|Qb q 8,.pointer<|Qb q 8,.int .i64 1,.pointer<|Qb q 0,.pointer<|Qb q 0,.pointer<|Qb q 3,.slice (Qb ga 0) 1 ca,.int .i64 1,.int .i64 0,.bool true,.int .i64 0,.pointer<|Qb q 0,.int .i64 0,.pointer<|Qb q 0,.pointer<|Qb q 8,.pointer<|Qb q 8,.int .u64 (af:Int),.func (.func 255) #[.int .u64 (af:Int)] #[],.int .i64 (n:Int),undef,undef,undef,undef,undef,undef],defers:=[]}) ?assign ?body ?done (fun _ _ h _=>h.elim)
 ·rintro pre W W' ⟨Aw,Aj,hc,b0,b1,b2,ho,CZ⟩ k;have nn: ∀ j,j<w5.heap.size+1->j∉[W6.heap.size,W6.heap.size+1]:=fun j hj=>by simp;omega
  refine⟨Aw,Aj,OT.out W W' _ _ hc CZ k,b0.of<|k.block _ b0.lt<|nn _ zx,b1.of<|k.block _ b1.lt<|nn _ zx,b2.of<|k.block _ b2.lt<|nn _ zx,ho.trans k fun i hi=>?_,CZ⟩;simp at hi;exact .inr zx
 case assign=>
  intro l n W K hK;gi_wp2
  exact hK
 case body=>
  rintro l pre n rest W hx ⟨Aw,Aj,hc,b0,b1,b2,ho,CZ⟩ hW;have M9:=hb2 n (by rw[hx];simp);obtain⟨fx,QY⟩: ∃ fx,fs[n]?=some fx:=⟨_,DK M9⟩;have CB:=AA<|Zos hc (i:=0) (seen:=seen) (x:=x) rfl rfl zw QY;have c0:=b0.one.1;have c1:=b1.one.1;have c2:=b2.one.1;have HH:=AA<|AF hc<|AF b0<|AF b1<|AF b2<|AF ho CZ;clear hc b0 b1 b2 ho CZ;gi_wp2
  refine⟨trivial,(CallsIn.inRound l<|callsIn_wide.2 CB.out).mono ?_⟩;rintro e w7 ⟨rfl,dQ,F7,fM,FU,MC⟩;gi_wp2
  obtain⟨hc,b0,b1,b2,ho,CZ⟩:=HH.out;have IG: ∀ j,w.heap.size<=j->(j<w.heap.size+3\/w5.heap.size<=j)->j<w5.heap.size+3->j∉q::m::Aj:=fun j h1 h2 h3 h=>by
   simp only[Be]at h;rcases h with rfl | rfl | h
   ·omega
   ·have:=F9 j zw;omega
   ·rcases CZ j h with h | h | h
    ·have:=F9 j (by simp[h]);omega
    ·omega
    ·omega
  refine⟨⟨FU.block _ zx<|IG _ zx zx zx,FU.block _ zx<|IG _ zx zx zx⟩,dQ,F7,fM,b0.of<|FU.block _ b0.lt<|IG _ zx zx zx,b1.of<|FU.block _ b1.lt<|IG _ zx zx zx,b2.of<|FU.block _ b2.lt<|IG _ zx zx zx,ho.trans FU fun i hi=>?_,fun i hi=>?_⟩
  ·simp only[Be]at hi⊢;rcases hi with h | h | h
   ·exact .inl<|.inl h
   ·exact .inl<|.inr<|.inl h
   ·rcases CZ i h with h | h | h
    ·exact .inl<|.inr<|.inr h
    ·exact .inr zx
    ·exact .inr zx
  ·rcases MC i hi with h | h
   ·exact CZ i h
   ·exact .inr<|.inr zx
 case done=>
  rintro W ⟨Aw,Aj,hc,b0,b1,b2,ho,CZ⟩ hD;have FO:=AA<|AF hc<|AF ho CZ;clear hc b0 b1 b2 ho CZ;go_wp2_with fail
  rw[A8];go_wp2_with fail
  have k:Off [W6.heap.size,W6.heap.size+1] W (W.putObj W6.heap.size<|.deferred none):=Off.putObj _ zw;refine⟨zw,.inl ⟨_,_,rfl,run_takeDeferred hD,?_⟩⟩;refine⟨_,results_none rfl _ _ _,rfl,Aw,Aj,OT.out _ _ _ _ FO.out.1 FO.out.2.2 k,FO.out.2.1.trans k fun i hi=>?_,fun i hi=>(FO.out.2.2 i hi).imp id zx⟩;simp at hi;exact .inr zx
end Go.P
namespace Go.W
end Go.W
namespace Go.P
attribute [local go_sem] MZ
def Z98 {w:World}{q p m:Nat}{cs:Array Value}{at_:List Pt}{gs:List Gt}{S:List Nat}{fs:List (ByteArray×Nat)}{vs:List T}{F:List Nat}{xs:List (ByteArray×Nat)}{ov:Value}{Fo:List Nat}(h:Ctx w q p m cs at_ gs S fs vs F xs ov Fo){b v k:Nat}(hw:Uo w q b v)(l0 l1 l2 l3:Nat)(CH: ∀ u,Bl w u->Calls prog 231 #[.pointer<|Qb q 0,.agg #[.int .u64 (l0:Int),.int .u64 (l1:Int),.int .u64 (l2:Int),.int .u64 (l3:Int)]] u fun e w'=>e= .returned (.bool true)/\Bl u w'){ph:Option Addr}{ch g c:Nat}{pn:ByteArray}{s:ByteArray×Nat}(c5:cs[5]?=some (.slice ph k ch))(c1:cs[1]?=some (.string pn))(c2:cs[2]?=some (.slice (Qb g 0) 1 c))(hg:JL w g s)(hn:OU (pn,(GK xs s).1) fs)(hl:fs.length<60)(hbF:b∉F):
  Calls prog 285 #[.int .i64 (k:Int),.agg #[.int .u64 (l0:Int),.int .u64 (l1:Int),.int .u64 (l2:Int),.int .u64 (l3:Int)],.pointer<|Qb b 0,.pointer<|Qb v 0] w fun e w'=>e= .returned (.bool true)/\ ∃ F',Bv w' p (fs++[(pn,(GK xs s).1)]) vs F'/\Off F w w'/\ ∀ i,i∈F'->i∈F\/w.heap.size<=i:=by
 obtain⟨po,co,rfl⟩:=h.bd.row.form;have HX:AC (∀ u,Bl w u->(u.cell? ⟨b,0,none⟩=some (.pointer<|Qb q 0)/\u.cell? ⟨q,0,none⟩=some (.pointer<|Qb p 0)/\u.cell? ⟨q,1,none⟩=some (.string pn)/\u.cell? ⟨q,2,none⟩=some (.slice (Qb g 0) 1 c)/\u.cell? ⟨q,6,none⟩=some (.map<|some m)/\u.cell? ⟨q,7,none⟩=some (.slice po (xs.map (·.1)).length co))/\u.cell? ⟨q,5,none⟩=some (.slice ph k ch)):=⟨fun u hu=>by
  have h':=h.below hu;exact⟨⟨(hw.below hu).1.one.1,(h'.cell 0 zx).trans h.rd.c0,(h'.cell 1 zx).trans c1,(h'.cell 2 zx).trans c2,h'.bd.cells.1,h'.bd.cells.2.1⟩,(h'.cell 5 zx).trans c5⟩⟩
 have C5:=HX.out w<|AQ _ w;have c0: ∀ o,(w.alloc o).cell? ⟨b,0,none⟩=_:=fun o=>(hw.1.alloc o).one.1;have HC:=AA fun o=>CH (w.alloc o) ((AQ _ w).alloc lr o);have HF:AC (∀ u,Bl w u->Calls prog 225 #[.agg #[.string pn,.slice (Qb g 0) 1 c],.agg #[.map<|some m,.slice po (xs.map (·.1)).length co]] u fun e w'=>e= .returned (.agg (He (pn,(GK xs s).1)).toArray)/\Bl u w'):=⟨fun u hu=>Zr1 (.inr ⟨m,rfl,(h.below hu).bd.map⟩) (fun m' e=>by cases e;exact(h.below hu).bd.map.lt) po _ co (hg.of hu.size<|hu.block g hg.1) pn⟩;have HJ:=AA fun u (hu:Bl w u)=>Z0q (h.below hu).wd (pn,(GK xs s).1) hn hl;have nq:q∉F:=fun e=>(h.dB q zw).1 e;have lq:=h.bd.blk.lt;have lb:=hw.1.lt;clear h hw CH c5 c1 c2 hg hn C5;generalize QY:(pn,(GK xs s).1)=fx at*;generalize (xs.map (·.1)).length=no at*;refine Qx func285 rfl ?_;simp only[ntmps285,E9,BO,D7,Nat.reduceAdd,Nat.reduceSub,Ju,Jv,Jr,Jt,FK,Gm];go_wp2_with fail
 refine(HC.out _).mono ?_;rintro e w5 ⟨rfl,hb⟩;have hB:Bl w w5:=((AQ _ w).alloc lr _).trans<|hb.mono zw;have Qc:Bl w w5.drew:=hB.drew;have AV:=(HX.out _ Qc).1;obtain⟨⟨b0,q0,q1,q2,q6,q7⟩,q5⟩:=HX.out _ hB;have HB:=AA Qc;clear hb hB Qc;go_wp2_with fail
 have kF:b<w5.heap.size:=Ba lb HB.out.size;have lq5:q<w5.heap.size:=Ba lq HB.out.size;refine tX (fun a' w'=>a'.tmps[6]?=some (.bool true)/\a'.defers=[]/\ ∃ F',Bv w' p (fs++[fx]) vs F'/\Off F w w'/\ ∀ i,i∈F'->i∈F\/w.heap.size<=i) ?_ ?_
 ·refine U7 (S:=fun u=>u.cell? ⟨b,0,none⟩=some (.pointer<|Qb q 0)/\u.cell? ⟨q,0,none⟩=some (.pointer<|Qb p 0)/\u.cell? ⟨q,1,none⟩=some (.string pn)/\u.cell? ⟨q,2,none⟩=some (.slice (Qb g 0) 1 c)/\u.cell? ⟨q,6,none⟩=some (.map<|some m)/\u.cell? ⟨q,7,none⟩=some (.slice po no co)) zt ?_;change wpAnyH _ _ _ _ _ _ _ _ (World.drew _);refine tk 0 (.pointer<|Qb q 0) AV (hy:=fun _ ⟨s0,s1,s2,s3,s4,s5⟩=>by go_simp) ?_;try simp only[zz]
  refine tk 1 (.pointer<|Qb q 0) AV ?_;try simp only[zz]
  refine tk 2 (.pointer<|Qb q 0) AV ?_;try simp only[zz]
  refine tk 3 (.pointer<|Qb p 0) AV (hy:=fun _ ⟨s0,s1,s2,s3,s4,s5⟩=>by go_simp) ?_;try simp only[zz]
  refine tk 4 (.pointer<|Qb q 0) AV (hy:=fun _ ⟨s0,s1,s2,s3,s4,s5⟩=>by go_simp) ?_;try simp only[zz]
  refine tk 5 (.pointer<|Qb q 0) AV ?_;try simp only[zz]
  refine tk 6 (.pointer<|Qb q 1) AV ?_;try simp only[zz]
  refine tk 7 (.agg #[.string pn,.slice (Qb g 0) 1 c]) AV (hy:=fun _ ⟨s0,s1,s2,s3,s4,s5⟩=>by go_simp) ?_;try simp only[zz]
  refine tk 8 (.pointer<|Qb q 0) AV (hy:=fun _ ⟨s0,s1,s2,s3,s4,s5⟩=>by go_simp) ?_;try simp only[zz]
  refine tk 9 (.pointer<|Qb q 0) AV ?_;try simp only[zz]
  refine tk 10 (.pointer<|Qb q 6) AV ?_;try simp only[zz]
  refine tk 11 (.agg #[.map<|some m,.slice po no co]) AV (hy:=fun _ ⟨s0,s1,s2,s3,s4,s5⟩=>by go_simp) ?_;try simp only[zz]
  refine Eg (rs:=[12]) zt zw<|EG rfl (fun K' hK'=>?_) Eh;go_simp;refine(HF.out _ HB.out).mono ?_;rintro e w6 ⟨rfl,Gs⟩;have B6:=HB.out.trans<|Gs.mono HB.out.size;have Yt:=(HX.out w6 B6).1;refine hK'.out _ _ Yt fun _=>?_;try simp only[zz]
  refine Eg (rs:=[13]) zt zw<|EG rfl (fun K' hK'=>?_) Eh;go_simp;refine(HJ.out _ B6).mono ?_;rintro e w7 ⟨rfl,F',aI,FU,MC⟩;have lb6:b<w6.heap.size:=Ba lb B6.size;have lq6:q<w6.heap.size:=Ba lq B6.size;have eb:=FU.block b lb6 hbF;have eq:=FU.block q lq6 nq;have cell: ∀ j,w7.cell? ⟨q,j,none⟩=w6.cell? ⟨q,j,none⟩:=fun j=>Am (a:=⟨q,j,none⟩) eq;have G9:=AF ((Am (a:=⟨b,0,none⟩) eb).trans Yt.1)<|AF ((cell 0).trans Yt.2.1)<|AF ((cell 1).trans Yt.2.2.1)<|AF ((cell 2).trans Yt.2.2.2.1)<|AF ((cell 6).trans Yt.2.2.2.2.1)<|(cell 7).trans Yt.2.2.2.2.2;refine hK'.out _ _ G9 fun _=>?_;try simp only[zz]
  refine tk 14 (.bool true) G9 ?_;try simp only[zz]
  refine Lp zt ?_ _;exact⟨rfl,rfl,F',aI,(Off.of B6).trans FU fun _ h=> .inl h,fun i hi=>(MC i hi).imp id fun h=>AU B6.size h⟩
 rintro a' w' ⟨h6,hd,F',aI,FU,MC⟩;go_wp2_with fail
 exact CQ (v:= .bool true) (by rw[results_tmp rfl,Array.getD_eq_getD_getElem?,h6];rfl) hd ⟨rfl,F',aI,FU,MC⟩
end Go.P
namespace Go.W
open Go
variable {a:Act}{w:World}{oi o:Oper}{n:Nat}{l:Array Bool}
section
variable {P:Program} {md:Region.Mode} {ops:Array Oper} {Q:Exit->Act->World->Prop} {S:World->Prop} {z:Nat}
def Ji (z:Nat) (P:Program) (md:Region.Mode) (ops:Array Oper) (Q:Exit->Act->World->Prop) (S:World->Prop):Nat->Array Bool->Act->World->Prop
 | 0,l,a,w=>Region.ready md ops l=[]/\Q .normal a w
 | n+1,l,a,w=>(Region.ready md ops l=[]->Q .normal a w)/\ ∀ i∈Region.ready md ops l,wpOp P ops Q i (fun a' w'=>((l.setIfInBounds i true).getD z true=false->S w')/\Ji z P md ops Q S n (l.setIfInBounds i true) a' w') a w
def Zl8: ∀ (n:Nat) (l:Array Bool) (a:Act) (w:World),Ji z P md ops Q S n l a w->wpAny P md ops Q n l a w
 | 0,_,_,_,h=>h
 | n+1,_,_,_,h=>⟨h.1,fun i hi=>wpOp_mono (fun a' w' h'=>Zl8 n _ a' w' h'.2) (h.2 i hi)⟩
def Nv {id:Nat}(z:Nat)(S:World->Prop)(hm:P.follows .mixedOrders=true)(h:Ji z P .any ops Q S ops.size (Array.replicate ops.size false) a w.drew):(Code.region id ops true).wp P Q a w:=wp_region_any hm<|Zl8 _ _ _ _ h
def xG (md:Region.Mode) (ops:Array Oper) (z i:Nat):Bool:=match ops[z]? with | some oz=>oz.after.any fun e=>Region.binds md e && e.on==i | none=>false
def Zxh {i:Nat}{v:Value}(hi:ops[i]?=some oi)(Si: ∀ (j:Nat) (o:Oper) cs b,ops[j]?=some o->o.op≠ .select cs b)(hw:xG md ops z i=true)(VY:i≠z)(hQ: ∀ c a w,Q (.panic c) (a.put oi.dst v) w->Q (.panic c) a w):
  ∀ (n:Nat) (l:Array Bool) (a:Act) (w:World),(∀ j oj,ops[j]?=some oj->j≠i->l.getD j true=false->(∀ e∈oj.after,Region.binds md e=true->e.on≠i)->oi.apart ops oj=true)->i∈Region.ready md ops l->l.getD z true=false->YieldsIf P ops S oi v a->S w->
   Ji z P md ops Q S n (l.setIfInBounds i true) (a.put oi.dst v) w->Ji z P md ops Q S (n+1) l a w:=by
 intro n;induction n with
 | zero=>
  intro l a w _ hr _ hy hS H;refine⟨fun h=>(by rw[h]at hr;cases hr),fun j hj=>?_⟩;by_cases ME:j=i
  ·subst ME;exact hy.wpOp hi hS ⟨fun _=>hS,H⟩
  ·have:=ready_mono hj ME
   rw[H.1]at this;cases this
 | succ n ih=>
  intro l a w ND hr hz hy hS H;refine⟨fun h=>(by rw[h]at hr;cases hr),fun j hj=>?_⟩;by_cases ME:j=i
  ·subst ME;exact hy.wpOp hi hS ⟨fun _=>hS,H⟩
  ·have h1:=H.2 j<|ready_mono hj ME;obtain⟨TD,oj,Wj,hall⟩:=mem_ready.1 hj;have VV: ∀ e∈oj.after,Region.binds md e=true->e.on≠i:=fun e he hb aT=>by
    have h1:=hall e he hb;have h0:=(mem_ready.1 hr).1;rw[aT]at h1;rcases QL i l.size with h' | h'
    ·simp[h']at h0 h1;rw[h0]at h1;cases h1
    ·simp[Zm h']at h1
   have zo:j≠z:=fun e=>by
    subst e;simp only[xG,Wj,Array.any_eq_true',Bool.and_eq_true,DJ]at hw;obtain⟨e,he,hb,ho⟩:=hw;exact VV e he hb ho
   have hzj:(l.setIfInBounds j true).getD z true=false:=by rw[getD_set_ne true zo];exact hz
   have h2:=wpOp_putIf Wj (ND j oj Wj ME TD VV) (fun cs b=>Si i oi cs b hi) (fun cs b=>Si j oj cs b Wj) hQ hy h1;have Oy: ∀ k ok,ops[k]?=some ok->k≠i->(l.setIfInBounds j true).getD k true=false->(∀ e∈ok.after,Region.binds md e=true->e.on≠i)->oi.apart ops ok=true:=fun k ok hk Wl VN hno=>by
    refine ND k ok hk Wl ?_ hno;by_cases hjk:j=k
    ·subst hjk;exact TD
    ·rw[getD_set_ne true hjk]at VN;exact VN
   refine wpOp_mono (fun a' w' h3=>?_) h2;have gK:S w':=h3.2.1 (by rw[getD_set_ne true zo,getD_set_ne true VY];exact hz);refine⟨fun _=>gK,ih (l.setIfInBounds j true) a' w' Oy (ready_mono hr<|Ne.symm ME) hzj h3.1 gK ?_⟩;rw[Array.setIfInBounds_comm _ _ ME];exact h3.2.2
def tz (i:Nat)(v:Value)(hS:S w)(h:Ji z P md ops Q S n (l.setIfInBounds i true) (a.put oi.dst v) w)(hi:ops[i]?=some oi:=by rfl)(hs:Region.noSelect ops=true:=by kernel_rfl)(hf:Region.free md ops l i=true:=by kernel_rfl)(hr:(Region.ready md ops l).contains i=true:=by kernel_rfl)(hwt:xG md ops z i=true:=by kernel_rfl)(VY:i≠z:=by decide)(hz:l.getD z true=false:=by kernel_rfl)(hQ: ∀ c a w,Q (.panic c) (a.put oi.dst v) w->Q (.panic c) a w:=by exact fun _ _ _ h=>h)(hw:Region.wanted oi (yielded ops a.tmps)=true:=by rfl)(hy: ∀ u,S u->(execOp a.eval oi).run P u= .ok (.value v) u:=by intro _ _;go_simp):Ji z P md ops Q S (n+1) l a w:=
 Zxh hi (Region.noSelect_spec hs) hwt VY hQ n l a w (Region.free_spec hi hf) (by simpa using hr) hz (Or.inl ⟨hw,hy⟩) hS h
def rz (i:Nat)(hr:Region.ready md ops l=[i]:=by kernel_rfl)(ho:ops[i]?=some o:=by rfl)(h: ∀ K':Act->World->Prop,Shut (∀ a w,S w->Ji z P md ops Q S n (l.setIfInBounds i true) a w->K' a w)->if Region.wanted o (yielded ops a.tmps)=true then Oper.wp P o a w K' Q else K' (a.put o.dst undef) w):Ji z P md ops Q S (n+1) l a w:=
 ⟨fun e=>(by rw[hr]at e;cases e),fun j hj=>by
  rw[hr]at hj;obtain rfl:=MX.1 hj;exact wpOp_step ho fun K' hK=>h K' fun a w hS hW=>hK a w ⟨fun _=>hS,hW⟩⟩
def J6 (hr:Region.ready md ops l=[z]:=by kernel_rfl)(ho:ops[z]?=some o:=by rfl)(hz:(l.setIfInBounds z true).getD z true=true:=by kernel_rfl)(h: ∀ K':Act->World->Prop,Shut (∀ a w,Ji z P md ops Q S n (l.setIfInBounds z true) a w->K' a w)->if Region.wanted o (yielded ops a.tmps)=true then Oper.wp P o a w K' Q else K' (a.put o.dst undef) w):Ji z P md ops Q S (n+1) l a w:=
 ⟨fun e=>(by rw[hr]at e;cases e),fun j hj=>by
  rw[hr]at hj;obtain rfl:=MX.1 hj;exact wpOp_step ho fun K' hK=>h K' fun a w hW=>hK a w ⟨fun e=>(by rw[hz]at e;cases e),hW⟩⟩
def dz (hr:Region.ready md ops l=[]:=by kernel_rfl)(h:Q .normal a w):Ji z P md ops Q S n l a w:=by
 cases n with
 | zero=>exact⟨hr,h⟩
 | succ n=>exact⟨fun _=>h,fun i hi=>by rw[hr]at hi;cases hi⟩
end
end Go.W
namespace Go.W
open Go
variable {oi:Oper}
section
variable {P:Program} {md:Region.Mode} {ops:Array Oper} {Q:Exit->Act->World->Prop} {S:World->Prop} {z:Nat}
def Zzw {i:Nat}{v:Value}(hi:ops[i]?=some oi)(Si: ∀ (j:Nat) (o:Oper) cs b,ops[j]?=some o->o.op≠ .select cs b)(VY:i≠z)(hQ: ∀ c a w,Q (.panic c) (a.put oi.dst v) w->Q (.panic c) a w):
  ∀ (n:Nat) (l:Array Bool) (a:Act) (w:World),(∀ j oj,ops[j]?=some oj->j≠i->l.getD j true=false->(∀ e∈oj.after,Region.binds md e=true->e.on≠i)->oi.apart ops oj=true)->i∈Region.ready md ops l->YieldsIf P ops (fun _=>True) oi v a->(l.getD z true=false->S w)->
   Ji z P md ops Q S n (l.setIfInBounds i true) (a.put oi.dst v) w->Ji z P md ops Q S (n+1) l a w:=by
 intro n;induction n with
 | zero=>
  intro l a w _ hr hy hS H;refine⟨fun h=>(by rw[h]at hr;cases hr),fun j hj=>?_⟩;by_cases ME:j=i
  ·subst ME;exact hy.wpOp hi trivial ⟨fun e=>hS (by rwa [getD_set_ne true VY]at e),H⟩
  ·have:=ready_mono hj ME
   rw[H.1]at this;cases this
 | succ n ih=>
  intro l a w ND hr hy hS H;refine⟨fun h=>(by rw[h]at hr;cases hr),fun j hj=>?_⟩;by_cases ME:j=i
  ·subst ME;exact hy.wpOp hi trivial ⟨fun e=>hS (by rwa [getD_set_ne true VY]at e),H⟩
  ·have h1:=H.2 j<|ready_mono hj ME;obtain⟨TD,oj,Wj,hall⟩:=mem_ready.1 hj;have VV: ∀ e∈oj.after,Region.binds md e=true->e.on≠i:=fun e he hb aT=>by
    have h1:=hall e he hb;have h0:=(mem_ready.1 hr).1;rw[aT]at h1;rcases QL i l.size with h' | h'
    ·simp[h']at h0 h1;rw[h0]at h1;cases h1
    ·simp[Zm h']at h1
   have h2:=wpOp_putIf Wj (ND j oj Wj ME TD VV) (fun cs b=>Si i oi cs b hi) (fun cs b=>Si j oj cs b Wj) hQ hy h1;have Oy: ∀ k ok,ops[k]?=some ok->k≠i->(l.setIfInBounds j true).getD k true=false->(∀ e∈ok.after,Region.binds md e=true->e.on≠i)->oi.apart ops ok=true:=fun k ok hk Wl VN hno=>by
    refine ND k ok hk Wl ?_ hno;by_cases hjk:j=k
    ·subst hjk;exact TD
    ·rw[getD_set_ne true hjk]at VN;exact VN
   refine wpOp_mono (fun a' w' h3=>?_) h2;have gK:(l.setIfInBounds j true).getD z true=false->S w':=fun e=>h3.2.1 (by rw[Array.setIfInBounds_comm _ _<|Ne.symm ME,getD_set_ne true VY];exact e);refine⟨gK,ih (l.setIfInBounds j true) a' w' Oy (ready_mono hr<|Ne.symm ME) h3.1 gK ?_⟩;rw[Array.setIfInBounds_comm _ _ ME];exact h3.2.2
def tf (i:Nat)(v:Value){n:Nat}{l:Array Bool}{a:Act}{w:World}(hS:S w)(h:Ji z P md ops Q S n (l.setIfInBounds i true) (a.put oi.dst v) w)(hi:ops[i]?=some oi:=by rfl)(hs:Region.noSelect ops=true:=by kernel_rfl)(hf:Region.free md ops l i=true:=by kernel_rfl)(hr:(Region.ready md ops l).contains i=true:=by kernel_rfl)(VY:i≠z:=by decide)(hQ: ∀ c a w,Q (.panic c) (a.put oi.dst v) w->Q (.panic c) a w:=by exact fun _ _ _ h=>h)(hw:Region.wanted oi (yielded ops a.tmps)=true:=by rfl)(hy: ∀ u,(fun _=>True) u->(execOp a.eval oi).run P u= .ok (.value v) u:=by intro _ _;go_simp):Ji z P md ops Q S (n+1) l a w:=
 Zzw hi (Region.noSelect_spec hs) VY hQ n l a w (Region.free_spec hi hf) (by simpa using hr) (Or.inl ⟨hw,hy⟩) (fun _=>hS) h
end
end Go.W
