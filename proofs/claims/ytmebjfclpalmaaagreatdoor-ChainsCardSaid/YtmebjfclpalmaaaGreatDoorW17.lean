import Derived.Test.YtmebjfclpalmaaaGreatDoorW16
set_option maxRecDepth 100000
set_option maxHeartbeats 8000000
set_option linter.unusedSimpArgs false
open Go.Proofs Go.RowKit Go.W Tryz
namespace Go.W
theorem Z6x (a b:Nat)(ha:a < 8)(hb:b < 8):bits BinOp.or IntKind.u64 (a:Int) (b:Int)=((a ||| b:Nat):Int):=by
 have h1:a=0\/a=1\/a=2\/a=3\/a=4\/a=5\/a=6\/a=7:=by omega
 have h2:b=0\/b=1\/b=2\/b=3\/b=4\/b=5\/b=6\/b=7:=by omega
 rcases h1 with rfl | rfl | rfl | rfl | rfl | rfl | rfl | rfl <;> rcases h2 with rfl | rfl | rfl | rfl | rfl | rfl | rfl | rfl <;> rfl
end Go.W
namespace Go.P
open Go.RowKit Go.W Go.Shelf
variable {w:World}
attribute [local go_sem] Yea
theorem Zxq {P:Program}{c:Code}{Q:Exit->Act->World->Prop}{a:Act}(K3:Act->World->Prop)(h:c.wp P (Exit.then K3 (fun _ _ _=>False)) a w)(hk: ∀ a w,K3 a w->Q .normal a w):c.wp P Q a w:=
 Code.wp_mono (fun e a w q=>by cases e <;> first | exact hk _ _ q | exact q.elim) h
theorem Zuf {q p m:Nat}{cs:Array Value}{x:Pt}{gs:List Gt}{S:List Nat}{fs:List (ByteArray×Nat)}{vs:List T}{F:List Nat}{ov:Value}{Fo:List Nat}(h:Ctx w q p m cs [x] gs S fs vs F [] ov Fo)(hl:gs.length<=1){seen now sN a0 fit:Nat}(hse:seen<=60)(hno:now<=60)(hsN:bits BinOp.andNot IntKind.u64 ((2 ^ now - 1:Nat):Int) ((2 ^ seen - 1:Nat):Int)=(sN:Int))(hs8:sN < 8)(c8:cs[8]?=some (.int .u64 (a0:Int)))(ha8:a0 < 8)(hb: ∀ n,n∈Za5 sN->n < fs.length)(ha: ∀ n,n∈Za5 sN->(Zci [] x.1 x.2 (fs.getD n (⟨#[]⟩,0))).1=true-> ∀ y,y∈gs->Z5l (Zci [] x.1 x.2 (fs.getD n (⟨#[]⟩,0))).2 vs y)(hfit:Zdy fs x.1 x.2 (Za5 sN)=fit)(hb2: ∀ n,n∈Za5 (a0 ||| fit)->n < fs.length):
  Calls prog 218 #[.pointer (some ⟨q,0,none⟩),.int .i64 (seen:Int),.int .i64 (now:Int)] w fun e w'=>e= .returned (.tuple #[])/\ ∃ ov' Fo',Ctx w' q p m (cs.setIfInBounds 8 (.int .u64 ((a0 ||| fit:Nat):Int))) [x] gs S fs vs F [] ov' Fo'/\Off (q::m::Fo) w w'/\ ∀ i,i∈Fo'->i∈Fo\/w.heap.size<=i:=by
 obtain⟨pa,ca,c3,hA⟩:=h.rd.atoms;obtain⟨ga,g,c,rfl,hgaS,hgS,a1,a1',hsl⟩:=hA 0 x rfl;have hfl:fit < 8:=hfit▸Ze2 _ _ _ fun k hk=>Zcp hk;have hor:=Z6x a0 fit ha8 hfl;have haf:a0 ||| fit < 8:=Nat.or_lt_two_pow (n:=3) ha8 hfl;simp only[Ydp,Ydt,Yd7,Yex]at a1 a1' c3;have q3:=(h.cell 3 (by omega)).trans c3;have q8:=(h.cell 8 (by omega)).trans c8;have h8s:Box (8 < cs.size):=⟨(Ydo.1 c8).1⟩;have qs:=h.bd.blk.soft;have hql:=h.bd.blk.lt;have hgl:=h.rd.lS ga hgaS;have CN:=Zaa (Zie now hno);have CS:=Zaa (Zie seen hse);have H:=Zaa h;generalize a0 ||| fit=af at*;clear h hA;refine(callsIn_wide (n:=5)).1 ?_;refine callsIn_of_wp_marks func218 rfl trivial ?_ rfl;simp only[ntmps218,Ydn,Ydp,Ydt,Nat.reduceAdd,Nat.reduceSub,Ydx,Ydw,Yd2,Ydz,Ydy,Ydv];refine wpIn_wide.2 ?_;obtain⟨W2,hW2⟩: ∃ W2,Box ((w.alloc (.cells #[.pointer (some ⟨q,0,none⟩)] 330)).alloc (.cells #[.int .i64 (seen:Int)] 3)=W2):=⟨_,⟨rfl⟩⟩;have B2:Box (Below w.heap.size w W2):=⟨hW2.out▸((Ydb _ w).alloc lr _).alloc (by simp) _⟩;have S2:Box (W2.heap.size=w.heap.size+2):=⟨by rw[<- hW2.out];simp⟩;have L0:Box (Blk W2 w.heap.size #[.pointer (some ⟨q,0,none⟩)] 330):=⟨hW2.out▸(Blk.new w _ _).alloc _⟩;have L1:Box (Blk W2 (w.heap.size+1) #[.int .i64 (seen:Int)] 3):=⟨hW2.out▸Zpo w _ _ _⟩;have LL:=Zaa (Yda L0.out L1.out);have C2:=Zaa (H.out.below B2.out);have z1:=(Yde (a:=⟨ga,0,none⟩) (B2.out.block ga hgl)).trans a1;have z1':=(Yde (a:=⟨ga,1,none⟩) (B2.out.block ga hgl)).trans a1';go_wp2_with fail
 rw[hW2.out];refine Ye7 2 ?_;rw[Ye5];go_wp2_with fail
 obtain⟨W3,hW3⟩: ∃ W3,W2.alloc (.cells #[.string x.1,.slice (some ⟨g,0,none⟩) 1 c] 324)=W3:=⟨_,rfl⟩;have B3:Box (Below W2.heap.size W2 W3):=⟨hW3▸(Ydb _ W2).alloc lr _⟩;have S3:Box (W3.heap.size=w.heap.size+3):=⟨by rw[<- hW3];simp[S2.out]⟩;have L2:Box (Blk W3 W2.heap.size #[.string x.1,.slice (some ⟨g,0,none⟩) 1 c] 324):=⟨hW3▸Blk.new W2 _ _⟩;have C3:=Zaa (C2.out.below B3.out);have BX:Box (∀ u:World,(∀ j,w.heap.size<=j->j < w.heap.size+3->u.heap[j]?=W3.heap[j]?)->u.cell? ⟨w.heap.size,0,none⟩=some (.pointer (some ⟨q,0,none⟩))/\u.cell? ⟨w.heap.size+1,0,none⟩=some (.int .i64 (seen:Int))/\u.cell? ⟨W2.heap.size,0,none⟩=some (.string x.1)/\u.cell? ⟨W2.heap.size,1,none⟩=some (.slice (some ⟨g,0,none⟩) 1 c)):=⟨fun u hu=>by
  have h2:=S2.out;have e0:=(L0.out.of (B3.out.block w.heap.size (by omega))).of (hu w.heap.size (by omega) (by omega));have e1:=(L1.out.of (B3.out.block (w.heap.size+1) (by omega))).of (hu (w.heap.size+1) (by omega) (by omega));have e2:=L2.out.of (hu W2.heap.size (by omega) (by omega));exact⟨e0.one.1,e1.one.1,e2.two.1,e2.two.2.1⟩⟩
 have hS0:=BX.out W3.drew fun _ _ _=>rfl;have nB: ∀ j,w.heap.size<=j->j∉q::m::Fo:=fun j hj h=>by have:=H.out.bd.lt j h;omega
 have KS:Box (∀ w5,Off (q::m::Fo) W3.drew w5->w5.cell? ⟨w.heap.size,0,none⟩=some (.pointer (some ⟨q,0,none⟩))/\w5.cell? ⟨w.heap.size+1,0,none⟩=some (.int .i64 (seen:Int))/\w5.cell? ⟨W2.heap.size,0,none⟩=some (.string x.1)/\w5.cell? ⟨W2.heap.size,1,none⟩=some (.slice (some ⟨g,0,none⟩) 1 c)):=⟨fun w5 ho=>BX.out w5 fun j h1 h2=>ho.block j (by have:=S3.out;show j < W3.heap.size;omega) (nB j h1)⟩;have hsl3:Zdu W3.drew g x.2:=(hsl.of B2.out.size (B2.out.block g hsl.1)).of B3.out.size (B3.out.block g (Ydh hsl.1 B2.out.size));have CF:=Zaa (Zho (C3.out.below (Ydb _ W3).drew) hl (c:=c) hsl3 hgS x.1 sN hs8 hb ha);rw[hfit]at CF;have q83:=(C3.out.cell 8 (by omega)).trans c8;have HFT:=Zaa hfit;clear hfit hsl3 hb ha;rw[hW3];clear hW3;obtain⟨K3,hK3⟩: ∃ K3:Act->World->Prop,Box (∀ a' w5,K3 a' w5↔(a'={tmps:=#[.pointer (some ⟨q,0,none⟩),.int .i64 (seen:Int),.int .i64 (now:Int),.pointer (some ⟨w.heap.size,0,none⟩),.pointer (some ⟨w.heap.size+1,0,none⟩),undef,.int .i64 0,.pointer (some ⟨W2.heap.size,0,none⟩),undef,undef,.pointer (some ⟨q,0,none⟩),.pointer (some ⟨q,0,none⟩),.pointer (some ⟨q,3,none⟩),.slice (some ⟨ga,0,none⟩) 1 ca,.int .i64 1,.int .i64 0,.bool true,.int .i64 0,.pointer (some ⟨ga,0,none⟩),.agg #[.string x.1,.slice (some ⟨g,0,none⟩) 1 c],.pointer (some ⟨q,0,none⟩),.int .i64 0,.pointer (some ⟨q,0,none⟩),.pointer (some ⟨q,8,none⟩),.pointer (some ⟨q,8,none⟩),.int .u64 (a0:Int),.pointer (some ⟨q,0,none⟩),.agg #[.string x.1,.slice (some ⟨g,0,none⟩) 1 c],.int .i64 (now:Int),.int .u64 ((2 ^ now - 1:Nat):Int),.int .i64 (seen:Int),.int .u64 ((2 ^ seen - 1:Nat):Int),.int .u64 (sN:Int),.int .u64 (fit:Int),.int .u64 (af:Int),.pointer (some ⟨q,0,none⟩),.pointer (some ⟨q,8,none⟩),.pointer (some ⟨q,8,none⟩),undef,undef,undef,undef,undef,undef,undef,undef,undef,undef,undef,undef,undef,undef,undef,undef,undef,undef,undef,undef,undef,undef,undef],defers:=[]}/\ ∃ ov5 F5,Ctx w5 q p m (cs.setIfInBounds 8 (.int .u64 (af:Int))) [x] gs S fs vs F [] ov5 F5/\Off (q::m::Fo) W3.drew w5/\ ∀ i,i∈F5->i∈Fo\/W3.drew.heap.size<=i)):=⟨_,⟨fun _ _=>Iff.rfl⟩⟩;refine Zxq K3 ?_ ?_;refine Yfl (S:=fun u=>u.cell? ⟨w.heap.size,0,none⟩=some (.pointer (some ⟨q,0,none⟩))/\u.cell? ⟨w.heap.size+1,0,none⟩=some (.int .i64 (seen:Int))/\u.cell? ⟨W2.heap.size,0,none⟩=some (.string x.1)/\u.cell? ⟨W2.heap.size,1,none⟩=some (.slice (some ⟨g,0,none⟩) 1 c)) (by kernel_rfl) ?_;change wpAnyH _ _ _ _ _ _ _ _ (World.drew _);refine tk 0 (.pointer (some ⟨q,0,none⟩)) hS0 (hy:=fun u hS=>by obtain⟨s0,s1,s2,s3⟩:=hS;go_simp) ?_;try simp only[zz]
 refine tk 1 (.int .i64 0) hS0 ?_;try simp only[zz]
 refine tk 2 (.pointer (some ⟨q,0,none⟩)) hS0 ?_;try simp only[zz]
 refine tk 3 (.pointer (some ⟨q,8,none⟩)) hS0 ?_;try simp only[zz]
 refine tk 4 (.pointer (some ⟨q,8,none⟩)) hS0 ?_;try simp only[zz]
 refine tk 6 (.pointer (some ⟨q,0,none⟩)) hS0 (hy:=fun u hS=>by obtain⟨s0,s1,s2,s3⟩:=hS;go_simp) ?_;try simp only[zz]
 refine tk 7 (.agg #[.string x.1,.slice (some ⟨g,0,none⟩) 1 c]) hS0 (hy:=fun u hS=>by obtain⟨s0,s1,s2,s3⟩:=hS;go_simp) ?_;try simp only[zz]
 refine tk 8 (.int .i64 (now:Int)) hS0 ?_;try simp only[zz]
 refine tk 10 (.int .i64 (seen:Int)) hS0 (hy:=fun u hS=>by obtain⟨s0,s1,s2,s3⟩:=hS;go_simp) ?_;try simp only[zz]
 refine tk 15 (.pointer (some ⟨q,0,none⟩)) hS0 ?_;try simp only[zz]
 refine tk 16 (.pointer (some ⟨q,8,none⟩)) hS0 ?_;try simp only[zz]
 refine Yfc (rs:=[5,9]) (by kernel_rfl) (by simp) (Ydr rfl (fun K' hK'=>?_) (Ydr rfl (fun K' hK'=>?_) Ydu))
 ·go_simp;refine hK'.out _ _ hS0 fun _=>?_;try simp only[zz]
  refine Yfc (rs:=[9]) (by kernel_rfl) (by simp) (Ydr rfl (fun K' hK'=>?_) Ydu);go_simp;refine(CN.out _).mono ?_;rintro e _ ⟨rfl,rfl⟩;refine hK'.out _ _ hS0 fun _=>?_;try simp only[zz]
  refine Yfc (rs:=[11]) (by kernel_rfl) (by simp) (Ydr rfl (fun K' hK'=>?_) Ydu);go_simp;refine(CS.out _).mono ?_;rintro e _ ⟨rfl,rfl⟩;refine hK'.out _ _ hS0 fun _=>?_;try simp only[zz]
  refine tk 12 (.int .u64 (sN:Int)) hS0 ?_;try simp only[zz]
  refine Yfc (rs:=[13]) (by kernel_rfl) (by simp) (Ydr rfl (fun K' hK'=>?_) Ydu);go_simp;refine CF.out.mono ?_;rintro e w5 ⟨rfl,ov5,F5,hc5,ho5,hs5⟩;have hS5:=KS.out w5 ho5;have q85:=(hc5.cell 8 (by omega)).trans c8;have qs5:=hc5.bd.blk.soft;refine hK'.out _ _ hS5 fun _=>?_;try simp only[zz]
  refine tk 14 (.int .u64 (af:Int)) hS5 ?_;try simp only[zz]
  refine tk 17 (.pointer (some ⟨q,8,none⟩)) hS5 ?_;try simp only[zz]
  refine Yfc (rs:=[18]) (by kernel_rfl) (by simp) (Ydr rfl (fun K' hK'=>?_) Ydu);go_simp;have hop:=ho5.set q 8 (.int .u64 (af:Int)) (by simp);refine hK'.out _ _ (KS.out _ hop) fun _=>?_;try simp only[zz]
  refine Yfi (by kernel_rfl) ?_ _;exact(hK3.out _ _).2 ⟨rfl,ov5,F5,hc5.put 8 lr (.int .u64 (af:Int)),hop,hs5⟩
 ·go_simp;refine(CN.out _).mono ?_;rintro e _ ⟨rfl,rfl⟩;refine hK'.out _ _ hS0 fun _=>?_;try simp only[zz]
  refine Yfc (rs:=[5,11]) (by kernel_rfl) (by simp) (Ydr rfl (fun K' hK'=>?_) (Ydr rfl (fun K' hK'=>?_) Ydu))
  ·go_simp;refine hK'.out _ _ hS0 fun _=>?_;try simp only[zz]
   refine Yfc (rs:=[11]) (by kernel_rfl) (by simp) (Ydr rfl (fun K' hK'=>?_) Ydu);go_simp;refine(CS.out _).mono ?_;rintro e _ ⟨rfl,rfl⟩;refine hK'.out _ _ hS0 fun _=>?_;try simp only[zz]
   refine tk 12 (.int .u64 (sN:Int)) hS0 ?_;try simp only[zz]
   refine Yfc (rs:=[13]) (by kernel_rfl) (by simp) (Ydr rfl (fun K' hK'=>?_) Ydu);go_simp;refine CF.out.mono ?_;rintro e w5 ⟨rfl,ov5,F5,hc5,ho5,hs5⟩;have hS5:=KS.out w5 ho5;have q85:=(hc5.cell 8 (by omega)).trans c8;have qs5:=hc5.bd.blk.soft;refine hK'.out _ _ hS5 fun _=>?_;try simp only[zz]
   refine tk 14 (.int .u64 (af:Int)) hS5 ?_;try simp only[zz]
   refine tk 17 (.pointer (some ⟨q,8,none⟩)) hS5 ?_;try simp only[zz]
   refine Yfc (rs:=[18]) (by kernel_rfl) (by simp) (Ydr rfl (fun K' hK'=>?_) Ydu);go_simp;have hop:=ho5.set q 8 (.int .u64 (af:Int)) (by simp);refine hK'.out _ _ (KS.out _ hop) fun _=>?_;try simp only[zz]
   refine Yfi (by kernel_rfl) ?_ _;exact(hK3.out _ _).2 ⟨rfl,ov5,F5,hc5.put 8 lr (.int .u64 (af:Int)),hop,hs5⟩
  ·go_simp;refine(CS.out _).mono ?_;rintro e _ ⟨rfl,rfl⟩;refine hK'.out _ _ hS0 fun _=>?_;try simp only[zz]
   refine tk 12 (.int .u64 (sN:Int)) hS0 ?_;try simp only[zz]
   refine Yfc (rs:=[5,13]) (by kernel_rfl) (by simp) (Ydr rfl (fun K' hK'=>?_) (Ydr rfl (fun K' hK'=>?_) Ydu))
   ·go_simp;refine hK'.out _ _ hS0 fun _=>?_;try simp only[zz]
    refine Yfc (rs:=[13]) (by kernel_rfl) (by simp) (Ydr rfl (fun K' hK'=>?_) Ydu);go_simp;refine CF.out.mono ?_;rintro e w5 ⟨rfl,ov5,F5,hc5,ho5,hs5⟩;have hS5:=KS.out w5 ho5;have q85:=(hc5.cell 8 (by omega)).trans c8;have qs5:=hc5.bd.blk.soft;refine hK'.out _ _ hS5 fun _=>?_;try simp only[zz]
    refine tk 14 (.int .u64 (af:Int)) hS5 ?_;try simp only[zz]
    refine tk 17 (.pointer (some ⟨q,8,none⟩)) hS5 ?_;try simp only[zz]
    refine Yfc (rs:=[18]) (by kernel_rfl) (by simp) (Ydr rfl (fun K' hK'=>?_) Ydu);go_simp;have hop:=ho5.set q 8 (.int .u64 (af:Int)) (by simp);refine hK'.out _ _ (KS.out _ hop) fun _=>?_;try simp only[zz]
    refine Yfi (by kernel_rfl) ?_ _;exact(hK3.out _ _).2 ⟨rfl,ov5,F5,hc5.put 8 lr (.int .u64 (af:Int)),hop,hs5⟩
   ·go_simp;refine CF.out.mono ?_;rintro e w5 ⟨rfl,ov5,F5,hc5,ho5,hs5⟩;have hS5:=KS.out w5 ho5;have q85:=(hc5.cell 8 (by omega)).trans c8;have qs5:=hc5.bd.blk.soft;refine hK'.out _ _ hS5 fun _=>?_;try simp only[zz]
    refine Yfc (rs:=[5]) (by kernel_rfl) (by simp) (Ydr rfl (fun K' hK'=>?_) Ydu);go_simp;refine hK'.out _ _ hS5 fun _=>?_;try simp only[zz]
    refine tk 14 (.int .u64 (af:Int)) hS5 ?_;try simp only[zz]
    refine tk 17 (.pointer (some ⟨q,8,none⟩)) hS5 ?_;try simp only[zz]
    refine Yfc (rs:=[18]) (by kernel_rfl) (by simp) (Ydr rfl (fun K' hK'=>?_) Ydu);go_simp;have hop:=ho5.set q 8 (.int .u64 (af:Int)) (by simp);refine hK'.out _ _ (KS.out _ hop) fun _=>?_;try simp only[zz]
    refine Yfi (by kernel_rfl) ?_ _;exact(hK3.out _ _).2 ⟨rfl,ov5,F5,hc5.put 8 lr (.int .u64 (af:Int)),hop,hs5⟩
 intro a' w5 h5;obtain⟨rfl,ov5,F5,hc5,ho5,hs5⟩:=(hK3.out _ _).1 h5;clear h5 hK3 K3;dsimp only;have q35:w5.cell? ⟨q,3,none⟩=some (.slice (some ⟨ga,0,none⟩) 1 ca):=by
  rw[hc5.cell 3 (by omega),Ydd,if_neg (by omega)];exact c3
 have q85:w5.cell? ⟨q,8,none⟩=some (.int .u64 (af:Int)):=by
  rw[hc5.cell 8 (by omega),Ydd,if_pos rfl,if_pos (by have:=h8s.out;omega)]
 obtain⟨y0,y1,y2,y3⟩:=KS.out w5 ho5;have FF:=Zaa (Yda hc5 (Yda ho5 hs5));clear hc5 ho5 hs5 CF CN CS q83 hS0 nB z1 z1' L0 L1 L2 C2 C3 q3 q8 a1 a1';go_wp2_with fail
 rw[Ye5];go_wp2_with fail
 have hw5:w.heap.size+3<=w5.heap.size:=by have h1:W3.heap.size<=w5.heap.size:=FF.out.2.1.size;have:=S3.out;omega
 have hq5:q < w5.heap.size:=by omega
 refine Ye7 2 ?_;rw[Ye5];go_wp2_with fail
 have hwl:w.heap.size < w5.heap.size:=by omega
 have hwl1:w.heap.size+1 < w5.heap.size:=by omega
 have hmf:=fun(fn:Fn) (first cap:Array Value) (w:World)=>(rfl:(Instr.makeFunc fn first cap).run prog w= .ok (.func fn first cap) w);go_quiet (fail)
 go_wp2_with fail
 obtain⟨W6,hW6⟩: ∃ W6,(w5.alloc (.cells #[.int .i64 0] 3)).drewN nq=W6:=⟨_,rfl⟩;have B6:Box (Below w5.heap.size w5 W6):=⟨hW6▸Zb6 ((Ydb _ w5).alloc lr _)⟩;have S6:Box (W6.heap.size=w5.heap.size+1):=⟨by rw[<- hW6];simp⟩;have Li:Box (Blk W6 w5.heap.size #[.int .i64 0] 3):=⟨hW6▸(Blk.new w5 _ _).dr _⟩;rw[hW6];clear hW6 hmf;have eB:=S6.out;have O6:Box (Off (q::m::Fo) w W6):=⟨((Off.of B2.out).trans ((Off.of (F:=q::m::Fo) B3.out).drew.trans (FF.out.2.1.trans (Off.of (F:=[]) B6.out) fun _ h=>(by cases h)) fun _ h=> .inl h) fun _ h=> .inl h)⟩;have hFl:=H.out.bd.lt;have sub5: ∀ i,i∈F5->i∈Fo\/(w.heap.size+3<=i/\i < w5.heap.size)\/w5.heap.size+3<=i:=fun i hi=>(FF.out.2.2 i hi).imp id fun h=> .inl ⟨by have h:W3.heap.size<=i:=h;have:=S3.out;omega,FF.out.1.bd.lt i (by simp[hi])⟩;have OT:Box (∀ W W' ov' Fo',Ctx W q p m (cs.setIfInBounds 8 (.int .u64 (af:Int))) [x] gs S fs vs F [] ov' Fo'->(∀ i,i∈Fo'->i∈Fo\/(w.heap.size+3<=i/\i < w5.heap.size)\/w5.heap.size+3<=i)->Off [W6.heap.size,W6.heap.size+1] W W'->Ctx W' q p m (cs.setIfInBounds 8 (.int .u64 (af:Int))) [x] gs S fs vs F [] ov' Fo'):=⟨fun W W' ov' Fo' hc hsb k=>hc.other k fun j hj=>by
  have hj':w5.heap.size+1<=j/\j < w5.heap.size+3:=by simp at hj;omega
  refine⟨fun h=>?_,fun h=>by have:=H.out.wd.lt j h;omega,fun h=>by have:=H.out.rd.lS j h;omega,Ydc H.out.gl.2.2 (by omega)⟩;simp only[Ydj]at h;rcases h with rfl | rfl | h
  ·omega
  ·have:=hFl j (by simp);omega
  ·rcases hsb j h with h | h | h
   ·have:=hFl j (by simp[h]);omega
   ·omega
   ·omega⟩
 have hub: ∀ (u:World),(∀ j,w.heap.size<=j->j < w.heap.size+3->u.heap[j]?=W3.heap[j]?)->Blk u w.heap.size #[.pointer (some ⟨q,0,none⟩)] 330/\Blk u (w.heap.size+1) #[.int .i64 (seen:Int)] 3:=fun u hu=>by
  have h2:=S2.out;exact⟨(LL.out.1.of (B3.out.block w.heap.size (by omega))).of (hu w.heap.size (by omega) (by omega)),(LL.out.2.of (B3.out.block (w.heap.size+1) (by omega))).of (hu (w.heap.size+1) (by omega) (by omega))⟩
 have hbx6:=hub W6 fun j h1 h2=>(B6.out.block j (by omega)).trans (FF.out.2.1.block j (by have:=S3.out;show j < W3.heap.size;omega) (fun h=>by have:=hFl j h;omega));refine(wpIn_wide (n:=5)).1 ?_;refine Zf5 (K:=247) (s:=af) (xs:=Za5 af) (Z:=Z5j) rfl (Zam func247 (by kernel_rfl) rfl) (Zjz _ af haf) rfl
  (fun _ W=> ∃ ov' Fo',Ctx W q p m (cs.setIfInBounds 8 (.int .u64 (af:Int))) [x] gs S fs vs F [] ov' Fo'/\Blk W w.heap.size #[.pointer (some ⟨q,0,none⟩)] 330/\Blk W (w.heap.size+1) #[.int .i64 (seen:Int)] 3/\Blk W w5.heap.size #[.int .i64 0] 3/\Off (q::m::Fo) w W/\ ∀ i,i∈Fo'->i∈Fo\/(w.heap.size+3<=i/\i < w5.heap.size)\/w5.heap.size+3<=i)
  (fun _ _=>False) (fun _ _ ⟨_,_,hc,_⟩=>hc.gl.1) ?_ (fun _ _ _ h _=>h) ⟨ov5,F5,FF.out.1.below B6.out,hbx6.1,hbx6.2,Li.out,O6.out,sub5⟩
  (fun n=>{tmps:=#[.pointer (some ⟨q,0,none⟩),.int .i64 (seen:Int),.int .i64 (now:Int),.pointer (some ⟨w.heap.size,0,none⟩),.pointer (some ⟨w.heap.size+1,0,none⟩),undef,.int .i64 0,.pointer (some ⟨W2.heap.size,0,none⟩),.pointer (some ⟨w5.heap.size,0,none⟩),.int .i64 (n:Int),.pointer (some ⟨q,0,none⟩),.pointer (some ⟨q,0,none⟩),.pointer (some ⟨q,3,none⟩),.slice (some ⟨ga,0,none⟩) 1 ca,.int .i64 1,.int .i64 1,.bool false,.int .i64 0,.pointer (some ⟨ga,0,none⟩),.agg #[.string x.1,.slice (some ⟨g,0,none⟩) 1 c],.pointer (some ⟨q,0,none⟩),.int .i64 0,.pointer (some ⟨q,0,none⟩),.pointer (some ⟨q,8,none⟩),.pointer (some ⟨q,8,none⟩),.int .u64 (a0:Int),.pointer (some ⟨q,0,none⟩),.agg #[.string x.1,.slice (some ⟨g,0,none⟩) 1 c],.int .i64 (now:Int),.int .u64 ((2 ^ now - 1:Nat):Int),.int .i64 (seen:Int),.int .u64 ((2 ^ seen - 1:Nat):Int),.int .u64 (sN:Int),.int .u64 (fit:Int),.int .u64 (af:Int),.pointer (some ⟨q,0,none⟩),.pointer (some ⟨q,8,none⟩),.pointer (some ⟨q,8,none⟩),.int .i64 1,.pointer (some ⟨q,0,none⟩),.pointer (some ⟨q,0,none⟩),.pointer (some ⟨q,3,none⟩),.slice (some ⟨ga,0,none⟩) 1 ca,.int .i64 1,.int .i64 0,.bool true,.int .i64 0,.pointer (some ⟨q,0,none⟩),.int .i64 0,.pointer (some ⟨q,0,none⟩),.pointer (some ⟨q,8,none⟩),.pointer (some ⟨q,8,none⟩),.int .u64 (af:Int),.func (.func 247) #[.int .u64 (af:Int)] #[],.int .i64 (n:Int),undef,undef,undef,undef,undef,undef],defers:=[]}) ?assign ?body ?done (fun _ _ h _=>h.elim)
 ·rintro pre W W' ⟨ov',Fo',hc,b0,b1,b2,ho,hsb⟩ k;have nn: ∀ j,j < w5.heap.size+1->j∉[W6.heap.size,W6.heap.size+1]:=fun j hj=>by simp;omega
  refine⟨ov',Fo',OT.out W W' _ _ hc hsb k,b0.of (k.block _ b0.lt (nn _ (by omega))),b1.of (k.block _ b1.lt (nn _ (by omega))),b2.of (k.block _ b2.lt (nn _ (by omega))),ho.trans k fun i hi=>?_,hsb⟩;simp at hi;exact .inr (by omega)
 case assign=>
  intro l n W K hK;gi_wp2
  exact hK
 case body=>
  rintro l pre n rest W hx ⟨ov',Fo',hc,b0,b1,b2,ho,hsb⟩ hW;have hnl:=hb2 n (by rw[hx];simp);obtain⟨fx,hfx⟩: ∃ fx,fs[n]?=some fx:=⟨_,Ydi hnl⟩;have CB:=Zaa (Zng hc (i:=0) (seen:=seen) (x:=x) rfl rfl (by simp) hfx);have c0:=b0.one.1;have c1:=b1.one.1;have c2:=b2.one.1;have HH:=Zaa (Yda hc (Yda b0 (Yda b1 (Yda b2 (Yda ho hsb)))));clear hc b0 b1 b2 ho hsb;gi_wp2
  refine⟨trivial,(CallsIn.inRound l (callsIn_wide.2 CB.out)).mono ?_⟩;rintro e w7 ⟨rfl,ov7,F7,hc7,ho7,hs7⟩;gi_wp2
  obtain⟨hc,b0,b1,b2,ho,hsb⟩:=HH.out;have nB': ∀ j,w.heap.size<=j->(j < w.heap.size+3\/w5.heap.size<=j)->j < w5.heap.size+3->j∉q::m::Fo':=fun j h1 h2 h3 h=>by
   simp only[Ydj]at h;rcases h with rfl | rfl | h
   ·omega
   ·have:=hFl j (by simp);omega
   ·rcases hsb j h with h | h | h
    ·have:=hFl j (by simp[h]);omega
    ·omega
    ·omega
  refine⟨⟨ho7.block _ (by omega) (nB' _ (by omega) (by omega) (by omega)),ho7.block _ (by omega) (nB' _ (by omega) (by omega) (by omega))⟩,ov7,F7,hc7,b0.of (ho7.block _ b0.lt (nB' _ (by omega) (by omega) (by omega))),b1.of (ho7.block _ b1.lt (nB' _ (by omega) (by omega) (by omega))),b2.of (ho7.block _ b2.lt (nB' _ (by omega) (by omega) (by omega))),ho.trans ho7 fun i hi=>?_,fun i hi=>?_⟩
  ·simp only[Ydj]at hi⊢;rcases hi with h | h | h
   ·exact .inl (.inl h)
   ·exact .inl (.inr (.inl h))
   ·rcases hsb i h with h | h | h
    ·exact .inl (.inr (.inr h))
    ·exact .inr (by omega)
    ·exact .inr (by omega)
  ·rcases hs7 i hi with h | h
   ·exact hsb i h
   ·exact .inr (.inr (by omega))
 case done=>
  rintro W ⟨ov',Fo',hc,b0,b1,b2,ho,hsb⟩ hD;have FO:=Zaa (Yda hc (Yda ho hsb));clear hc b0 b1 b2 ho hsb;go_wp2_with fail
  rw[Ye5];go_wp2_with fail
  have k:Off [W6.heap.size,W6.heap.size+1] W (W.putObj W6.heap.size (.deferred none)):=Off.putObj _ (by simp);refine⟨by simp,.inl ⟨_,_,rfl,run_takeDeferred hD,?_⟩⟩;refine⟨_,results_none rfl _ _ _,rfl,ov',Fo',OT.out _ _ _ _ FO.out.1 FO.out.2.2 k,FO.out.2.1.trans k fun i hi=>?_,fun i hi=>(FO.out.2.2 i hi).imp id (by omega)⟩;simp at hi;exact .inr (by omega)
end Go.P
namespace Go.W
end Go.W
namespace Go.P
attribute [local go_sem] Yea
theorem Z7k {w:World}{q p m:Nat}{cs:Array Value}{at_:List Pt}{gs:List Gt}{S:List Nat}{fs:List (ByteArray×Nat)}{vs:List T}{F:List Nat}{xs:List (ByteArray×Nat)}{ov:Value}{Fo:List Nat}(h:Ctx w q p m cs at_ gs S fs vs F xs ov Fo){b v k:Nat}(hw:Zjj w q b v)(l0 l1 l2 l3:Nat)(CH: ∀ u,Below w.heap.size w u->Calls prog 222 #[.pointer (some ⟨q,0,none⟩),.agg #[.int .u64 (l0:Int),.int .u64 (l1:Int),.int .u64 (l2:Int),.int .u64 (l3:Int)]] u fun e w'=>e= .returned (.bool true)/\Below u.heap.size u w'){ph:Option Addr}{ch g c:Nat}{pn:ByteArray}{s:ByteArray×Nat}(c5:cs[5]?=some (.slice ph k ch))(c1:cs[1]?=some (.string pn))(c2:cs[2]?=some (.slice (some ⟨g,0,none⟩) 1 c))(hg:Zdu w g s)(hn:Zjf (pn,(Zbn xs s).1) fs)(hl:fs.length < 60)(hbF:b∉F):
  Calls prog 268 #[.int .i64 (k:Int),.agg #[.int .u64 (l0:Int),.int .u64 (l1:Int),.int .u64 (l2:Int),.int .u64 (l3:Int)],.pointer (some ⟨b,0,none⟩),.pointer (some ⟨v,0,none⟩)] w fun e w'=>e= .returned (.bool true)/\ ∃ F',Zd3 w' p (fs++[(pn,(Zbn xs s).1)]) vs F'/\Off F w w'/\ ∀ i,i∈F'->i∈F\/w.heap.size<=i:=by
 obtain⟨po,co,rfl⟩:=h.bd.row.form;have HX:Box (∀ u,Below w.heap.size w u->(u.cell? ⟨b,0,none⟩=some (.pointer (some ⟨q,0,none⟩))/\u.cell? ⟨q,0,none⟩=some (.pointer (some ⟨p,0,none⟩))/\u.cell? ⟨q,1,none⟩=some (.string pn)/\u.cell? ⟨q,2,none⟩=some (.slice (some ⟨g,0,none⟩) 1 c)/\u.cell? ⟨q,6,none⟩=some (.map (some m))/\u.cell? ⟨q,7,none⟩=some (.slice po (xs.map (·.1)).length co))/\u.cell? ⟨q,5,none⟩=some (.slice ph k ch)):=⟨fun u hu=>by
  have h':=h.below hu;exact⟨⟨(hw.below hu).1.one.1,(h'.cell 0 (by omega)).trans h.rd.c0,(h'.cell 1 (by omega)).trans c1,(h'.cell 2 (by omega)).trans c2,h'.bd.cells.1,h'.bd.cells.2.1⟩,(h'.cell 5 (by omega)).trans c5⟩⟩
 have C5:=HX.out w (Ydb _ w);have c0: ∀ o,(w.alloc o).cell? ⟨b,0,none⟩=_:=fun o=>(hw.1.alloc o).one.1;have HC:=Zaa (fun o=>CH (w.alloc o) ((Ydb _ w).alloc lr o));have HF:Box (∀ u,Below w.heap.size w u->Calls prog 216 #[.agg #[.string pn,.slice (some ⟨g,0,none⟩) 1 c],.agg #[.map (some m),.slice po (xs.map (·.1)).length co]] u fun e w'=>e= .returned (.agg (Zey (pn,(Zbn xs s).1)).toArray)/\Below u.heap.size u w'):=⟨fun u hu=>Zqr (.inr ⟨m,rfl,(h.below hu).bd.map⟩) (fun m' e=>by cases e;exact(h.below hu).bd.map.lt) po _ co (hg.of hu.size (hu.block g hg.1)) pn⟩;have HJ:=Zaa (fun u (hu:Below w.heap.size w u)=>Zyi (h.below hu).wd (pn,(Zbn xs s).1) hn hl);have nq:q∉F:=fun e=>(h.dB q (by simp)).1 e;have lq:=h.bd.blk.lt;have lb:=hw.1.lt;clear h hw CH c5 c1 c2 hg hn C5;generalize hfx:(pn,(Zbn xs s).1)=fx at*;generalize (xs.map (·.1)).length=no at*;refine Yfn func268 rfl ?_;simp only[ntmps268,Ydn,Ydp,Ydt,Nat.reduceAdd,Nat.reduceSub,Ydx,Ydw,Yd2,Ydz,Ydy,Ydv];go_wp2_with fail
 refine(HC.out _).mono ?_;rintro e w5 ⟨rfl,hb⟩;have hB:Below w.heap.size w w5:=((Ydb _ w).alloc lr _).trans (hb.mono (by simp));have hB':Below w.heap.size w w5.drew:=hB.drew;have hS0:=(HX.out _ hB').1;obtain⟨⟨b0,q0,q1,q2,q6,q7⟩,q5⟩:=HX.out _ hB;have HB:=Zaa hB';clear hb hB hB';go_wp2_with fail
 have lb5:b < w5.heap.size:=Ydh lb HB.out.size;have lq5:q < w5.heap.size:=Ydh lq HB.out.size;refine Zxq (fun a' w'=>a'.tmps[6]?=some (.bool true)/\a'.defers=[]/\ ∃ F',Zd3 w' p (fs++[fx]) vs F'/\Off F w w'/\ ∀ i,i∈F'->i∈F\/w.heap.size<=i) ?_ ?_
 ·refine Yfl (S:=fun u=>u.cell? ⟨b,0,none⟩=some (.pointer (some ⟨q,0,none⟩))/\u.cell? ⟨q,0,none⟩=some (.pointer (some ⟨p,0,none⟩))/\u.cell? ⟨q,1,none⟩=some (.string pn)/\u.cell? ⟨q,2,none⟩=some (.slice (some ⟨g,0,none⟩) 1 c)/\u.cell? ⟨q,6,none⟩=some (.map (some m))/\u.cell? ⟨q,7,none⟩=some (.slice po no co)) (by kernel_rfl) ?_;change wpAnyH _ _ _ _ _ _ _ _ (World.drew _);refine tk 0 (.pointer (some ⟨q,0,none⟩)) hS0 (hy:=fun _ ⟨s0,s1,s2,s3,s4,s5⟩=>by go_simp) ?_;try simp only[zz]
  refine tk 1 (.pointer (some ⟨q,0,none⟩)) hS0 ?_;try simp only[zz]
  refine tk 2 (.pointer (some ⟨q,0,none⟩)) hS0 ?_;try simp only[zz]
  refine tk 3 (.pointer (some ⟨p,0,none⟩)) hS0 (hy:=fun _ ⟨s0,s1,s2,s3,s4,s5⟩=>by go_simp) ?_;try simp only[zz]
  refine tk 4 (.pointer (some ⟨q,0,none⟩)) hS0 (hy:=fun _ ⟨s0,s1,s2,s3,s4,s5⟩=>by go_simp) ?_;try simp only[zz]
  refine tk 5 (.pointer (some ⟨q,0,none⟩)) hS0 ?_;try simp only[zz]
  refine tk 6 (.pointer (some ⟨q,1,none⟩)) hS0 ?_;try simp only[zz]
  refine tk 7 (.agg #[.string pn,.slice (some ⟨g,0,none⟩) 1 c]) hS0 (hy:=fun _ ⟨s0,s1,s2,s3,s4,s5⟩=>by go_simp) ?_;try simp only[zz]
  refine tk 8 (.pointer (some ⟨q,0,none⟩)) hS0 (hy:=fun _ ⟨s0,s1,s2,s3,s4,s5⟩=>by go_simp) ?_;try simp only[zz]
  refine tk 9 (.pointer (some ⟨q,0,none⟩)) hS0 ?_;try simp only[zz]
  refine tk 10 (.pointer (some ⟨q,6,none⟩)) hS0 ?_;try simp only[zz]
  refine tk 11 (.agg #[.map (some m),.slice po no co]) hS0 (hy:=fun _ ⟨s0,s1,s2,s3,s4,s5⟩=>by go_simp) ?_;try simp only[zz]
  refine Yfc (rs:=[12]) (by kernel_rfl) (by simp) (Ydr rfl (fun K' hK'=>?_) Ydu);go_simp;refine(HF.out _ HB.out).mono ?_;rintro e w6 ⟨rfl,hb6⟩;have B6:=HB.out.trans (hb6.mono HB.out.size);have hS6:=(HX.out w6 B6).1;refine hK'.out _ _ hS6 fun _=>?_;try simp only[zz]
  refine Yfc (rs:=[13]) (by kernel_rfl) (by simp) (Ydr rfl (fun K' hK'=>?_) Ydu);go_simp;refine(HJ.out _ B6).mono ?_;rintro e w7 ⟨rfl,F',hw7,ho7,hs7⟩;have lb6:b < w6.heap.size:=Ydh lb B6.size;have lq6:q < w6.heap.size:=Ydh lq B6.size;have eb:=ho7.block b lb6 hbF;have eq:=ho7.block q lq6 nq;have cell: ∀ j,w7.cell? ⟨q,j,none⟩=w6.cell? ⟨q,j,none⟩:=fun j=>Yde (a:=⟨q,j,none⟩) eq;have hS7:=Yda ((Yde (a:=⟨b,0,none⟩) eb).trans hS6.1) (Yda ((cell 0).trans hS6.2.1) (Yda ((cell 1).trans hS6.2.2.1) (Yda ((cell 2).trans hS6.2.2.2.1) (Yda ((cell 6).trans hS6.2.2.2.2.1) ((cell 7).trans hS6.2.2.2.2.2)))));refine hK'.out _ _ hS7 fun _=>?_;try simp only[zz]
  refine tk 14 (.bool true) hS7 ?_;try simp only[zz]
  refine Yfi (by kernel_rfl) ?_ _;exact⟨rfl,rfl,F',hw7,(Off.of B6).trans ho7 fun _ h=> .inl h,fun i hi=>(hs7 i hi).imp id fun h=>Ydc B6.size h⟩
 rintro a' w' ⟨h6,hd,F',hw7,ho7,hs7⟩;go_wp2_with fail
 exact Ye6 (v:= .bool true) (by rw[results_tmp rfl,Array.getD_eq_getD_getElem?,h6];rfl) hd ⟨rfl,F',hw7,ho7,hs7⟩
end Go.P
namespace Go.W
open Go
variable {a:Act}{w:World}{oi o:Oper}{n:Nat}{l:Array Bool}
section
variable {P:Program} {md:Region.Mode} {ops:Array Oper} {Q:Exit->Act->World->Prop} {S:World->Prop} {z:Nat}
def Zd0 (z:Nat) (P:Program) (md:Region.Mode) (ops:Array Oper) (Q:Exit->Act->World->Prop) (S:World->Prop):Nat->Array Bool->Act->World->Prop
 | 0,l,a,w=>Region.ready md ops l=[]/\Q .normal a w
 | n+1,l,a,w=>(Region.ready md ops l=[]->Q .normal a w)/\ ∀ i∈Region.ready md ops l,wpOp P ops Q i (fun a' w'=>((l.setIfInBounds i true).getD z true=false->S w')/\Zd0 z P md ops Q S n (l.setIfInBounds i true) a' w') a w
theorem Zlc: ∀ (n:Nat) (l:Array Bool) (a:Act) (w:World),Zd0 z P md ops Q S n l a w->wpAny P md ops Q n l a w
 | 0,_,_,_,h=>h
 | n+1,_,_,_,h=>⟨h.1,fun i hi=>wpOp_mono (fun a' w' h'=>Zlc n _ a' w' h'.2) (h.2 i hi)⟩
theorem Zat {id:Nat}(z:Nat)(S:World->Prop)(hm:P.follows .mixedOrders=true)(h:Zd0 z P .any ops Q S ops.size (Array.replicate ops.size false) a w.drew):(Code.region id ops true).wp P Q a w:=wp_region_any hm (Zlc _ _ _ _ h)
def Z97 (md:Region.Mode) (ops:Array Oper) (z i:Nat):Bool:=match ops[z]? with | some oz=>oz.after.any fun e=>Region.binds md e && e.on==i | none=>false
theorem Zvd {i:Nat}{v:Value}(hi:ops[i]?=some oi)(hsel: ∀ (j:Nat) (o:Oper) cs b,ops[j]?=some o->o.op≠ .select cs b)(hw:Z97 md ops z i=true)(hiz:i≠z)(hQ: ∀ c a w,Q (.panic c) (a.put oi.dst v) w->Q (.panic c) a w):
  ∀ (n:Nat) (l:Array Bool) (a:Act) (w:World),(∀ j oj,ops[j]?=some oj->j≠i->l.getD j true=false->(∀ e∈oj.after,Region.binds md e=true->e.on≠i)->oi.apart ops oj=true)->i∈Region.ready md ops l->l.getD z true=false->YieldsIf P ops S oi v a->S w->
   Zd0 z P md ops Q S n (l.setIfInBounds i true) (a.put oi.dst v) w->Zd0 z P md ops Q S (n+1) l a w:=by
 intro n;induction n with
 | zero=>
  intro l a w _ hr _ hy hS H;refine⟨fun h=>(by rw[h]at hr;cases hr),fun j hj=>?_⟩;by_cases hji:j=i
  ·subst hji;exact hy.wpOp hi hS ⟨fun _=>hS,H⟩
  ·have:=ready_mono hj hji
   rw[H.1]at this;cases this
 | succ n ih=>
  intro l a w hfree hr hz hy hS H;refine⟨fun h=>(by rw[h]at hr;cases hr),fun j hj=>?_⟩;by_cases hji:j=i
  ·subst hji;exact hy.wpOp hi hS ⟨fun _=>hS,H⟩
  ·have h1:=H.2 j (ready_mono hj hji);obtain⟨hjun,oj,hoj,hall⟩:=mem_ready.1 hj;have hnot: ∀ e∈oj.after,Region.binds md e=true->e.on≠i:=fun e he hb heq=>by
    have h1:=hall e he hb;have h0:=(mem_ready.1 hr).1;rw[heq]at h1;rcases Ye3 i l.size with h' | h'
    ·simp[h']at h0 h1;rw[h0]at h1;cases h1
    ·simp[Ye0 h']at h1
   have hjz:j≠z:=fun e=>by
    subst e;simp only[Z97,hoj,Array.any_eq_true',Bool.and_eq_true,Yfb]at hw;obtain⟨e,he,hb,ho⟩:=hw;exact hnot e he hb ho
   have hzj:(l.setIfInBounds j true).getD z true=false:=by rw[getD_set_ne true hjz];exact hz
   have h2:=wpOp_putIf hoj (hfree j oj hoj hji hjun hnot) (fun cs b=>hsel i oi cs b hi) (fun cs b=>hsel j oj cs b hoj) hQ hy h1;have hfree': ∀ k ok,ops[k]?=some ok->k≠i->(l.setIfInBounds j true).getD k true=false->(∀ e∈ok.after,Region.binds md e=true->e.on≠i)->oi.apart ops ok=true:=fun k ok hk hki hun hno=>by
    refine hfree k ok hk hki ?_ hno;by_cases hjk:j=k
    ·subst hjk;exact hjun
    ·rw[getD_set_ne true hjk]at hun;exact hun
   refine wpOp_mono (fun a' w' h3=>?_) h2;have hS':S w':=h3.2.1 (by rw[getD_set_ne true hjz,getD_set_ne true hiz];exact hz);refine⟨fun _=>hS',ih (l.setIfInBounds j true) a' w' hfree' (ready_mono hr (Ne.symm hji)) hzj h3.1 hS' ?_⟩;rw[Array.setIfInBounds_comm _ _ hji];exact h3.2.2
theorem tz (i:Nat)(v:Value)(hS:S w)(h:Zd0 z P md ops Q S n (l.setIfInBounds i true) (a.put oi.dst v) w)(hi:ops[i]?=some oi:=by rfl)(hs:Region.noSelect ops=true:=by kernel_rfl)(hf:Region.free md ops l i=true:=by kernel_rfl)(hr:(Region.ready md ops l).contains i=true:=by kernel_rfl)(hwt:Z97 md ops z i=true:=by kernel_rfl)(hiz:i≠z:=by decide)(hz:l.getD z true=false:=by kernel_rfl)(hQ: ∀ c a w,Q (.panic c) (a.put oi.dst v) w->Q (.panic c) a w:=by exact fun _ _ _ h=>h)(hw:Region.wanted oi (yielded ops a.tmps)=true:=by rfl)(hy: ∀ u,S u->(execOp a.eval oi).run P u= .ok (.value v) u:=by intro _ _;go_simp):Zd0 z P md ops Q S (n+1) l a w:=
 Zvd hi (Region.noSelect_spec hs) hwt hiz hQ n l a w (Region.free_spec hi hf) (by simpa using hr) hz (Or.inl ⟨hw,hy⟩) hS h
theorem rz (i:Nat)(hr:Region.ready md ops l=[i]:=by kernel_rfl)(ho:ops[i]?=some o:=by rfl)(h: ∀ K':Act->World->Prop,Shut (∀ a w,S w->Zd0 z P md ops Q S n (l.setIfInBounds i true) a w->K' a w)->if Region.wanted o (yielded ops a.tmps)=true then Oper.wp P o a w K' Q else K' (a.put o.dst undef) w):Zd0 z P md ops Q S (n+1) l a w:=
 ⟨fun e=>(by rw[hr]at e;cases e),fun j hj=>by
  rw[hr]at hj;obtain rfl:=Yeb.1 hj;exact wpOp_step ho fun K' hK=>h K' fun a w hS hW=>hK a w ⟨fun _=>hS,hW⟩⟩
theorem rzl (hr:Region.ready md ops l=[z]:=by kernel_rfl)(ho:ops[z]?=some o:=by rfl)(hz:(l.setIfInBounds z true).getD z true=true:=by kernel_rfl)(h: ∀ K':Act->World->Prop,Shut (∀ a w,Zd0 z P md ops Q S n (l.setIfInBounds z true) a w->K' a w)->if Region.wanted o (yielded ops a.tmps)=true then Oper.wp P o a w K' Q else K' (a.put o.dst undef) w):Zd0 z P md ops Q S (n+1) l a w:=
 ⟨fun e=>(by rw[hr]at e;cases e),fun j hj=>by
  rw[hr]at hj;obtain rfl:=Yeb.1 hj;exact wpOp_step ho fun K' hK=>h K' fun a w hW=>hK a w ⟨fun e=>(by rw[hz]at e;cases e),hW⟩⟩
theorem dz (hr:Region.ready md ops l=[]:=by kernel_rfl)(h:Q .normal a w):Zd0 z P md ops Q S n l a w:=by
 cases n with
 | zero=>exact⟨hr,h⟩
 | succ n=>exact⟨fun _=>h,fun i hi=>by rw[hr]at hi;cases hi⟩
end
end Go.W
namespace Go.W
open Go
variable {oi:Oper}
section
variable {P:Program} {md:Region.Mode} {ops:Array Oper} {Q:Exit->Act->World->Prop} {S:World->Prop} {z:Nat}
theorem Zxp {i:Nat}{v:Value}(hi:ops[i]?=some oi)(hsel: ∀ (j:Nat) (o:Oper) cs b,ops[j]?=some o->o.op≠ .select cs b)(hiz:i≠z)(hQ: ∀ c a w,Q (.panic c) (a.put oi.dst v) w->Q (.panic c) a w):
  ∀ (n:Nat) (l:Array Bool) (a:Act) (w:World),(∀ j oj,ops[j]?=some oj->j≠i->l.getD j true=false->(∀ e∈oj.after,Region.binds md e=true->e.on≠i)->oi.apart ops oj=true)->i∈Region.ready md ops l->YieldsIf P ops (fun _=>True) oi v a->(l.getD z true=false->S w)->
   Zd0 z P md ops Q S n (l.setIfInBounds i true) (a.put oi.dst v) w->Zd0 z P md ops Q S (n+1) l a w:=by
 intro n;induction n with
 | zero=>
  intro l a w _ hr hy hS H;refine⟨fun h=>(by rw[h]at hr;cases hr),fun j hj=>?_⟩;by_cases hji:j=i
  ·subst hji;exact hy.wpOp hi trivial ⟨fun e=>hS (by rwa [getD_set_ne true hiz]at e),H⟩
  ·have:=ready_mono hj hji
   rw[H.1]at this;cases this
 | succ n ih=>
  intro l a w hfree hr hy hS H;refine⟨fun h=>(by rw[h]at hr;cases hr),fun j hj=>?_⟩;by_cases hji:j=i
  ·subst hji;exact hy.wpOp hi trivial ⟨fun e=>hS (by rwa [getD_set_ne true hiz]at e),H⟩
  ·have h1:=H.2 j (ready_mono hj hji);obtain⟨hjun,oj,hoj,hall⟩:=mem_ready.1 hj;have hnot: ∀ e∈oj.after,Region.binds md e=true->e.on≠i:=fun e he hb heq=>by
    have h1:=hall e he hb;have h0:=(mem_ready.1 hr).1;rw[heq]at h1;rcases Ye3 i l.size with h' | h'
    ·simp[h']at h0 h1;rw[h0]at h1;cases h1
    ·simp[Ye0 h']at h1
   have h2:=wpOp_putIf hoj (hfree j oj hoj hji hjun hnot) (fun cs b=>hsel i oi cs b hi) (fun cs b=>hsel j oj cs b hoj) hQ hy h1;have hfree': ∀ k ok,ops[k]?=some ok->k≠i->(l.setIfInBounds j true).getD k true=false->(∀ e∈ok.after,Region.binds md e=true->e.on≠i)->oi.apart ops ok=true:=fun k ok hk hki hun hno=>by
    refine hfree k ok hk hki ?_ hno;by_cases hjk:j=k
    ·subst hjk;exact hjun
    ·rw[getD_set_ne true hjk]at hun;exact hun
   refine wpOp_mono (fun a' w' h3=>?_) h2;have hS':(l.setIfInBounds j true).getD z true=false->S w':=fun e=>h3.2.1 (by rw[Array.setIfInBounds_comm _ _ (Ne.symm hji),getD_set_ne true hiz];exact e);refine⟨hS',ih (l.setIfInBounds j true) a' w' hfree' (ready_mono hr (Ne.symm hji)) h3.1 hS' ?_⟩;rw[Array.setIfInBounds_comm _ _ hji];exact h3.2.2
theorem tf (i:Nat)(v:Value){n:Nat}{l:Array Bool}{a:Act}{w:World}(hS:S w)(h:Zd0 z P md ops Q S n (l.setIfInBounds i true) (a.put oi.dst v) w)(hi:ops[i]?=some oi:=by rfl)(hs:Region.noSelect ops=true:=by kernel_rfl)(hf:Region.free md ops l i=true:=by kernel_rfl)(hr:(Region.ready md ops l).contains i=true:=by kernel_rfl)(hiz:i≠z:=by decide)(hQ: ∀ c a w,Q (.panic c) (a.put oi.dst v) w->Q (.panic c) a w:=by exact fun _ _ _ h=>h)(hw:Region.wanted oi (yielded ops a.tmps)=true:=by rfl)(hy: ∀ u,(fun _=>True) u->(execOp a.eval oi).run P u= .ok (.value v) u:=by intro _ _;go_simp):Zd0 z P md ops Q S (n+1) l a w:=
 Zxp hi (Region.noSelect_spec hs) hiz hQ n l a w (Region.free_spec hi hf) (by simpa using hr) (Or.inl ⟨hw,hy⟩) (fun _=>hS) h
end
end Go.W
