import Derived.Test.YtgnakaplmhmdcaaGreatDoorW08
set_option maxRecDepth 100000
set_option maxHeartbeats 8000000
open Go.Proofs Go.RowKit Go.W
namespace Go.W
def Zdo (fs:List (ByteArray×Nat)) (pn:ByteArray) (s:ByteArray×Nat) (pre:List Nat):Nat:=pre.foldl (fun a n=>if(Zcf [] pn s (fs.getD n (⟨#[]⟩,0))).1 then a ||| 2 ^ n else a) 0
theorem Zck {s n:Nat}(h:n∈Za5 s):n < 3:=by
 unfold Za5 at h
 have:=(List.mem_filter.1 h).1
 simp at this;omega
theorem Zes (fs:List (ByteArray×Nat))(pn:ByteArray)(s:ByteArray×Nat){pre:List Nat}(h: ∀ n,n∈pre->n < 3):Zdo fs pn s pre < 8:=by
 unfold Zdo;have key: ∀ (l:List Nat) (a:Nat),(∀ n,n∈l->n < 3)->a < 8->l.foldl (fun a n=>if(Zcf [] pn s (fs.getD n (⟨#[]⟩,0))).1 then a ||| 2 ^ n else a) a < 8:=by
  intro l;induction l with
  | nil=>intro a _ h;exact h
  | cons n l ih=>
   intro a hl ha;rw[List.foldl_cons];refine ih _ (fun k hk=>hl k (by simp[hk])) ?_;split
   ·have hn:=hl n (by simp)
    exact Nat.or_lt_two_pow (n:=3) ha (by have:n=0∨n=1∨n=2:=by omega
                                          rcases this with rfl | rfl | rfl <;> decide)
   ·exact ha
 exact key pre 0 h (by decide)
theorem Ybv (f x:Nat)(hf:f < 8)(hx:x < 3):bits BinOp.or IntKind.u64 (f:Int) (IntKind.u64.wrap (2 ^ x))=((f ||| 2 ^ x:Nat):Int):=by
 have h1:x=0\/x=1\/x=2:=by omega
 have h2:f=0\/f=1\/f=2\/f=3\/f=4\/f=5\/f=6\/f=7:=by omega
 rcases h1 with rfl | rfl | rfl <;> rcases h2 with rfl | rfl | rfl | rfl | rfl | rfl | rfl | rfl <;> rfl
end Go.W
namespace Go.P
open Go.RowKit Go.W Go.Shelf
attribute [local go_sem] Yds
theorem Zhj {w:World}{q p m:Nat}{cs:Array Value}{at_:List Pt}{gs:List Gt}{S:List Nat}{fs:List (ByteArray×Nat)}{vs:List T}{F:List Nat}{ov:Value}{Fo:List Nat}(h:Ctx w q p m cs at_ gs S fs vs F [] ov Fo)(hl:gs.length<=1){g c:Nat}{sl:ByteArray×Nat}(hg:Zdl w g sl)(hgS:g∈S)(pn:ByteArray)(s:Nat)(hs:s < 8)(hb: ∀ n,n∈Za5 s->n < fs.length)(ha: ∀ n,n∈Za5 s->(Zcf [] pn sl (fs.getD n (⟨#[]⟩,0))).1=true-> ∀ y,y∈gs->Z59 (Zcf [] pn sl (fs.getD n (⟨#[]⟩,0))).2 vs y):
  Calls Tryz.prog 243 #[.pointer (some ⟨q,0,none⟩),.agg #[.string pn,.slice (some ⟨g,0,none⟩) 1 c],.int .u64 (s:Int)] w fun e w'=>e= .returned (.int .u64 (Zdo fs pn sl (Za5 s):Int))/\ ∃ ov' Fo',Ctx w' q p m cs at_ gs S fs vs F [] ov' Fo'/\Off (q::m::Fo) w w'/\ ∀ i,i∈Fo'->i∈Fo\/w.heap.size<=i:=by
 obtain⟨po,co,rfl⟩:=h.bd.row.form;have q7:w.cell? ⟨q,7,none⟩=some (.slice po 0 co):=h.bd.cells.2.1;have hql:=h.bd.blk.lt;have q7': ∀ o1 o2 o3,(((w.alloc o1).alloc o2).alloc o3).cell? ⟨q,7,none⟩=some (.slice po 0 co):=fun o1 o2 o3=>h.bd.cells.2.1▸Ycw (a:=⟨q,7,none⟩) ((Ycx _ _ _ (by simp;omega)).trans ((Ycx _ _ _ (by simp;omega)).trans (Ycx _ _ _ hql)));have H:=Zaa h;have hmf:=fun(fn:Fn) (first cap:Array Value) (w:World)=>(rfl:(Instr.makeFunc fn first cap).run Tryz.prog w= .ok (.func fn first cap) w);clear h;refine(callsIn_wide (n:=5)).1 ?_;refine callsIn_of_wp_marks Tryz.func243 rfl trivial ?_ rfl;simp only[Tryz.ntmps243,Yc5,Yc7,Ydb,Nat.reduceAdd,Nat.reduceSub,Ydf,Yde,Ydk,Ydh,Ydg,Ydd];obtain⟨W4,hW4⟩: ∃ W4,Box ((((w.alloc (.cells #[.pointer (some ⟨q,0,none⟩)] 327)).alloc (.cells #[.string pn,.slice (some ⟨g,0,none⟩) 1 c] 321)).alloc (.cells #[.int .u64 0] 336)).alloc (.cells #[.int .i64 0] 3)=W4):=⟨_,⟨rfl⟩⟩;have B4:Box (Below w.heap.size w W4):=⟨hW4.out▸((((Yct _ w).alloc lr _).alloc (by simp) _).alloc (by simp;omega) _).alloc (by simp;omega) _⟩;have S4:Box (W4.heap.size=w.heap.size+4):=⟨by rw[<- hW4.out];simp⟩;have L0:Blk W4 w.heap.size #[.pointer (some ⟨q,0,none⟩)] 327:=hW4.out▸(((Blk.new w _ _).alloc _).alloc _).alloc _;have L1:Blk W4 (w.heap.size+1) #[.string pn,.slice (some ⟨g,0,none⟩) 1 c] 321:=hW4.out▸((Zpo w _ _ _).alloc _).alloc _;have L2:Blk W4 (w.heap.size+1+1) #[.int .u64 0] 336:=hW4.out▸(Z1v w _ _ _ _).alloc _;have L3:Blk W4 (w.heap.size+1+1+1) #[.int .i64 0] 3:=hW4.out▸by have:=Blk.new (((w.alloc (.cells #[.pointer (some ⟨q,0,none⟩)] 327)).alloc (.cells #[.string pn,.slice (some ⟨g,0,none⟩) 1 c] 321)).alloc (.cells #[.int .u64 0] 336)) #[.int .i64 0] 3;rwa [Yc4,Yc4,Yc4]at this
 have HL:=Zaa (Ycs L0 (Ycs L1 (Ycs L2 L3)));clear L0 L1 L2 L3;gi_wp2
 rw[hW4.out];clear hW4 q7 q7';have eB:=S4.out;have hFl:=H.out.bd.lt;have OT:Box (∀ W W' ov' Fo',Ctx W q p m cs at_ gs S fs vs F [] ov' Fo'->(∀ i,i∈Fo'->i∈Fo\/w.heap.size+6<=i)->Off [W4.heap.size,W4.heap.size+1] W W'->Ctx W' q p m cs at_ gs S fs vs F [] ov' Fo'):=⟨fun W W' ov' Fo' hc hsb k=>hc.other k fun j hj=>by
  have hj':w.heap.size+4<=j/\j < w.heap.size+6:=by simp at hj;omega
  refine⟨fun h=>?_,fun h=>by have:=H.out.wd.lt j h;omega,fun h=>by have:=H.out.rd.lS j h;omega,Ycu H.out.gl.2.2 (by omega)⟩;simp only[Yc1]at h;rcases h with rfl | rfl | h
  ·omega
  ·have:=hFl j (by simp);omega
  ·rcases hsb j h with h | h
   ·have:=hFl j (by simp[h]);omega
   ·omega⟩
 refine Zfp (K:=245) (s:=s) (xs:=Za5 s) (Z:=Z43) rfl (Zak Tryz.func245 (by kernel_rfl) rfl) (Zjv _ s hs) rfl
  (fun pre W=> ∃ ov' Fo',Ctx W q p m cs at_ gs S fs vs F [] ov' Fo'/\Blk W w.heap.size #[.pointer (some ⟨q,0,none⟩)] 327/\Blk W (w.heap.size+1) #[.string pn,.slice (some ⟨g,0,none⟩) 1 c] 321/\Blk W (w.heap.size+1+1) #[.int .u64 (Zdo fs pn sl pre:Int)] 336/\Blk W (w.heap.size+1+1+1) #[.int .i64 0] 3/\Off (q::m::Fo) w W/\ ∀ i,i∈Fo'->i∈Fo\/w.heap.size+6<=i)
  (fun _ _=>False) (fun _ _ ⟨_,_,hc,_⟩=>hc.gl.1) ?_ (fun _ _ _ h _=>h) ⟨_,Fo,H.out.below B4.out,HL.out.1,HL.out.2.1,HL.out.2.2.1,HL.out.2.2.2,Off.of B4.out,fun _ h=> .inl h⟩
  (fun x=>{tmps:=#[Value.pointer (some ⟨q,0,none⟩),Value.agg #[.string pn,.slice (some ⟨g,0,none⟩) 1 c],.int .u64 (s:Int),.pointer (some ⟨w.heap.size,0,none⟩),.pointer (some ⟨w.heap.size+1,0,none⟩),undef,.int .u64 0,.pointer (some ⟨w.heap.size+1+1,0,none⟩),.pointer (some ⟨w.heap.size+1+1+1,0,none⟩),.int .i64 (x:Int),.pointer (some ⟨q,0,none⟩),.pointer (some ⟨q,0,none⟩),.pointer (some ⟨q,6,none⟩),.pointer (some ⟨q,7,none⟩),.slice po 0 co,.int .i64 0,.int .u64 (s:Int),.func (.func 245) #[.int .u64 (s:Int)] #[],.int .i64 (x:Int),undef,undef,undef,undef,undef,undef,undef,undef,undef,undef,undef,undef,undef,undef,undef,undef,undef,undef,undef,undef,undef,undef,undef,undef,undef,undef,undef,undef,undef],defers:=[]}) ?assign ?body ?done (fun _ _ h _=>h.elim)
 ·rintro pre W W' ⟨ov',Fo',hc,b0,b1,b2,b3,ho,hsb⟩ k;have nn: ∀ j,j < w.heap.size+4->j∉[W4.heap.size,W4.heap.size+1]:=fun j hj=>by simp;omega
  refine⟨ov',Fo',OT.out W W' _ _ hc hsb k,b0.of (k.block _ b0.lt (nn _ (by omega))),b1.of (k.block _ b1.lt (nn _ (by omega))),b2.of (k.block _ b2.lt (nn _ (by omega))),b3.of (k.block _ b3.lt (nn _ (by omega))),ho.trans k fun i hi=>?_,hsb⟩;simp at hi;exact .inr (by omega)
 case assign=>
  intro l x W K hK;gi_wp2
  exact hK
 case body=>
  rintro l pre x rest W hx ⟨ov',Fo',hc,b0,b1,b2,b3,ho,hsb⟩ hW;have hxm:x∈Za5 s:=by rw[hx];simp
  have hxl:=hb x hxm;obtain⟨fx,hfx⟩: ∃ fx,fs[x]?=some fx:=⟨_,Yc0 hxl⟩;have hgd:fs.getD x (⟨#[]⟩,0)=fx:=by rw[List.getD_eq_getElem?_getD,hfx];rfl
  have ha':=ha x hxm;rw[hgd]at ha';have FS:Box (Zdo fs pn sl (pre++[x])=if(Zcf [] pn sl fx).1 then Zdo fs pn sl pre ||| 2 ^ x else Zdo fs pn sl pre):=⟨by unfold Zdo;rw[List.foldl_append,List.foldl_cons,List.foldl_nil,hgd]⟩;obtain⟨k,r,fv,vv,Ff,Fv,hw⟩:=hc.wd;obtain⟨gf,capf,cs8,G,rfl,hgf,⟨_,rfl⟩,key⟩:=hw.facts.nth x fx hfx;have p0:=hw.blk.four.1;have hqc: ∀ j,j≠7->W.cell? ⟨q,j,none⟩=cs[j]?:=fun j hj=>by
   rw[hc.bd.blk.cell,Ycv,if_neg (by omega)]
  have q0:=(hqc 0 (by omega)).trans hc.rd.c0;have f0:W.cell? ⟨gf,x*8,none⟩=some (.string fx.1):=key 0 _ rfl;have f1:=key 1 _ rfl;have f2:=key 2 _ rfl;have f3:=key 3 _ rfl;have f4:=key 4 _ rfl;have f5:=key 5 _ rfl;have f6:=key 6 _ rfl;have f7:=key 7 _ rfl;have hgW:Zdl W g sl:=hg.of ho.size (ho.block g hg.1 fun q=>(H.out.dB g q).2.1 hgS);have CM:=Zaa (Znr (w:=W.drew) (hc.below (Yct _ W).drew).bd (c:=c) (hgW.of (w':=W.drew) lr rfl) pn fx (by simp));unfold Zem at CM;have c0:=b0.one.1;have c1:=b1.two.1;have c1':=b1.two.2.1;have hxi:(x:Int) < (fs.length:Int):=by omega
  have hpl:=hw.blk.lt;have hpn:p∈F:=by rw[hw.own];simp
  have hgn:gf∈F:=by rw[hw.own];simp[hgf]
  have hfl:gf < W.heap.size:=hw.new.lt gf (by rw[hw.own];simp[hgf]);have hrx:(Zcf [] pn sl fx).2.length<=1:=by
   unfold Zcf;split
   ·simp
   ·split <;> simp
  generalize Zcf [] pn sl fx=r at*;have HH:=Zaa (Ycs hc (Ycs b0 (Ycs b1 (Ycs b2 (Ycs b3 (Ycs ho hsb))))));clear hc b0 b1 b2 b3 ho hsb hw key hqc;have hmx:Tryz.prog.follows .mixedOrders=true:=by kernel_rfl
  obtain⟨rb,rx⟩:=r;dsimp only at CM FS ha' hrx;gi_wp2
  have hS0:W.drew.cell? ⟨w.heap.size,0,none⟩=some (.pointer (some ⟨q,0,none⟩))/\W.drew.cell? ⟨w.heap.size+1,0,none⟩=some (.string pn)/\W.drew.cell? ⟨w.heap.size+1,1,none⟩=some (.slice (some ⟨g,0,none⟩) 1 c)/\W.drew.cell? ⟨q,0,none⟩=some (.pointer (some ⟨p,0,none⟩))/\W.drew.cell? ⟨p,0,none⟩=some (.slice (some ⟨gf,0,none⟩) fs.length capf)/\W.drew.cell? ⟨gf,x*8,none⟩=some (.string fx.1)/\W.drew.cell? ⟨gf,x*8+1,none⟩=some (.int .i64 1)/\W.drew.cell? ⟨gf,x*8+2,none⟩=some (.int .i64 (fx.2:Int))/\W.drew.cell? ⟨gf,x*8+3,none⟩=some (.int .i64 0)/\W.drew.cell? ⟨gf,x*8+4,none⟩=some (.int .i64 0)/\W.drew.cell? ⟨gf,x*8+5,none⟩=some (.int .i64 0)/\W.drew.cell? ⟨gf,x*8+6,none⟩=some (.int .i64 0)/\W.drew.cell? ⟨gf,x*8+7,none⟩=some (.int .i64 0):=⟨c0,c1,c1',q0,p0,f0,f1,f2,f3,f4,f5,f6,f7⟩;refine Zdu (fun u=>u.cell? ⟨w.heap.size,0,none⟩=some (.pointer (some ⟨q,0,none⟩))/\u.cell? ⟨w.heap.size+1,0,none⟩=some (.string pn)/\u.cell? ⟨w.heap.size+1,1,none⟩=some (.slice (some ⟨g,0,none⟩) 1 c)/\u.cell? ⟨q,0,none⟩=some (.pointer (some ⟨p,0,none⟩))/\u.cell? ⟨p,0,none⟩=some (.slice (some ⟨gf,0,none⟩) fs.length capf)/\u.cell? ⟨gf,x*8,none⟩=some (.string fx.1)/\u.cell? ⟨gf,x*8+1,none⟩=some (.int .i64 1)/\u.cell? ⟨gf,x*8+2,none⟩=some (.int .i64 (fx.2:Int))/\u.cell? ⟨gf,x*8+3,none⟩=some (.int .i64 0)/\u.cell? ⟨gf,x*8+4,none⟩=some (.int .i64 0)/\u.cell? ⟨gf,x*8+5,none⟩=some (.int .i64 0)/\u.cell? ⟨gf,x*8+6,none⟩=some (.int .i64 0)/\u.cell? ⟨gf,x*8+7,none⟩=some (.int .i64 0)) hmx (fun⟨_,_,h⟩=>h) (by kernel_rfl) ?_;refine tk 0 (.pointer (some ⟨q,0,none⟩)) hS0 (hy:=fun u hS=>by obtain⟨s0,s1,s2,s3,s4,s5,s6,s7,s8,s9,sa,sb,sc⟩:=hS;go_simp) (h:=?_);try simp only[zz]
  refine tk 1 (.pointer (some ⟨q,0,none⟩)) hS0 (hy:=fun u hS=>by go_simp) (h:=?_);try simp only[zz]
  refine tk 2 (.pointer (some ⟨q,6,none⟩)) hS0 (hy:=fun u hS=>by go_simp) (h:=?_);try simp only[zz]
  refine tk 3 (.agg #[.string pn,.slice (some ⟨g,0,none⟩) 1 c]) hS0 (hy:=fun u hS=>by obtain⟨s0,s1,s2,s3,s4,s5,s6,s7,s8,s9,sa,sb,sc⟩:=hS;go_simp) (h:=?_);try simp only[zz]
  refine tk 4 (.pointer (some ⟨q,0,none⟩)) hS0 (hy:=fun u hS=>by obtain⟨s0,s1,s2,s3,s4,s5,s6,s7,s8,s9,sa,sb,sc⟩:=hS;go_simp) (h:=?_);try simp only[zz]
  refine tk 5 (.pointer (some ⟨q,0,none⟩)) hS0 (hy:=fun u hS=>by go_simp) (h:=?_);try simp only[zz]
  refine tk 6 (.pointer (some ⟨q,0,none⟩)) hS0 (hy:=fun u hS=>by go_simp) (h:=?_);try simp only[zz]
  refine tk 7 (.pointer (some ⟨p,0,none⟩)) hS0 (hy:=fun u hS=>by obtain⟨s0,s1,s2,s3,s4,s5,s6,s7,s8,s9,sa,sb,sc⟩:=hS;go_simp) (h:=?_);try simp only[zz]
  refine tk 8 (.pointer (some ⟨p,0,none⟩)) hS0 (hy:=fun u hS=>by go_simp) (h:=?_);try simp only[zz]
  refine tk 9 (.pointer (some ⟨p,0,none⟩)) hS0 (hy:=fun u hS=>by go_simp) (h:=?_);try simp only[zz]
  refine tk 10 (.slice (some ⟨gf,0,none⟩) fs.length capf) hS0 (hy:=fun u hS=>by obtain⟨s0,s1,s2,s3,s4,s5,s6,s7,s8,s9,sa,sb,sc⟩:=hS;go_simp) (h:=?_);try simp only[zz]
  refine tk 11 (.int .i64 (x:Int)) hS0 (hy:=fun u hS=>by go_simp) (h:=?_);try simp only[zz]
  refine tk 12 (.pointer (some ⟨gf,x*8,none⟩)) hS0 (hy:=fun u hS=>by go_simp) (h:=?_);try simp only[zz]
  refine tk 13 (.agg #[.string fx.1,.int .i64 1,.int .i64 (fx.2:Int),.int .i64 0,.int .i64 0,.int .i64 0,.int .i64 0,.int .i64 0]) hS0 (hy:=fun u hS=>by obtain⟨s0,s1,s2,s3,s4,s5,s6,s7,s8,s9,sa,sb,sc⟩:=hS;go_simp) (h:=?_);try simp only[zz]
  refine wpAnyH_ready (rs:=[14]) (by kernel_rfl) (by simp) (Yc9 rfl (fun K' hK'=>?_) Ydc);go_simp;refine CM.out.mono ?_;rintro e w2 ⟨rfl,ov2,F2,hb2,ho2,hs2⟩;have C2:=(HH.out.1.below (Yct _ W).drew).step hb2 ho2 hs2 ⟨rfl,fun _ _=>rfl⟩;have nB: ∀ j,w.heap.size<=j->j < w.heap.size+4->j∉q::m::Fo':=fun j h1 h2 h=>by
   simp only[Yc1]at h;rcases h with rfl | rfl | h
   ·omega
   ·have:=hFl j (by simp);omega
   ·rcases HH.out.2.2.2.2.2.2 j h with h | h
    ·have:=hFl j (by simp[h]);omega
    ·omega
  have hpF:p∉q::m::Fo':=fun h=>(HH.out.1.dB p h).1 hpn;have hgF:gf∉q::m::Fo':=fun h=>(HH.out.1.dB gf h).1 hgn;have bk: ∀ j,j < W.heap.size->j∉q::m::Fo'-> ∀ o,w2.cell? ⟨j,o,none⟩=W.cell? ⟨j,o,none⟩:=fun j hj hn o=>Ycw (a:=⟨j,o,none⟩) (ho2.block j hj hn);have q2:w2.cell? ⟨q,0,none⟩=some (.pointer (some ⟨p,0,none⟩)):=by
   rw[C2.bd.blk.cell,Ycv,if_neg (by omega)];exact C2.rd.c0
  refine hK'.out _ _ ⟨(bk _ (by omega) (nB _ (by omega) (by omega)) _).trans c0,(bk _ (by omega) (nB _ (by omega) (by omega)) _).trans c1,(bk _ (by omega) (nB _ (by omega) (by omega)) _).trans c1',q2,(bk _ hpl hpF _).trans p0,(bk _ hfl hgF _).trans f0,(bk _ hfl hgF _).trans f1,(bk _ hfl hgF _).trans f2,(bk _ hfl hgF _).trans f3,(bk _ hfl hgF _).trans f4,(bk _ hfl hgF _).trans f5,(bk _ hfl hgF _).trans f6,(bk _ hfl hgF _).trans f7⟩ fun hS2=>?_;try simp only[zz]
  refine tk 15 (.bool rb) hS2 (hy:=fun u hS=>by go_simp) (h:=?_);try simp only[zz]
  have FINAL:Box (∀ u w5 ov5,(∀ j,j < W.heap.size->j∉q::m::Fo'->j≠w.heap.size+1+1->u.heap[j]?=W.heap[j]?)->W.heap.size<=u.heap.size->u.os=W.os/\u.tape=W.tape/\u.output=W.output->Blk u (w.heap.size+1+1) #[.int .u64 (Zdo fs pn sl (pre++[x]):Int)] 336->Ctx u q p m cs at_ gs S fs vs F rx ov2 F2->Bd w5 q 342 6 m cs [] ov5 F2->Off (q::m::F2) u w5->Zw6 W4.heap.size W w5/\ ∃ ov' Fo',Ctx w5 q p m cs at_ gs S fs vs F [] ov' Fo'/\Blk w5 w.heap.size #[.pointer (some ⟨q,0,none⟩)] 327/\Blk w5 (w.heap.size+1) #[.string pn,.slice (some ⟨g,0,none⟩) 1 c] 321/\Blk w5 (w.heap.size+1+1) #[.int .u64 (Zdo fs pn sl (pre++[x]):Int)] 336/\Blk w5 (w.heap.size+1+1+1) #[.int .i64 0] 3/\Off (q::m::Fo) w w5/\ ∀ i,i∈Fo'->i∈Fo\/w.heap.size+6<=i):=⟨fun u w5 ov5 ku hsu hmu b2u cu bd5 ho5=>by
   obtain⟨hc,b0,b1,b2,b3,ho,hsb⟩:=HH.out;have nB': ∀ j,w.heap.size<=j->j < w.heap.size+6->j∉q::m::Fo':=fun j h1 h2 h=>by
    simp only[Yc1]at h;rcases h with rfl | rfl | h
    ·omega
    ·have:=hFl j (by simp);omega
    ·rcases hsb j h with h | h
     ·have:=hFl j (by simp[h]);omega
     ·omega
   have nB2: ∀ j,j < W.heap.size->j∉q::m::Fo'->j∉q::m::F2:=fun j hj hn h=>by
    simp only[Yc1,not_or]at h hn;rcases h with h | h | h
    ·exact hn.1 h
    ·exact hn.2.1 h
    ·rcases hs2 j h with h | h
     ·exact hn.2.2 h
     ·have h:W.heap.size<=j:=h;omega
   have k5: ∀ j,j < W.heap.size->j∉q::m::Fo'->j≠w.heap.size+1+1->w5.heap[j]?=W.heap[j]?:=fun j hj hn h2=>(ho5.block j (by omega) (nB2 j hj hn)).trans (ku j hj hn h2);have hm2:W4.heap.size < W.heap.size/\W4.heap.size+1 < W.heap.size:=⟨by omega,by omega⟩;refine⟨⟨k5 _ hm2.1 (nB' _ (by omega) (by omega)) (by omega),k5 _ hm2.2 (nB' _ (by omega) (by omega)) (by omega)⟩,ov5,F2,cu.step bd5 ho5 (fun _ h=> .inl h) ⟨rfl,fun _ _=>rfl⟩,b0.of (k5 _ b0.lt (nB' _ (by omega) (by omega)) (by omega)),b1.of (k5 _ b1.lt (nB' _ (by omega) (by omega)) (by omega)),b2u.of (ho5.block _ b2u.lt (nB2 _ b2.lt (nB' _ (by omega) (by omega)))),b3.of (k5 _ b3.lt (nB' _ (by omega) (by omega)) (by omega)),⟨ho5.os.trans (hmu.1.trans ho.os),ho5.tape.trans (hmu.2.1.trans ho.tape),ho5.output.trans (hmu.2.2.trans ho.output),Ycu ho.size (Ycu hsu ho5.size),fun j hj hn=>?_⟩,fun i hi=>?_⟩
   ·have hn':j∉q::m::Fo':=fun h=>by
     simp only[Yc1,not_or]at h hn;rcases h with h | h | h
     ·exact hn.1 h
     ·exact hn.2.1 h
     ·rcases hsb j h with h | h
      ·exact hn.2.2 h
      ·omega
    exact(k5 j (Ycz hj ho.size) hn' (by omega)).trans (ho.block j hj hn)
   ·rcases hs2 i hi with h | h
    ·exact hsb i h
    ·have h:W.heap.size<=i:=h;exact .inr (by omega)⟩
  cases rb with
  | false=>
   refine wpAnyH_take (i:=16) (v:=undef) rfl (by kernel_rfl) (by kernel_rfl) (by kernel_rfl) (fun _ _ _ h=>h) (Or.inr ⟨by rfl,rfl⟩) hS2 ?_;try simp only[zz]
   refine wpAnyH_take (i:=17) (v:=undef) rfl (by kernel_rfl) (by kernel_rfl) (by kernel_rfl) (fun _ _ _ h=>h) (Or.inr ⟨by rfl,rfl⟩) hS2 ?_;try simp only[zz]
   refine tk 18 (.bool false) hS2 (hy:=fun u hS=>by go_simp) (h:=?_);try simp only[zz]
   refine wpAnyH_done (by kernel_rfl) ?_ _;gi_wp2
   have KU: ∀ j,j < W.heap.size->j∉q::m::Fo'->j≠w.heap.size+1+1->w2.heap[j]?=W.heap[j]?:=fun j hj hn _=>ho2.block j hj hn;have hsU:W.heap.size<=w2.heap.size:=ho2.size;have hmU:w2.os=W.os/\w2.tape=W.tape/\w2.output=W.output:=⟨ho2.os,ho2.tape,ho2.output⟩;have CU:=C2;have B2U:Blk w2 (w.heap.size+1+1) #[.int .u64 (Zdo fs pn sl (pre++[x]):Int)] 336:=by
    have:=HH.out.2.2.2.1.of (ho2.block _ HH.out.2.2.2.1.lt (nB _ (by omega) (by omega)))
    rw[FS.out];exact this
   have hS7:(w2).drew.cell? ⟨w.heap.size,0,none⟩=some (.pointer (some ⟨q,0,none⟩))/\(w2).drew.cell? ⟨w.heap.size+1+1+1,0,none⟩=some (.int .i64 0):=⟨(Ycw (a:=⟨w.heap.size,0,none⟩) (KU w.heap.size (by omega) (nB _ (by omega) (by omega)) (by omega))).trans c0,(Ycw (a:=⟨w.heap.size+1+1+1,0,none⟩) (KU (w.heap.size+1+1+1) (by omega) (nB _ (by omega) (by omega)) (by omega))).trans HH.out.2.2.2.2.1.one.1⟩;refine Zdu (fun u=>u.cell? ⟨w.heap.size,0,none⟩=some (.pointer (some ⟨q,0,none⟩))/\u.cell? ⟨w.heap.size+1+1+1,0,none⟩=some (.int .i64 0)) hmx (fun⟨_,_,h⟩=>h) (by kernel_rfl) ?_;refine tk 0 (.pointer (some ⟨q,0,none⟩)) hS7 (hy:=fun u hS=>by obtain⟨s0,s1⟩:=hS;go_simp) (h:=?_);try simp only[zz]
   refine tk 1 (.pointer (some ⟨q,0,none⟩)) hS7 (hy:=fun u hS=>by go_simp) (h:=?_);try simp only[zz]
   refine tk 2 (.pointer (some ⟨q,6,none⟩)) hS7 (hy:=fun u hS=>by go_simp) (h:=?_);try simp only[zz]
   refine tk 3 (.int .i64 0) hS7 (hy:=fun u hS=>by obtain⟨s0,s1⟩:=hS;go_simp) (h:=?_);try simp only[zz]
   refine wpAnyH_ready (rs:=[4]) (by kernel_rfl) (by simp) (Yc9 rfl (fun K' hK'=>?_) Ydc);go_simp;refine(Zig (CU.below (Yct _ _).drew).bd hrx).mono ?_;rintro e w5 ⟨rfl,ov5,hbd5,ho5⟩;have FO:=FINAL.out _ w5 ov5 KU hsU hmU B2U CU hbd5 ⟨ho5.os,ho5.tape,ho5.output,ho5.size,ho5.block⟩;refine hK'.out _ _ ⟨FO.2.choose_spec.choose_spec.2.1.one.1,FO.2.choose_spec.choose_spec.2.2.2.2.1.one.1⟩ fun _=>?_;try simp only[zz]
   refine wpAnyH_done (by kernel_rfl) ?_ _;exact FO
  | true=>
   refine tk 16 (.pointer (some ⟨q,0,none⟩)) hS2 (hy:=fun u hS=>by obtain⟨s0,s1,s2,s3,s4,s5,s6,s7,s8,s9,sa,sb,sc⟩:=hS;go_simp) (h:=?_);try simp only[zz]
   refine wpAnyH_ready (rs:=[17]) (by kernel_rfl) (by simp) (Yc9 rfl (fun K' hK'=>?_) Ydc);go_simp;refine(Zjw C2 hl (ha' rfl)).mono ?_;rintro e w3 ⟨rfl,hb3⟩;obtain⟨s0,s1,s2,s3,s4,s5,s6,s7,s8,s9,sa,sb,sc⟩:=hS2;have hp2:=Ycz hpl ho2.size;have hf2:=Ycz hfl ho2.size;refine hK'.out _ _ ⟨Zac s0 hb3,Zac s1 hb3,Zac s2 hb3,Zac s3 hb3,Zac s4 hb3,Zac s5 hb3,Zac s6 hb3,Zac s7 hb3,Zac s8 hb3,Zac s9 hb3,Zac sa hb3,Zac sb hb3,Zac sc hb3⟩ fun hS3=>?_;try simp only[zz]
   refine tk 18 (.bool true) hS3 (hy:=fun u hS=>by go_simp) (h:=?_);try simp only[zz]
   refine wpAnyH_done (by kernel_rfl) ?_ _;have hw3:w.heap.size+1+1 < w2.heap.size:=by have:W.heap.size<=w2.heap.size:=ho2.size;omega
   have z2:=(hb3.block (w.heap.size+1+1) hw3).trans (ho2.block (w.heap.size+1+1) HH.out.2.2.2.1.lt (nB _ (by omega) (by omega)));have b2':Blk w3 (w.heap.size+1+1) _ _:=HH.out.2.2.2.1.of z2;obtain⟨d0,ds⟩:=b2'.one;have hx3:x < 3:=Zck hxm;have hor:=Ybv (Zdo fs pn sl pre) x (Zes fs pn sl (pre:=pre) fun n hn=>Zck (s:=s) (by rw[hx];simp[hn])) hx3;have E2:Box (Zdo fs pn sl (pre++[x])=Zdo fs pn sl pre ||| 2 ^ x):=⟨FS.out.trans (if_pos rfl)⟩;clear FS;generalize Zdo fs pn sl pre=fv at*;generalize fv ||| 2 ^ x=fv2 at*;gi_wp2
   gi_region
   all_goals
    have KU: ∀ j,j < W.heap.size->j∉q::m::Fo'->j≠w.heap.size+1+1->((w3.setCell ⟨w.heap.size+1+1,0,none⟩ (.int .u64 (fv2:Int))).drew).heap[j]?=W.heap[j]?:=fun j hj hn h2=>(Ycy w3 ⟨w.heap.size+1+1,0,none⟩ _ j h2).trans ((hb3.block j (Ycz hj ho2.size)).trans (ho2.block j hj hn));have hsU:W.heap.size<=((w3.setCell ⟨w.heap.size+1+1,0,none⟩ (.int .u64 (fv2:Int))).drew).heap.size:=by have h1:W.heap.size<=w2.heap.size:=ho2.size;have:=hb3.size;simp[World.setCell];omega
    have hmU:((w3.setCell ⟨w.heap.size+1+1,0,none⟩ (.int .u64 (fv2:Int))).drew).os=W.os/\((w3.setCell ⟨w.heap.size+1+1,0,none⟩ (.int .u64 (fv2:Int))).drew).tape=W.tape/\((w3.setCell ⟨w.heap.size+1+1,0,none⟩ (.int .u64 (fv2:Int))).drew).output=W.output:=⟨hb3.os.trans ho2.os,hb3.tape.trans ho2.tape,hb3.output.trans ho2.output⟩;have CU:=((C2.below hb3).other (G:=[w.heap.size+1+1]) ((Off.refl _ w3).set (w.heap.size+1+1) 0 (.int .u64 (fv2:Int)) (by simp)) (fun j hj=>by
     have ej:=Ydt.1 hj;subst ej;refine⟨fun h=>?_,fun h=>by have:=H.out.wd.lt _ h;omega,fun h=>by have:=H.out.rd.lS _ h;omega,Ycu H.out.gl.2.2 (show w.heap.size<=w.heap.size+1+1 by omega)⟩;simp only[Yc1]at h;rcases h with h | h | h
     ·omega
     ·have:=hFl m (by simp);omega
     ·rcases hs2 _ h with h | h
      ·exact nB (w.heap.size+1+1) (by omega) (by omega) (by simp[h])
      ·have h:W.heap.size<=w.heap.size+1+1:=h
       omega)).below (Yct _ _).drew
    have B2U:Blk (w3.setCell ⟨w.heap.size+1+1,0,none⟩ (.int .u64 (fv2:Int))).drew (w.heap.size+1+1) #[.int .u64 (Zdo fs pn sl (pre++[x]):Int)] 336:=by rw[E2.out];exact b2'.set 0 (.int .u64 (fv2:Int))
    gi_wp2
    have hS7:((w3.setCell ⟨w.heap.size+1+1,0,none⟩ (.int .u64 (fv2:Int))).drew).drew.cell? ⟨w.heap.size,0,none⟩=some (.pointer (some ⟨q,0,none⟩))/\((w3.setCell ⟨w.heap.size+1+1,0,none⟩ (.int .u64 (fv2:Int))).drew).drew.cell? ⟨w.heap.size+1+1+1,0,none⟩=some (.int .i64 0):=⟨(Ycw (a:=⟨w.heap.size,0,none⟩) (KU w.heap.size (by omega) (nB _ (by omega) (by omega)) (by omega))).trans c0,(Ycw (a:=⟨w.heap.size+1+1+1,0,none⟩) (KU (w.heap.size+1+1+1) (by omega) (nB _ (by omega) (by omega)) (by omega))).trans HH.out.2.2.2.2.1.one.1⟩;refine Zdu (fun u=>u.cell? ⟨w.heap.size,0,none⟩=some (.pointer (some ⟨q,0,none⟩))/\u.cell? ⟨w.heap.size+1+1+1,0,none⟩=some (.int .i64 0)) hmx (fun⟨_,_,h⟩=>h) (by kernel_rfl) ?_;refine tk 0 (.pointer (some ⟨q,0,none⟩)) hS7 (hy:=fun u hS=>by obtain⟨s0,s1⟩:=hS;go_simp) (h:=?_);try simp only[zz]
    refine tk 1 (.pointer (some ⟨q,0,none⟩)) hS7 (hy:=fun u hS=>by go_simp) (h:=?_);try simp only[zz]
    refine tk 2 (.pointer (some ⟨q,6,none⟩)) hS7 (hy:=fun u hS=>by go_simp) (h:=?_);try simp only[zz]
    refine tk 3 (.int .i64 0) hS7 (hy:=fun u hS=>by obtain⟨s0,s1⟩:=hS;go_simp) (h:=?_);try simp only[zz]
    refine wpAnyH_ready (rs:=[4]) (by kernel_rfl) (by simp) (Yc9 rfl (fun K' hK'=>?_) Ydc);go_simp;refine(Zig (CU.below (Yct _ _).drew).bd hrx).mono ?_;rintro e w5 ⟨rfl,ov5,hbd5,ho5⟩;have FO:=FINAL.out _ w5 ov5 KU hsU hmU B2U CU hbd5 ⟨ho5.os,ho5.tape,ho5.output,ho5.size,ho5.block⟩;refine hK'.out _ _ ⟨FO.2.choose_spec.choose_spec.2.1.one.1,FO.2.choose_spec.choose_spec.2.2.2.2.1.one.1⟩ fun _=>?_;try simp only[zz]
    refine wpAnyH_done (by kernel_rfl) ?_ _;exact FO
 case done=>
  rintro W ⟨ov',Fo',hc,b0,b1,b2,b3,ho,hsb⟩ hD;have d2:=Blk.cell b2 0;simp at d2;have FIN:=Zaa (Ycs hc (Ycs ho hsb));clear hc b0 b1 b2 b3 ho hsb;gi_wp2
  refine⟨by simp,.inl ⟨_,_,rfl,run_takeDeferred hD,?_⟩⟩;have k:Off [W4.heap.size,W4.heap.size+1] W (W.putObj W4.heap.size (.deferred none)):=Off.putObj _ (by simp);refine⟨_,results_tmp rfl _ _ _,rfl,ov',Fo',OT.out _ _ _ _ FIN.out.1 FIN.out.2.2 k,FIN.out.2.1.trans k fun i hi=>?_,fun i hi=>(FIN.out.2.2 i hi).imp id (by omega)⟩;simp at hi;exact .inr (by omega)
end Go.P
namespace Go.P
variable {w:World}{q p m n:Nat}{cs:Array Value}{at_:List Pt}{gs:List Gt}{S F Fo:List Nat}{fs xs:List (ByteArray×Nat)}{vs:List T}{ov:Value}{fx:ByteArray×Nat}
theorem Ctx.cell (h:Ctx w q p m cs at_ gs S fs vs F xs ov Fo)(j:Nat)(hj:j≠7):w.cell? ⟨q,j,none⟩=cs[j]?:=by
 rw[h.bd.blk.cell,Ycv,if_neg (by omega)]
theorem Ctx.fact (h:Ctx w q p m cs at_ gs S fs vs F xs ov Fo)(hf:fs[n]?=some fx): ∃ gf cf,w.cell? ⟨p,0,none⟩=some (.slice (some ⟨gf,0,none⟩) fs.length cf)/\p∈F/\gf∈F/\w.cell? ⟨gf,n*8,none⟩=some (.string fx.1)/\w.cell? ⟨gf,n*8+1,none⟩=some (.int .i64 1)/\w.cell? ⟨gf,n*8+2,none⟩=some (.int .i64 (fx.2:Int))/\w.cell? ⟨gf,n*8+3,none⟩=some (.int .i64 0)/\w.cell? ⟨gf,n*8+4,none⟩=some (.int .i64 0)/\w.cell? ⟨gf,n*8+5,none⟩=some (.int .i64 0)/\w.cell? ⟨gf,n*8+6,none⟩=some (.int .i64 0)/\w.cell? ⟨gf,n*8+7,none⟩=some (.int .i64 0):=by
 obtain⟨k,r,fv,vv,Ff,Fv,hw⟩:=h.wd;obtain⟨gf,cf,cs8,G,rfl,hgf,⟨_,rfl⟩,key⟩:=hw.facts.nth n fx hf;exact⟨gf,cf,hw.blk.four.1,by rw[hw.own];simp,by rw[hw.own];simp[hgf],key 0 _ rfl,key 1 _ rfl,key 2 _ rfl,key 3 _ rfl,key 4 _ rfl,key 5 _ rfl,key 6 _ rfl,key 7 _ rfl⟩
theorem Zn0 (h:Ctx w q p m cs at_ gs S fs vs F [] ov Fo){i seen:Nat}{x:Pt}(hx:at_[i]?=some x)(hi:i+1=at_.length)(h4:at_.length<=4)(hn:fs[n]?=some fx):
  Calls Tryz.prog 246 #[.pointer (some ⟨q,0,none⟩),.int .i64 (i:Int),.int .i64 (n:Int),.int .i64 (seen:Int)] w fun e w'=>e= .returned (.tuple #[])/\ ∃ ov' Fo',Ctx w' q p m cs at_ gs S fs vs F [] ov' Fo'/\Off (q::m::Fo) w w'/\ ∀ i,i∈Fo'->i∈Fo\/w.heap.size<=i:=by
 obtain⟨pa,ca,c3,hA⟩:=h.rd.atoms;obtain⟨ga,g,c,rfl,hgaS,hgS,a0,a1,hsl⟩:=hA i x hx;obtain⟨gf,cf,p0,hpF,hfF,f0,f1,f2,f3,f4,f5,f6,f7⟩:=h.fact hn;have q0:=(h.cell 0 (by omega)).trans h.rd.c0;have q3:=(h.cell 3 (by omega)).trans c3;have hil:(i:Int) < (at_.length:Int):=by omega
 have hnl:(n:Int) < (fs.length:Int):=by have:=(Yc3.1 hn).1;omega
 have hil2: ¬ ((i:Int)+1 < (at_.length:Int)):=by omega
 have hi4:(i:Int) < 4:=by omega
 have CM:=Zaa (Znr (w:=w.drew) (h.below (Yct _ w).drew).bd (c:=c) (hsl.of (w':=w.drew) lr rfl) x.1 fx (by simp));have hrx:(Zcf [] x.1 x.2 fx).2.length<=1:=by
  unfold Zcf;split
  ·simp
  ·split <;> simp
 unfold Zem at CM;have H:=Zaa h;clear h hA;go_enter Tryz.func246,Tryz.ntmps246
 go_wp2_with fail
 go_region_held3 (fun u=>u.cell? ⟨q,0,none⟩=some (.pointer (some ⟨p,0,none⟩))/\u.cell? ⟨q,3,none⟩=some (.slice (some ⟨ga,0,none⟩) at_.length ca)/\u.cell? ⟨ga,i*2,none⟩=some (.string x.1)/\u.cell? ⟨ga,i*2+1,none⟩=some (.slice (some ⟨g,0,none⟩) 1 c)/\u.cell? ⟨p,0,none⟩=some (.slice (some ⟨gf,0,none⟩) fs.length cf)/\u.cell? ⟨gf,n*8,none⟩=some (.string fx.1)/\u.cell? ⟨gf,n*8+1,none⟩=some (.int .i64 1)/\u.cell? ⟨gf,n*8+2,none⟩=some (.int .i64 (fx.2:Int))/\u.cell? ⟨gf,n*8+3,none⟩=some (.int .i64 0)/\u.cell? ⟨gf,n*8+4,none⟩=some (.int .i64 0)/\u.cell? ⟨gf,n*8+5,none⟩=some (.int .i64 0)/\u.cell? ⟨gf,n*8+6,none⟩=some (.int .i64 0)/\u.cell? ⟨gf,n*8+7,none⟩=some (.int .i64 0)) (first | exact⟨q0,q3,a0,a1,p0,f0,f1,f2,f3,f4,f5,f6,f7⟩ | exact S2) (first
  | (go_at_call 260;refine CM.out.mono ?_;rintro e w2 ⟨rfl,ov2,F2,hb2,ho2,hs2⟩;have C2:=(H.out.below (Yct _ w).drew).step hb2 ho2 hs2 ⟨rfl,fun _ _=>rfl⟩;have bk: ∀ j,j < w.heap.size->j∉q::m::Fo-> ∀ o,w2.cell? ⟨j,o,none⟩=w.cell? ⟨j,o,none⟩:=(fun j hj hn o=>Ycw (a:=⟨j,o,none⟩) (ho2.block j hj hn));have nS: ∀ j,j∈S->j∉q::m::Fo:=(fun j hj h=>(H.out.dB j h).2.1 hj);have nF: ∀ j,j∈F->j∉q::m::Fo:=(fun j hj h=>(H.out.dB j h).1 hj);have lS:=H.out.rd.lS;have lF:=H.out.wd.lt;have S2:=Ycs ((C2.cell 0 (by omega)).trans C2.rd.c0) (Ycs ((C2.cell 3 (by omega)).trans c3) (Ycs ((bk ga (lS _ hgaS) (nS _ hgaS) _).trans a0) (Ycs ((bk ga (lS _ hgaS) (nS _ hgaS) _).trans a1) (Ycs ((bk p (lF _ hpF) (nF _ hpF) _).trans p0) (Ycs ((bk gf (lF _ hfF) (nF _ hfF) _).trans f0) (Ycs ((bk gf (lF _ hfF) (nF _ hfF) _).trans f1) (Ycs ((bk gf (lF _ hfF) (nF _ hfF) _).trans f2) (Ycs ((bk gf (lF _ hfF) (nF _ hfF) _).trans f3) (Ycs ((bk gf (lF _ hfF) (nF _ hfF) _).trans f4) (Ycs ((bk gf (lF _ hfF) (nF _ hfF) _).trans f5) (Ycs ((bk gf (lF _ hfF) (nF _ hfF) _).trans f6) ((bk gf (lF _ hfF) (nF _ hfF) _).trans f7))))))))))))))
 have q3':=S2.2.1;have FF:=Zaa (Ycs C2 (Ycs ho2 hs2));have CF:=Zaa (Zig C2.bd hrx);clear S2 C2 hb2 ho2 hs2 bk nS nF lS lF q0 q3 a0 a1 p0 f0 f1 f2 f3 f4 f5 f6 f7 CM;go_wp2_with fail
 refine wp_loop_rounds 1 ?_;rw[rounds_succ];go_wp2_with fail
 refine CF.out.mono ?_;rintro e w5 ⟨rfl,ov5,hb5,ho5⟩;have FO:=Zaa (Ycs (FF.out.1.step hb5 ho5 (fun _ h=> .inl h) ⟨rfl,fun _ _=>rfl⟩) (Ycs ((Off.of (F:=q::m::Fo) (Yct _ w).drew).trans (FF.out.2.1.trans ho5 fun i hi=>by
  simp only[Yc1]at hi⊢;rcases hi with h | h | h
  ·exact .inl (.inl h)
  ·exact .inl (.inr (.inl h))
  ·exact(FF.out.2.2 i h).imp (fun h=> .inr (.inr h)) id) fun _ h=> .inl h) FF.out.2.2))
 clear hb5 ho5 CF FF;go_wp2_with fail
 go_end0
 exact⟨rfl,ov5,F2,FO.out.1,FO.out.2.1,FO.out.2.2⟩
end Go.P
namespace Go.W
theorem Z4w (a b:Nat)(ha:a < 8)(hb:b < 8):bits BinOp.and IntKind.u64 (a:Int) (b:Int)=((a &&& b:Nat):Int):=by
 have h1:a=0\/a=1\/a=2\/a=3\/a=4\/a=5\/a=6\/a=7:=by omega
 have h2:b=0\/b=1\/b=2\/b=3\/b=4\/b=5\/b=6\/b=7:=by omega
 rcases h1 with rfl | rfl | rfl | rfl | rfl | rfl | rfl | rfl <;> rcases h2 with rfl | rfl | rfl | rfl | rfl | rfl | rfl | rfl <;> rfl
end Go.W
namespace Go.P
variable {n:Nat}
section
variable {w:World} {q p m:Nat} {cs:Array Value} {at_:List Pt} {x x1:Pt} {gs:List Gt} {S:List Nat} {fs:List (ByteArray×Nat)} {vs:List T} {F:List Nat} {xs:List (ByteArray×Nat)} {ov:Value} {Fo:List Nat}
theorem Zkj (h:Ctx w q p m cs at_ gs S fs vs F xs ov Fo)(h4:at_.length<=4){i:Nat}(hi:i+1=at_.length)(l0 l1 l2 l3:Nat):
  Calls Tryz.prog 250 #[.pointer (some ⟨q,0,none⟩),.agg #[.int .u64 (l0:Int),.int .u64 (l1:Int),.int .u64 (l2:Int),.int .u64 (l3:Int)],.int .i64 (i:Int),.int .i64 (n:Int)] w fun e w'=>e= .returned (.tuple #[.agg #[.int .u64 (l0:Int),.int .u64 (l1:Int),.int .u64 (l2:Int),.int .u64 (l3:Int)],.bool true])/\Below w.heap.size w w':=by
 obtain⟨pa,ca,c3,hA⟩:=h.rd.atoms;have q3:=(h.cell 3 (by omega)).trans c3;have hql:=h.bd.blk.lt;have hi4:(i:Int) < 4:=by omega
 have hil2: ¬ ((i:Int)+1 < (at_.length:Int)):=by omega
 have B2: ∀ o o',Below w.heap.size w ((w.alloc o).alloc o'):=fun o o'=>((Yct _ w).alloc lr o).alloc (by simp) o';have q3': ∀ o o',((w.alloc o).alloc o').cell? ⟨q,3,none⟩=some (.slice pa at_.length ca):=fun o o'=>(Ycw (a:=⟨q,3,none⟩) ((B2 o o').block q hql)).trans q3;clear h hA;go_enter Tryz.func250,Tryz.ntmps250
 go_wp2_with fail
 refine wp_loop_rounds 1 ?_;rw[rounds_succ];go_wp2_with fail
 refine bodyPost_ret (by simp[results,Tryz.results250,go_sem];try rfl) rfl ?_;exact⟨rfl,B2 _ _⟩
theorem Ztc (h:Ctx w q p m cs [x,x1] gs S fs vs F xs ov Fo){b:Nat}(hn:n < 60)(cb:cs[12+n*4+1]?=some (.int .u64 (b:Int)))(hb8:b < 8)(l0 l1 l2 l3:Nat)(h1:l1 < 8)(hz:l1 &&& b≠0):
  Calls Tryz.prog 250 #[.pointer (some ⟨q,0,none⟩),.agg #[.int .u64 (l0:Int),.int .u64 (l1:Int),.int .u64 (l2:Int),.int .u64 (l3:Int)],.int .i64 0,.int .i64 (n:Int)] w fun e w'=>e= .returned (.tuple #[.agg #[.int .u64 (l0:Int),.int .u64 ((l1 &&& b:Nat):Int),.int .u64 (l2:Int),.int .u64 (l3:Int)],.bool true])/\Below w.heap.size w w':=by
 obtain⟨pa,ca,c3,hA⟩:=h.rd.atoms;simp only[Yc7,Ydb,Ydp]at c3;have q3:=(h.cell 3 (by omega)).trans c3;have qb:=(h.cell (12+n*4+1) (by omega)).trans cb;have hql:=h.bd.blk.lt;have hn6:(n:Int) < 60:=by omega
 have hand:=Z4w l1 b h1 hb8;obtain⟨r,hr⟩: ∃ r,l1 &&& b=r:=⟨_,rfl⟩;rw[hr]at hand hz⊢;have hz':((r:Int)==0)=false:=by rw[beq_eq_false_iff_ne];omega
 obtain⟨W2,hW2⟩: ∃ W2,Box ((w.alloc (.cells #[.int .u64 (l0:Int),.int .u64 (l1:Int),.int .u64 (l2:Int),.int .u64 (l3:Int)] 338)).alloc (.cells #[.int .u64 0,.int .u64 0,.int .u64 0,.int .u64 0] 338)=W2):=⟨_,⟨rfl⟩⟩;have B2:Box (Below w.heap.size w W2):=⟨hW2.out▸((Yct _ w).alloc lr _).alloc (by simp) _⟩;have L0:Box (Blk W2 w.heap.size #[.int .u64 (l0:Int),.int .u64 (l1:Int),.int .u64 (l2:Int),.int .u64 (l3:Int)] 338):=⟨hW2.out▸(Blk.new w _ _).alloc _⟩;have L1:Box (Blk W2 (w.heap.size+1) #[.int .u64 0,.int .u64 0,.int .u64 0,.int .u64 0] 338):=⟨hW2.out▸Zpo w _ _ _⟩;obtain⟨a0,a1,a2,a3,sa⟩:=L0.out.four;obtain⟨d0,d1,d2,d3,sd⟩:=L1.out.four;have q3':=(Ycw (a:=⟨q,3,none⟩) (B2.out.block q hql)).trans q3;have qb':=(Ycw (a:=⟨q,12+n*4+1,none⟩) (B2.out.block q hql)).trans qb;have hq1:q≠w.heap.size:=by omega
 have hq2:w.heap.size≠q:=by omega
 clear h hA hr;go_enter Tryz.func250,Tryz.ntmps250
 go_wp2_with fail
 rw[hW2.out];clear hW2;refine wp_loop_rounds 2 ?_;rw[rounds_succ];go_wp2_with fail
 go_region
 all_goals
  go_wp2_with fail
  rw[rounds_succ];go_wp2_with fail
  refine bodyPost_ret (by simp[results,Tryz.results250,go_sem,d0,d1,d2,d3];try rfl) rfl ?_;have e1:w.heap.size<=w.heap.size+1:=by omega
  exact⟨rfl,(((((B2.out.setCell (p:=⟨w.heap.size,1,none⟩) lr _).setCell (p:=⟨w.heap.size+1,0,none⟩) e1 _).setCell (p:=⟨w.heap.size+1,1,none⟩) e1 _).setCell (p:=⟨w.heap.size+1,2,none⟩) e1 _).setCell (p:=⟨w.heap.size+1,3,none⟩) e1 _).drew⟩
end
end Go.P
namespace Go.P
section
variable {w:World} {q p m:Nat} {cs:Array Value} {at_:List Pt} {gs:List Gt} {S:List Nat} {fs:List (ByteArray×Nat)} {vs:List T} {F:List Nat} {xs:List (ByteArray×Nat)} {ov:Value} {Fo:List Nat}
def Zm2 (w:World) (q b v:Nat):Prop:=Blk w b #[.pointer (some ⟨q,0,none⟩)] 327/\Blk w v #[.func (.func 249) #[] #[.pointer (some ⟨b,0,none⟩),.pointer (some ⟨v,0,none⟩)]] 372
theorem Zza (h:Ctx w q p m cs at_ gs S fs vs F xs ov Fo){b v:Nat}(hw:Zm2 w q b v)(l0 l1 l2 l3:Nat):
  Calls Tryz.prog 249 #[.int .i64 (at_.length:Int),.agg #[.int .u64 (l0:Int),.int .u64 (l1:Int),.int .u64 (l2:Int),.int .u64 (l3:Int)],.pointer (some ⟨b,0,none⟩),.pointer (some ⟨v,0,none⟩)] w fun e w'=>e= .returned (.bool true)/\Below w.heap.size w w':=by
 obtain⟨pa,ca,c3,hA⟩:=h.rd.atoms;have q3:=(h.cell 3 (by omega)).trans c3;have hql:=h.bd.blk.lt;have b0:=hw.1.one.1;have hbl:=hw.1.lt;have B3: ∀ o1 o2 o3,Below w.heap.size w (((w.alloc o1).alloc o2).alloc o3):=fun o1 o2 o3=>(((Yct _ w).alloc lr o1).alloc (by simp) o2).alloc (by simp;omega) o3;have q3': ∀ o1 o2 o3,(((w.alloc o1).alloc o2).alloc o3).cell? ⟨q,3,none⟩=some (.slice pa at_.length ca):=fun o1 o2 o3=>(Ycw (a:=⟨q,3,none⟩) ((B3 o1 o2 o3).block q hql)).trans q3;have b0': ∀ o1 o2 o3,(((w.alloc o1).alloc o2).alloc o3).cell? ⟨b,0,none⟩=some (.pointer (some ⟨q,0,none⟩)):=fun o1 o2 o3=>(Ycw (a:=⟨b,0,none⟩) ((B3 o1 o2 o3).block b hbl)).trans b0;clear h hA hw;refine(callsIn_wide (n:=5)).1 ?_;refine callsIn_of_wp_marks Tryz.func249 rfl trivial ?_ rfl;simp only[Tryz.ntmps249,Yc5,Yc7,Ydb,Nat.reduceAdd,Nat.reduceSub,Ydf,Yde,Ydk,Ydh,Ydg,Ydd];refine wpIn_wide.2 ?_;go_wp2_with fail
 go_quiet (fail)
 go_wp2_with fail
 exact⟨.bool true,by simp[results,Tryz.results249,go_sem],rfl,(Zb2 (B3 _ _ _)).setCell (p:=⟨w.heap.size+1+1,0,none⟩) (by show w.heap.size<=w.heap.size+1+1;omega) _⟩
end
end Go.P
