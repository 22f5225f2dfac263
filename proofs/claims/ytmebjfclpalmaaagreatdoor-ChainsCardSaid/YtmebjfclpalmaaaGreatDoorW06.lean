import Derived.Test.YtmebjfclpalmaaaGreatDoorW05
import Derived.Deep.RegionHeld3
import Derived.Deep.RegionHeld
import Derived.OrdersIn
set_option maxRecDepth 100000
set_option maxHeartbeats 8000000
set_option linter.unusedSimpArgs false
open Go.Proofs Go.RowKit Go.W Tryz
namespace Go.W
abbrev Pt:=ByteArray×(ByteArray×Nat)
abbrev Gt:=Nat×(ByteArray×Nat)×(ByteArray×Nat)
def Ycv (w:World) (S:List Nat) (pa:Option Addr) (i:Nat) (x:Pt):Prop:= ∃ ga g c,pa=some ⟨ga,0,none⟩/\ga∈S/\g∈S/\w.cell? ⟨ga,i*2,none⟩=some (.string x.1)/\w.cell? ⟨ga,i*2+1,none⟩=some (.slice (some ⟨g,0,none⟩) 1 c)/\Zdu w g x.2
def Yct (w:World) (S:List Nat) (pa:Option Addr) (i:Nat) (x:Gt):Prop:= ∃ ga,pa=some ⟨ga,0,none⟩/\ga∈S/\w.cell? ⟨ga,i*5,none⟩=some (.int .i64 (x.1:Int))/\w.cell? ⟨ga,i*5+1,none⟩=some (.string x.2.1.1)/\w.cell? ⟨ga,i*5+2,none⟩=some (.int .i64 (x.2.1.2:Int))/\w.cell? ⟨ga,i*5+3,none⟩=some (.string x.2.2.1)/\w.cell? ⟨ga,i*5+4,none⟩=some (.int .i64 (x.2.2.2:Int))/\x.2.1.1.size < 1000000000/\x.2.2.1.size < 1000000000
structure Bod (w:World) (cs:Array Value) (p:Nat) (at_:List Pt) (gs:List Gt) (S:List Nat):Prop where
 sz:cs.size=972
 c0:cs[0]?=some (.pointer (some ⟨p,0,none⟩))
 atoms: ∃ pa ca,cs[3]?=some (.slice pa at_.length ca)/\ ∀ i x,at_[i]?=some x->Ycv w S pa i x
 guards: ∃ pg cg,cs[4]?=some (.slice pg gs.length cg)/\ ∀ i x,gs[i]?=some x->Yct w S pg i x
 lS: ∀ j,j∈S->j < w.heap.size
theorem Bod.of {w w':World}{cs cs':Array Value}{p:Nat}{at_:List Pt}{gs:List Gt}{S:List Nat}(h:Bod w cs p at_ gs S)(hs:w.heap.size<=w'.heap.size)(hb: ∀ k,k∈S->w'.heap[k]?=w.heap[k]?)(hc:cs'.size=cs.size/\ ∀ j,j < 5->cs'[j]?=cs[j]?):Bod w' cs' p at_ gs S:=by
 obtain⟨h1,h2,⟨pa,ca,h3,h4⟩,⟨pg,cg,h5,h6⟩,h7⟩:=h;have cell: ∀ g,g∈S-> ∀ o,w'.cell? ⟨g,o,none⟩=w.cell? ⟨g,o,none⟩:=fun g hg o=>Yde (a:=⟨g,o,none⟩) (hb g hg);refine⟨hc.1.trans h1,(hc.2 0 (by omega)).trans h2,⟨pa,ca,(hc.2 3 (by omega)).trans h3,fun i x hx=>?_⟩,⟨pg,cg,(hc.2 4 (by omega)).trans h5,fun i x hx=>?_⟩,fun j hj=>Ydh (h7 j hj) hs⟩
 ·obtain⟨ga,g,c,e,m1,m2,k1,k2,k3⟩:=h4 i x hx;exact⟨ga,g,c,e,m1,m2,by rw[cell ga m1];exact k1,by rw[cell ga m1];exact k2,k3.of hs (hb g m2)⟩
 ·obtain⟨ga,e,m1,k0,k1,k2,k3,k4,k5,k6⟩:=h6 i x hx;exact⟨ga,e,m1,by rw[cell ga m1];exact k0,by rw[cell ga m1];exact k1,by rw[cell ga m1];exact k2,by rw[cell ga m1];exact k3,by rw[cell ga m1];exact k4,k5,k6⟩
def Z5l (xs:List (ByteArray×Nat)) (vs:List T) (g:Gt):Prop:=g.1=3/\((Zbn xs g.2.1).2=false\/(Zbn xs g.2.2).2=false\/ ∃ x y,vs[(Zbn xs g.2.1).1]?=some x/\vs[(Zbn xs g.2.2).1]?=some y/\x.k=5/\y.k=5/\x.i < y.i)
end Go.W
namespace Go.P
variable {w:World}{F:List Nat}
def Zpg (w:World):Prop:=Z5j w/\w.cell? ⟨17,2,none⟩=some (.string ⟨#[60]⟩)/\23<=w.heap.size
theorem Zpg.of {w':World}(h:Zpg w)(k:Off F w w')(hF: ∀ j,j∈F->23<=j):Zpg w':=by
 obtain⟨⟨h0,h1,h2⟩,h3,h4⟩:=h;have cell: ∀ g,g < 23-> ∀ o,w'.cell? ⟨g,o,none⟩=w.cell? ⟨g,o,none⟩:=fun g hg o=>Yde (a:=⟨g,o,none⟩) (k.block g (by omega) fun q=>by have:=hF g q;omega);exact⟨⟨by rw[cell _ (by decide)];exact h0,by rw[cell _ (by decide)];exact h1,by rw[cell _ (by decide)];exact h2⟩,by rw[cell _ (by decide)];exact h3,Ydc h4 k.size⟩
structure Ctx (w:World) (q p m:Nat) (cs:Array Value) (at_:List Pt) (gs:List Gt) (S:List Nat) (fs:List (ByteArray×Nat)) (vs:List T) (F:List Nat) (xs:List (ByteArray×Nat)) (ov:Value) (Fo:List Nat):Prop where
 bd:Bd w q 345 6 m cs xs ov Fo
 rd:Bod w cs p at_ gs S
 wd:Zd3 w p fs vs F
 gl:Zpg w
 dB: ∀ j,j∈q::m::Fo->j∉F/\j∉S/\23<=j
 dF: ∀ j,j∈F->j∉S/\23<=j
section
variable {w w':World} {q p m:Nat} {cs cs':Array Value} {at_:List Pt} {gs:List Gt} {S:List Nat} {fs fs':List (ByteArray×Nat)} {vs vs':List T} {F F':List Nat} {xs xs':List (ByteArray×Nat)} {ov ov':Value} {Fo Fo':List Nat}
theorem Ctx.step (h:Ctx w q p m cs at_ gs S fs vs F xs ov Fo)(hb:Bd w' q 345 6 m cs' xs' ov' Fo')(ho:Off (q::m::Fo) w w')(hs: ∀ i,i∈Fo'->i∈Fo\/w.heap.size<=i)(hc:cs'.size=cs.size/\ ∀ j,j < 5->cs'[j]?=cs[j]?):Ctx w' q p m cs' at_ gs S fs vs F xs' ov' Fo':=by
 refine⟨hb,h.rd.of ho.size (fun k hk=>ho.block k (h.rd.lS k hk) fun q=>(h.dB k q).2.1 hk) hc,h.wd.off ho fun j hj q=>(h.dB j q).1 hj,h.gl.of ho fun j hj=>(h.dB j hj).2.2,fun j hj=>?_,h.dF⟩;simp only[Ydj]at hj;rcases hj with rfl | rfl | hj
 ·exact h.dB _ (by simp)
 ·exact h.dB _ (by simp)
 ·rcases hs j hj with hj | hj
  ·exact h.dB j (by simp[hj])
  ·exact⟨fun q=>by have:=h.wd.lt j q;omega,fun q=>by have:=h.rd.lS j q;omega,Ydc h.gl.2.2 hj⟩
theorem Ctx.other {G:List Nat}(h:Ctx w q p m cs at_ gs S fs vs F xs ov Fo)(ho:Off G w w')(hG: ∀ j,j∈G->j∉q::m::Fo/\j∉F/\j∉S/\23<=j):Ctx w' q p m cs at_ gs S fs vs F xs ov Fo:=
 ⟨h.bd.off ho fun j hj q=>(hG j q).1 hj,h.rd.of ho.size (fun k hk=>ho.block k (h.rd.lS k hk) fun q=>(hG k q).2.2.1 hk) ⟨rfl,fun _ _=>rfl⟩,h.wd.off ho fun j hj q=>(hG j q).2.1 hj,h.gl.of ho fun j hj=>(hG j hj).2.2.2,h.dB,h.dF⟩
theorem Ctx.below (h:Ctx w q p m cs at_ gs S fs vs F xs ov Fo)(hb:Below w.heap.size w w'):Ctx w' q p m cs at_ gs S fs vs F xs ov Fo:=
 h.step (h.bd.off (Off.of (F:=[]) hb) (fun _ _=>by simp)) (Off.of hb) (fun _ h=> .inl h) ⟨rfl,fun _ _=>rfl⟩
end
theorem Zju {q p m:Nat}{cs:Array Value}{at_:List Pt}{gs:List Gt}{S:List Nat}{fs:List (ByteArray×Nat)}{vs:List T}{xs:List (ByteArray×Nat)}{ov:Value}{Fo:List Nat}(h:Ctx w q p m cs at_ gs S fs vs F xs ov Fo)(hl:gs.length<=1)(hg: ∀ g,g∈gs->Z5l xs vs g):
  Calls prog 221 #[.pointer (some ⟨q,0,none⟩)] w fun e w'=>e= .returned (.bool true)/\Below w.heap.size w w':=by
 obtain⟨pg,cg,c4,hG⟩:=h.rd.guards;have hcell: ∀ j,j≠7->w.cell? ⟨q,j,none⟩=cs[j]?:=fun j hj=>by
  rw[h.bd.blk.cell,Ydd,if_neg (by omega)]
 have q4:=(hcell 4 (by omega)).trans c4;have q0:=(hcell 0 (by omega)).trans h.rd.c0;match gs,hl with
 | [],_=>
  clear h;go_in
  go_wp2
  refine Ye7 1 ?_;rw[Ye5];go_wp2
  go_ret
  exact⟨rfl,Ydb _ _⟩
 | [y],_=>
  obtain⟨ga,rfl,hgS,y0,y1,y2,y3,y4,z1,z2⟩:=hG 0 y rfl;obtain⟨h3,hy⟩:=hg y (by simp);have hgl:=h.rd.lS ga hgS;have hql:=h.bd.blk.lt;obtain⟨op,sa,sb⟩:=y;have CO:=Zaa (fun u (hu:Below w.heap.size w u) (s:ByteArray×Nat) (hs:s.1.size < 1000000000)=>Zvt (w:=u) (q:=q) (o:=6) (v:= .map (some m)) (xs:=xs) (.inr ⟨m,rfl,h.bd.map.of (hu.block m h.bd.map.lt)⟩) ((Yde (a:=⟨q,6,none⟩) (hu.block q h.bd.blk.lt)).trans h.bd.cells.1) (Ydh h.bd.blk.lt hu.size) (fun j hj=>by injection hj with hj;injection hj with hj;subst hj;exact Ydh h.bd.map.lt hu.size) s hs);dsimp only at h3 hy y0 y1 y2 y3 y4 z1 z2;subst h3;simp only[Yex,Yd7]at y0 y1 y2 y3 y4;have H:=Zaa h;clear h hG hg hcell c4;go_in
  go_wp2
  refine Ye7 2 ?_;rw[Ye5];go_wp2_with fail
  have B1: ∀ o,Below w.heap.size w (w.alloc o):=fun o=>(Ydb _ w).alloc lr o;go_region_with (go_at_call 242;refine(CO.out _ (B1 _).drew sa z1).mono ?_;rintro e w2 ⟨rfl,hb2⟩)
  have LG:=Zaa ((Blk.new w #[.int .i64 3,.string sa.1,.int .i64 (sa.2:Int),.string sb.1,.int .i64 (sb.2:Int)] 371).of (hb2.block w.heap.size (by simp)));have HB2:=Zaa ((B1 _).drew.trans (hb2.mono (by simp)));have g0:=Blk.cell LG.out 0;have g3:=Blk.cell LG.out 3;have g4:=Blk.cell LG.out 4;have q0':=(Yde (a:=⟨q,0,none⟩) (HB2.out.block q hql)).trans q0;simp at g0 g3 g4;clear hb2;go_wp2
  go_region_with (go_at_call 242;refine(CO.out _ HB2.out.drew sb z2).mono ?_;rintro e w3 ⟨rfl,hb3⟩)
  go_simp;have HB3:=Zaa (HB2.out.drew.trans (hb3.mono HB2.out.size));have hs23:w2.heap.size<=w3.heap.size:=hb3.size;have k0:=(Yde (a:=⟨w.heap.size,0,none⟩) (hb3.block w.heap.size LG.out.lt)).trans g0;have q0'':=(Yde (a:=⟨q,0,none⟩) (HB3.out.block q hql)).trans q0;have CC:=Zaa (fun n1 n2 x y h1 h2 h3 h4 h5=>Zz1 (w:=w3.drew) (H.out.below HB3.out.drew).wd (H.out.below HB3.out.drew).gl.2.1 n1 n2 x y h1 h2 h3 h4 h5);clear hb3 g0 g3 g4 q0' CO y0 y1 y2 y3 y4 q0 q4;generalize (Zbn xs sa).1=va at*;generalize (Zbn xs sb).1=vb at*;generalize (Zbn xs sa).2=ka at*;generalize (Zbn xs sb).2=kb at*;cases ka with
  | false=>
   clear hy CC;go_wp2
   go_quiet (fail)
   go_wp2_with fail
   rw[Ye5];go_wp2
   go_ret
   exact⟨rfl,Zb6 HB3.out⟩
  | true=>
   cases kb with
   | false=>
    clear hy CC;go_wp2
    go_quiet (fail)
    go_wp2_with fail
    rw[Ye5];go_wp2
    go_ret
    exact⟨rfl,Zb6 HB3.out⟩
   | true=>
    obtain h | h | ⟨x,y,h1,h2,h3,h4,h5⟩:=hy
    ·cases h
    ·cases h
    have C1:=Zaa (CC.out va vb x y h1 h2 h3 h4 h5);clear CC h1 h2 h3 h4 h5;go_wp2_with fail
    have hwl:=LG.out.lt;go_region_held3 (fun u=>u.cell? ⟨w.heap.size,0,none⟩=some (.int .i64 3)/\u.cell? ⟨q,0,none⟩=some (.pointer (some ⟨p,0,none⟩))) (first | exact⟨k0,q0''⟩ | exact⟨k4,q4⟩) (first
     | (go_at_call 250;refine mq C1.out ?_;rintro w4 hb4;have k4:=(Yde (a:=⟨w.heap.size,0,none⟩) (hb4.block w.heap.size (Ydh hwl hs23))).trans k0;have q4:=(Yde (a:=⟨q,0,none⟩) (hb4.block q (Ydh hql HB3.out.size))).trans q0''))
    all_goals
     have HB4:=Zaa (HB3.out.drew.trans (hb4.mono HB3.out.size));clear hb4 C1;go_wp2_with fail
     rw[Ye5];go_wp2
     go_ret
     exact⟨rfl,HB4.out⟩
end Go.P
namespace Go.W
variable {P:Program}{ops:Array Oper}{Q:Exit->Act->World->Prop}{n l:Nat}
def Zx0 (o:Oper):Bool:=match o.op with
 | .defer _=>false
 | _=>true
theorem Z2m {o:Oper}(h:Zx0 o=true)(c:_):o.op≠ .defer c:=fun e=>by unfold Zx0 at h;rw[e]at h;cases h
theorem Z10 {md:Region.Mode}(hQ: ¬ LetsOut Q)(hd:ops.all Zx0=true):
  ∀ (fuel:Nat) (listed:Array Bool) (a:Act) (w:World),wpAny P md ops Q fuel listed a w->wpAnyIn (Fence.wide.inRound l) n P md ops Q fuel listed a w:=by
 intro fuel;induction fuel with
 | zero=>intro listed a w h;exact h
 | succ fuel ih=>
  intro listed a w h;refine⟨h.1,fun i hi=>?_⟩;have h2:=h.2 i hi;unfold wpOp at h2;unfold wpOpIn;split
  ·rename_i ho;simp only[ho]at h2;exact ih _ _ _ h2
  ·rename_i o ho;simp only[ho]at h2;have hm:o∈ops:=Array.mem_of_getElem? ho;split
   ·rename_i hw;simp only[hw,if_true]at h2;rcases h2 with h2 | h2
    ·refine⟨fun _ _=>trivial,?_⟩;rw[Oper.semAt_eq _ _ _ (Z2m (Array.all_eq_true_iff_forall_mem.1 hd o hm))];unfold Oper.wp at h2;generalize (execOp a.eval o).run P w=r at*;cases r with
     | ok x w'=>
      cases x with
      | value v=>exact ih _ _ _ h2
      | skip=>exact ih _ _ _ h2
      | defer d=>exact ih _ _ _ h2
      | enter f args=>exact⟨fun h=>(by cases h),CallsIn.inRound l (callsIn_wide.2 (Calls.mono h2 (fun e w'' he=>by cases e <;> first | exact ih _ _ _ he | exact he)))⟩
      | row row args=>exact⟨fun h=>(by cases h),fun c cs _=>let ⟨v,w'',r,s⟩:=Rows.mono h2 (fun _ _ he=>ih _ _ _ he) c cs;⟨v,w'',r,stepsIn_wide.2 s⟩⟩
      | _=>exact h2.elim
     | halt x w'=>cases x <;> exact h2
    ·exact absurd h2.2 hQ
   ·rename_i hw;simp only[hw]at h2;exact⟨fun _ _=>trivial,ih _ _ _ h2⟩
theorem Zd5 {id:Nat}{a:Act}{w:World}(S:World->Prop)(hm:P.follows .mixedOrders=true)(hQ: ¬ LetsOut Q)(hd:ops.all Zx0=true)(h:wpAnyH P .any ops Q S ops.size (Array.replicate ops.size false) a w.drew):(Code.region id ops true).wpIn (Fence.wide.inRound l) n P Q a w:=
 wpIn_region_any hm (Z10 hQ hd _ _ _ _ (wpAny_of_held _ _ _ _ h))
end Go.W
namespace Go.W
def Zdy (fs:List (ByteArray×Nat)) (pn:ByteArray) (s:ByteArray×Nat) (pre:List Nat):Nat:=pre.foldl (fun a n=>if(Zci [] pn s (fs.getD n (⟨#[]⟩,0))).1 then a ||| 2 ^ n else a) 0
theorem Zcp {s n:Nat}(h:n∈Za5 s):n < 3:=by
 unfold Za5 at h
 have:=(List.mem_filter.1 h).1
 simp at this;omega
theorem Ze2 (fs:List (ByteArray×Nat))(pn:ByteArray)(s:ByteArray×Nat){pre:List Nat}(h: ∀ n,n∈pre->n < 3):Zdy fs pn s pre < 8:=by
 unfold Zdy;have key: ∀ (l:List Nat) (a:Nat),(∀ n,n∈l->n < 3)->a < 8->l.foldl (fun a n=>if(Zci [] pn s (fs.getD n (⟨#[]⟩,0))).1 then a ||| 2 ^ n else a) a < 8:=by
  intro l;induction l with
  | nil=>intro a _ h;exact h
  | cons n l ih=>
   intro a hl ha;rw[List.foldl_cons];refine ih _ (fun k hk=>hl k (by simp[hk])) ?_;split
   ·have hn:=hl n (by simp)
    exact Nat.or_lt_two_pow (n:=3) ha (by have:n=0∨n=1∨n=2:=by omega
                                          rcases this with rfl | rfl | rfl <;> decide)
   ·exact ha
 exact key pre 0 h (by decide)
theorem Ycj (f x:Nat)(hf:f < 8)(hx:x < 3):bits BinOp.or IntKind.u64 (f:Int) (IntKind.u64.wrap (2 ^ x))=((f ||| 2 ^ x:Nat):Int):=by
 have h1:x=0\/x=1\/x=2:=by omega
 have h2:f=0\/f=1\/f=2\/f=3\/f=4\/f=5\/f=6\/f=7:=by omega
 rcases h1 with rfl | rfl | rfl <;> rcases h2 with rfl | rfl | rfl | rfl | rfl | rfl | rfl | rfl <;> rfl
end Go.W
namespace Go.P
open Go.RowKit Go.W Go.Shelf
attribute [local go_sem] Yea
theorem Zho {w:World}{q p m:Nat}{cs:Array Value}{at_:List Pt}{gs:List Gt}{S:List Nat}{fs:List (ByteArray×Nat)}{vs:List T}{F:List Nat}{ov:Value}{Fo:List Nat}(h:Ctx w q p m cs at_ gs S fs vs F [] ov Fo)(hl:gs.length<=1){g c:Nat}{sl:ByteArray×Nat}(hg:Zdu w g sl)(hgS:g∈S)(pn:ByteArray)(s:Nat)(hs:s < 8)(hb: ∀ n,n∈Za5 s->n < fs.length)(ha: ∀ n,n∈Za5 s->(Zci [] pn sl (fs.getD n (⟨#[]⟩,0))).1=true-> ∀ y,y∈gs->Z5l (Zci [] pn sl (fs.getD n (⟨#[]⟩,0))).2 vs y):
  Calls prog 245 #[.pointer (some ⟨q,0,none⟩),.agg #[.string pn,.slice (some ⟨g,0,none⟩) 1 c],.int .u64 (s:Int)] w fun e w'=>e= .returned (.int .u64 (Zdy fs pn sl (Za5 s):Int))/\ ∃ ov' Fo',Ctx w' q p m cs at_ gs S fs vs F [] ov' Fo'/\Off (q::m::Fo) w w'/\ ∀ i,i∈Fo'->i∈Fo\/w.heap.size<=i:=by
 obtain⟨po,co,rfl⟩:=h.bd.row.form;have q7:w.cell? ⟨q,7,none⟩=some (.slice po 0 co):=h.bd.cells.2.1;have hql:=h.bd.blk.lt;have q7': ∀ o1 o2 o3,(((w.alloc o1).alloc o2).alloc o3).cell? ⟨q,7,none⟩=some (.slice po 0 co):=fun o1 o2 o3=>h.bd.cells.2.1▸Yde (a:=⟨q,7,none⟩) ((Ydf _ _ _ (by simp;omega)).trans ((Ydf _ _ _ (by simp;omega)).trans (Ydf _ _ _ hql)));have H:=Zaa h;have hmf:=fun(fn:Fn) (first cap:Array Value) (w:World)=>(rfl:(Instr.makeFunc fn first cap).run prog w= .ok (.func fn first cap) w);clear h;refine(callsIn_wide (n:=5)).1 ?_;refine callsIn_of_wp_marks func245 rfl trivial ?_ rfl;simp only[ntmps245,Ydn,Ydp,Ydt,Nat.reduceAdd,Nat.reduceSub,Ydx,Ydw,Yd2,Ydz,Ydy,Ydv];obtain⟨W4,hW4⟩: ∃ W4,Box ((((w.alloc (.cells #[.pointer (some ⟨q,0,none⟩)] 330)).alloc (.cells #[.string pn,.slice (some ⟨g,0,none⟩) 1 c] 324)).alloc (.cells #[.int .u64 0] 339)).alloc (.cells #[.int .i64 0] 3)=W4):=⟨_,⟨rfl⟩⟩;have B4:Box (Below w.heap.size w W4):=⟨hW4.out▸((((Ydb _ w).alloc lr _).alloc (by simp) _).alloc (by simp;omega) _).alloc (by simp;omega) _⟩;have S4:Box (W4.heap.size=w.heap.size+4):=⟨by rw[<- hW4.out];simp⟩;have L0:Blk W4 w.heap.size #[.pointer (some ⟨q,0,none⟩)] 330:=hW4.out▸(((Blk.new w _ _).alloc _).alloc _).alloc _;have L1:Blk W4 (w.heap.size+1) #[.string pn,.slice (some ⟨g,0,none⟩) 1 c] 324:=hW4.out▸((Zpo w _ _ _).alloc _).alloc _;have L2:Blk W4 (w.heap.size+1+1) #[.int .u64 0] 339:=hW4.out▸(Z2h w _ _ _ _).alloc _;have L3:Blk W4 (w.heap.size+1+1+1) #[.int .i64 0] 3:=hW4.out▸by have:=Blk.new (((w.alloc (.cells #[.pointer (some ⟨q,0,none⟩)] 330)).alloc (.cells #[.string pn,.slice (some ⟨g,0,none⟩) 1 c] 324)).alloc (.cells #[.int .u64 0] 339)) #[.int .i64 0] 3;rwa [Ydm,Ydm,Ydm]at this
 have HL:=Zaa (Yda L0 (Yda L1 (Yda L2 L3)));clear L0 L1 L2 L3;gi_wp2
 rw[hW4.out];clear hW4 q7 q7';have eB:=S4.out;have hFl:=H.out.bd.lt;have OT:Box (∀ W W' ov' Fo',Ctx W q p m cs at_ gs S fs vs F [] ov' Fo'->(∀ i,i∈Fo'->i∈Fo\/w.heap.size+6<=i)->Off [W4.heap.size,W4.heap.size+1] W W'->Ctx W' q p m cs at_ gs S fs vs F [] ov' Fo'):=⟨fun W W' ov' Fo' hc hsb k=>hc.other k fun j hj=>by
  have hj':w.heap.size+4<=j/\j < w.heap.size+6:=by simp at hj;omega
  refine⟨fun h=>?_,fun h=>by have:=H.out.wd.lt j h;omega,fun h=>by have:=H.out.rd.lS j h;omega,Ydc H.out.gl.2.2 (by omega)⟩;simp only[Ydj]at h;rcases h with rfl | rfl | h
  ·omega
  ·have:=hFl j (by simp);omega
  ·rcases hsb j h with h | h
   ·have:=hFl j (by simp[h]);omega
   ·omega⟩
 refine Zf5 (K:=247) (s:=s) (xs:=Za5 s) (Z:=Z5j) rfl (Zam func247 (by kernel_rfl) rfl) (Zjz _ s hs) rfl
  (fun pre W=> ∃ ov' Fo',Ctx W q p m cs at_ gs S fs vs F [] ov' Fo'/\Blk W w.heap.size #[.pointer (some ⟨q,0,none⟩)] 330/\Blk W (w.heap.size+1) #[.string pn,.slice (some ⟨g,0,none⟩) 1 c] 324/\Blk W (w.heap.size+1+1) #[.int .u64 (Zdy fs pn sl pre:Int)] 339/\Blk W (w.heap.size+1+1+1) #[.int .i64 0] 3/\Off (q::m::Fo) w W/\ ∀ i,i∈Fo'->i∈Fo\/w.heap.size+6<=i)
  (fun _ _=>False) (fun _ _ ⟨_,_,hc,_⟩=>hc.gl.1) ?_ (fun _ _ _ h _=>h) ⟨_,Fo,H.out.below B4.out,HL.out.1,HL.out.2.1,HL.out.2.2.1,HL.out.2.2.2,Off.of B4.out,fun _ h=> .inl h⟩
  (fun x=>{tmps:=#[Value.pointer (some ⟨q,0,none⟩),Value.agg #[.string pn,.slice (some ⟨g,0,none⟩) 1 c],.int .u64 (s:Int),.pointer (some ⟨w.heap.size,0,none⟩),.pointer (some ⟨w.heap.size+1,0,none⟩),undef,.int .u64 0,.pointer (some ⟨w.heap.size+1+1,0,none⟩),.pointer (some ⟨w.heap.size+1+1+1,0,none⟩),.int .i64 (x:Int),.pointer (some ⟨q,0,none⟩),.pointer (some ⟨q,0,none⟩),.pointer (some ⟨q,6,none⟩),.pointer (some ⟨q,7,none⟩),.slice po 0 co,.int .i64 0,.int .u64 (s:Int),.func (.func 247) #[.int .u64 (s:Int)] #[],.int .i64 (x:Int),undef,undef,undef,undef,undef,undef,undef,undef,undef,undef,undef,undef,undef,undef,undef,undef,undef,undef,undef,undef,undef,undef,undef,undef,undef,undef,undef,undef,undef],defers:=[]}) ?assign ?body ?done (fun _ _ h _=>h.elim)
 ·rintro pre W W' ⟨ov',Fo',hc,b0,b1,b2,b3,ho,hsb⟩ k;have nn: ∀ j,j < w.heap.size+4->j∉[W4.heap.size,W4.heap.size+1]:=fun j hj=>by simp;omega
  refine⟨ov',Fo',OT.out W W' _ _ hc hsb k,b0.of (k.block _ b0.lt (nn _ (by omega))),b1.of (k.block _ b1.lt (nn _ (by omega))),b2.of (k.block _ b2.lt (nn _ (by omega))),b3.of (k.block _ b3.lt (nn _ (by omega))),ho.trans k fun i hi=>?_,hsb⟩;simp at hi;exact .inr (by omega)
 case assign=>
  intro l x W K hK;gi_wp2
  exact hK
 case body=>
  rintro l pre x rest W hx ⟨ov',Fo',hc,b0,b1,b2,b3,ho,hsb⟩ hW;have hxm:x∈Za5 s:=by rw[hx];simp
  have hxl:=hb x hxm;obtain⟨fx,hfx⟩: ∃ fx,fs[x]?=some fx:=⟨_,Ydi hxl⟩;have hgd:fs.getD x (⟨#[]⟩,0)=fx:=by rw[List.getD_eq_getElem?_getD,hfx];rfl
  have ha':=ha x hxm;rw[hgd]at ha';have FS:Box (Zdy fs pn sl (pre++[x])=if(Zci [] pn sl fx).1 then Zdy fs pn sl pre ||| 2 ^ x else Zdy fs pn sl pre):=⟨by unfold Zdy;rw[List.foldl_append,List.foldl_cons,List.foldl_nil,hgd]⟩;obtain⟨k,r,fv,vv,Ff,Fv,hw⟩:=hc.wd;obtain⟨gf,capf,cs8,G,rfl,hgf,⟨_,rfl⟩,key⟩:=hw.facts.nth x fx hfx;have p0:=hw.blk.four.1;have hqc: ∀ j,j≠7->W.cell? ⟨q,j,none⟩=cs[j]?:=fun j hj=>by
   rw[hc.bd.blk.cell,Ydd,if_neg (by omega)]
  have q0:=(hqc 0 (by omega)).trans hc.rd.c0;have f0:W.cell? ⟨gf,x*8,none⟩=some (.string fx.1):=key 0 _ rfl;have f1:=key 1 _ rfl;have f2:=key 2 _ rfl;have f3:=key 3 _ rfl;have f4:=key 4 _ rfl;have f5:=key 5 _ rfl;have f6:=key 6 _ rfl;have f7:=key 7 _ rfl;have hgW:Zdu W g sl:=hg.of ho.size (ho.block g hg.1 fun q=>(H.out.dB g q).2.1 hgS);have CM:=Zaa (Zoe (w:=W.drew) (hc.below (Ydb _ W).drew).bd (c:=c) (hgW.of (w':=W.drew) lr rfl) pn fx (by simp));unfold Zey at CM;have c0:=b0.one.1;have c1:=b1.two.1;have c1':=b1.two.2.1;have hxi:(x:Int) < (fs.length:Int):=by omega
  have hpl:=hw.blk.lt;have hpn:p∈F:=by rw[hw.own];simp
  have hgn:gf∈F:=by rw[hw.own];simp[hgf]
  have hfl:gf < W.heap.size:=hw.new.lt gf (by rw[hw.own];simp[hgf]);have hrx:(Zci [] pn sl fx).2.length<=1:=by
   unfold Zci;split
   ·simp
   ·split <;> simp
  generalize Zci [] pn sl fx=r at*;have HH:=Zaa (Yda hc (Yda b0 (Yda b1 (Yda b2 (Yda b3 (Yda ho hsb))))));clear hc b0 b1 b2 b3 ho hsb hw key hqc;have hmx:prog.follows .mixedOrders=true:=by kernel_rfl
  obtain⟨rb,rx⟩:=r;dsimp only at CM FS ha' hrx;gi_wp2
  have hS0:W.drew.cell? ⟨w.heap.size,0,none⟩=some (.pointer (some ⟨q,0,none⟩))/\W.drew.cell? ⟨w.heap.size+1,0,none⟩=some (.string pn)/\W.drew.cell? ⟨w.heap.size+1,1,none⟩=some (.slice (some ⟨g,0,none⟩) 1 c)/\W.drew.cell? ⟨q,0,none⟩=some (.pointer (some ⟨p,0,none⟩))/\W.drew.cell? ⟨p,0,none⟩=some (.slice (some ⟨gf,0,none⟩) fs.length capf)/\W.drew.cell? ⟨gf,x*8,none⟩=some (.string fx.1)/\W.drew.cell? ⟨gf,x*8+1,none⟩=some (.int .i64 1)/\W.drew.cell? ⟨gf,x*8+2,none⟩=some (.int .i64 (fx.2:Int))/\W.drew.cell? ⟨gf,x*8+3,none⟩=some (.int .i64 0)/\W.drew.cell? ⟨gf,x*8+4,none⟩=some (.int .i64 0)/\W.drew.cell? ⟨gf,x*8+5,none⟩=some (.int .i64 0)/\W.drew.cell? ⟨gf,x*8+6,none⟩=some (.int .i64 0)/\W.drew.cell? ⟨gf,x*8+7,none⟩=some (.int .i64 0):=⟨c0,c1,c1',q0,p0,f0,f1,f2,f3,f4,f5,f6,f7⟩;refine Zd5 (fun u=>u.cell? ⟨w.heap.size,0,none⟩=some (.pointer (some ⟨q,0,none⟩))/\u.cell? ⟨w.heap.size+1,0,none⟩=some (.string pn)/\u.cell? ⟨w.heap.size+1,1,none⟩=some (.slice (some ⟨g,0,none⟩) 1 c)/\u.cell? ⟨q,0,none⟩=some (.pointer (some ⟨p,0,none⟩))/\u.cell? ⟨p,0,none⟩=some (.slice (some ⟨gf,0,none⟩) fs.length capf)/\u.cell? ⟨gf,x*8,none⟩=some (.string fx.1)/\u.cell? ⟨gf,x*8+1,none⟩=some (.int .i64 1)/\u.cell? ⟨gf,x*8+2,none⟩=some (.int .i64 (fx.2:Int))/\u.cell? ⟨gf,x*8+3,none⟩=some (.int .i64 0)/\u.cell? ⟨gf,x*8+4,none⟩=some (.int .i64 0)/\u.cell? ⟨gf,x*8+5,none⟩=some (.int .i64 0)/\u.cell? ⟨gf,x*8+6,none⟩=some (.int .i64 0)/\u.cell? ⟨gf,x*8+7,none⟩=some (.int .i64 0)) hmx (fun⟨_,_,h⟩=>h) (by kernel_rfl) ?_;refine tk 0 (.pointer (some ⟨q,0,none⟩)) hS0 (hy:=fun u hS=>by obtain⟨s0,s1,s2,s3,s4,s5,s6,s7,s8,s9,sa,sb,sc⟩:=hS;go_simp) ?_;try simp only[zz]
  refine tk 1 (.pointer (some ⟨q,0,none⟩)) hS0 ?_;try simp only[zz]
  refine tk 2 (.pointer (some ⟨q,6,none⟩)) hS0 ?_;try simp only[zz]
  refine tk 3 (.agg #[.string pn,.slice (some ⟨g,0,none⟩) 1 c]) hS0 (hy:=fun u hS=>by obtain⟨s0,s1,s2,s3,s4,s5,s6,s7,s8,s9,sa,sb,sc⟩:=hS;go_simp) ?_;try simp only[zz]
  refine tk 4 (.pointer (some ⟨q,0,none⟩)) hS0 (hy:=fun u hS=>by obtain⟨s0,s1,s2,s3,s4,s5,s6,s7,s8,s9,sa,sb,sc⟩:=hS;go_simp) ?_;try simp only[zz]
  refine tk 5 (.pointer (some ⟨q,0,none⟩)) hS0 ?_;try simp only[zz]
  refine tk 6 (.pointer (some ⟨q,0,none⟩)) hS0 ?_;try simp only[zz]
  refine tk 7 (.pointer (some ⟨p,0,none⟩)) hS0 (hy:=fun u hS=>by obtain⟨s0,s1,s2,s3,s4,s5,s6,s7,s8,s9,sa,sb,sc⟩:=hS;go_simp) ?_;try simp only[zz]
  refine tk 8 (.pointer (some ⟨p,0,none⟩)) hS0 ?_;try simp only[zz]
  refine tk 9 (.pointer (some ⟨p,0,none⟩)) hS0 ?_;try simp only[zz]
  refine tk 10 (.slice (some ⟨gf,0,none⟩) fs.length capf) hS0 (hy:=fun u hS=>by obtain⟨s0,s1,s2,s3,s4,s5,s6,s7,s8,s9,sa,sb,sc⟩:=hS;go_simp) ?_;try simp only[zz]
  refine tk 11 (.int .i64 (x:Int)) hS0 ?_;try simp only[zz]
  refine tk 12 (.pointer (some ⟨gf,x*8,none⟩)) hS0 ?_;try simp only[zz]
  refine tk 13 (.agg #[.string fx.1,.int .i64 1,.int .i64 (fx.2:Int),.int .i64 0,.int .i64 0,.int .i64 0,.int .i64 0,.int .i64 0]) hS0 (hy:=fun u hS=>by obtain⟨s0,s1,s2,s3,s4,s5,s6,s7,s8,s9,sa,sb,sc⟩:=hS;go_simp) ?_;try simp only[zz]
  refine Yfc (rs:=[14]) (by kernel_rfl) (by simp) (Ydr rfl (fun K' hK'=>?_) Ydu);go_simp;refine CM.out.mono ?_;rintro e w2 ⟨rfl,ov2,F2,hb2,ho2,hs2⟩;have C2:=(HH.out.1.below (Ydb _ W).drew).step hb2 ho2 hs2 ⟨rfl,fun _ _=>rfl⟩;have nB: ∀ j,w.heap.size<=j->j < w.heap.size+4->j∉q::m::Fo':=fun j h1 h2 h=>by
   simp only[Ydj]at h;rcases h with rfl | rfl | h
   ·omega
   ·have:=hFl j (by simp);omega
   ·rcases HH.out.2.2.2.2.2.2 j h with h | h
    ·have:=hFl j (by simp[h]);omega
    ·omega
  have hpF:p∉q::m::Fo':=fun h=>(HH.out.1.dB p h).1 hpn;have hgF:gf∉q::m::Fo':=fun h=>(HH.out.1.dB gf h).1 hgn;have bk: ∀ j,j < W.heap.size->j∉q::m::Fo'-> ∀ o,w2.cell? ⟨j,o,none⟩=W.cell? ⟨j,o,none⟩:=fun j hj hn o=>Yde (a:=⟨j,o,none⟩) (ho2.block j hj hn);have q2:w2.cell? ⟨q,0,none⟩=some (.pointer (some ⟨p,0,none⟩)):=by
   rw[C2.bd.blk.cell,Ydd,if_neg (by omega)];exact C2.rd.c0
  refine hK'.out _ _ ⟨(bk _ (by omega) (nB _ (by omega) (by omega)) _).trans c0,(bk _ (by omega) (nB _ (by omega) (by omega)) _).trans c1,(bk _ (by omega) (nB _ (by omega) (by omega)) _).trans c1',q2,(bk _ hpl hpF _).trans p0,(bk _ hfl hgF _).trans f0,(bk _ hfl hgF _).trans f1,(bk _ hfl hgF _).trans f2,(bk _ hfl hgF _).trans f3,(bk _ hfl hgF _).trans f4,(bk _ hfl hgF _).trans f5,(bk _ hfl hgF _).trans f6,(bk _ hfl hgF _).trans f7⟩ fun hS2=>?_;try simp only[zz]
  refine tk 15 (.bool rb) hS2 ?_;try simp only[zz]
  have FINAL:Box (∀ u w5 ov5,(∀ j,j < W.heap.size->j∉q::m::Fo'->j≠w.heap.size+1+1->u.heap[j]?=W.heap[j]?)->W.heap.size<=u.heap.size->u.os=W.os/\u.tape=W.tape/\u.output=W.output->Blk u (w.heap.size+1+1) #[.int .u64 (Zdy fs pn sl (pre++[x]):Int)] 339->Ctx u q p m cs at_ gs S fs vs F rx ov2 F2->Bd w5 q 345 6 m cs [] ov5 F2->Off (q::m::F2) u w5->Zvm W4.heap.size W w5/\ ∃ ov' Fo',Ctx w5 q p m cs at_ gs S fs vs F [] ov' Fo'/\Blk w5 w.heap.size #[.pointer (some ⟨q,0,none⟩)] 330/\Blk w5 (w.heap.size+1) #[.string pn,.slice (some ⟨g,0,none⟩) 1 c] 324/\Blk w5 (w.heap.size+1+1) #[.int .u64 (Zdy fs pn sl (pre++[x]):Int)] 339/\Blk w5 (w.heap.size+1+1+1) #[.int .i64 0] 3/\Off (q::m::Fo) w w5/\ ∀ i,i∈Fo'->i∈Fo\/w.heap.size+6<=i):=⟨fun u w5 ov5 ku hsu hmu b2u cu bd5 ho5=>by
   obtain⟨hc,b0,b1,b2,b3,ho,hsb⟩:=HH.out;have nB': ∀ j,w.heap.size<=j->j < w.heap.size+6->j∉q::m::Fo':=fun j h1 h2 h=>by
    simp only[Ydj]at h;rcases h with rfl | rfl | h
    ·omega
    ·have:=hFl j (by simp);omega
    ·rcases hsb j h with h | h
     ·have:=hFl j (by simp[h]);omega
     ·omega
   have nB2: ∀ j,j < W.heap.size->j∉q::m::Fo'->j∉q::m::F2:=fun j hj hn h=>by
    simp only[Ydj,not_or]at h hn;rcases h with h | h | h
    ·exact hn.1 h
    ·exact hn.2.1 h
    ·rcases hs2 j h with h | h
     ·exact hn.2.2 h
     ·have h:W.heap.size<=j:=h;omega
   have k5: ∀ j,j < W.heap.size->j∉q::m::Fo'->j≠w.heap.size+1+1->w5.heap[j]?=W.heap[j]?:=fun j hj hn h2=>(ho5.block j (by omega) (nB2 j hj hn)).trans (ku j hj hn h2);have hm2:W4.heap.size < W.heap.size/\W4.heap.size+1 < W.heap.size:=⟨by omega,by omega⟩;refine⟨⟨k5 _ hm2.1 (nB' _ (by omega) (by omega)) (by omega),k5 _ hm2.2 (nB' _ (by omega) (by omega)) (by omega)⟩,ov5,F2,cu.step bd5 ho5 (fun _ h=> .inl h) ⟨rfl,fun _ _=>rfl⟩,b0.of (k5 _ b0.lt (nB' _ (by omega) (by omega)) (by omega)),b1.of (k5 _ b1.lt (nB' _ (by omega) (by omega)) (by omega)),b2u.of (ho5.block _ b2u.lt (nB2 _ b2.lt (nB' _ (by omega) (by omega)))),b3.of (k5 _ b3.lt (nB' _ (by omega) (by omega)) (by omega)),⟨ho5.os.trans (hmu.1.trans ho.os),ho5.tape.trans (hmu.2.1.trans ho.tape),ho5.output.trans (hmu.2.2.trans ho.output),Ydc ho.size (Ydc hsu ho5.size),fun j hj hn=>?_⟩,fun i hi=>?_⟩
   ·have hn':j∉q::m::Fo':=fun h=>by
     simp only[Ydj,not_or]at h hn;rcases h with h | h | h
     ·exact hn.1 h
     ·exact hn.2.1 h
     ·rcases hsb j h with h | h
      ·exact hn.2.2 h
      ·omega
    exact(k5 j (Ydh hj ho.size) hn' (by omega)).trans (ho.block j hj hn)
   ·rcases hs2 i hi with h | h
    ·exact hsb i h
    ·have h:W.heap.size<=i:=h;exact .inr (by omega)⟩
  cases rb with
  | false=>
   refine wpAnyH_take (i:=16) (v:=undef) rfl (by kernel_rfl) (by kernel_rfl) (by kernel_rfl) (fun _ _ _ h=>h) (Or.inr ⟨by rfl,rfl⟩) hS2 ?_;try simp only[zz]
   refine wpAnyH_take (i:=17) (v:=undef) rfl (by kernel_rfl) (by kernel_rfl) (by kernel_rfl) (fun _ _ _ h=>h) (Or.inr ⟨by rfl,rfl⟩) hS2 ?_;try simp only[zz]
   refine tk 18 (.bool false) hS2 ?_;try simp only[zz]
   refine Yfi (by kernel_rfl) ?_ _;gi_wp2
   have KU: ∀ j,j < W.heap.size->j∉q::m::Fo'->j≠w.heap.size+1+1->w2.heap[j]?=W.heap[j]?:=fun j hj hn _=>ho2.block j hj hn;have hsU:W.heap.size<=w2.heap.size:=ho2.size;have hmU:w2.os=W.os/\w2.tape=W.tape/\w2.output=W.output:=⟨ho2.os,ho2.tape,ho2.output⟩;have CU:=C2;have B2U:Blk w2 (w.heap.size+1+1) #[.int .u64 (Zdy fs pn sl (pre++[x]):Int)] 339:=by
    have:=HH.out.2.2.2.1.of (ho2.block _ HH.out.2.2.2.1.lt (nB _ (by omega) (by omega)))
    rw[FS.out];exact this
   have hS7:(w2).drew.cell? ⟨w.heap.size,0,none⟩=some (.pointer (some ⟨q,0,none⟩))/\(w2).drew.cell? ⟨w.heap.size+1+1+1,0,none⟩=some (.int .i64 0):=⟨(Yde (a:=⟨w.heap.size,0,none⟩) (KU w.heap.size (by omega) (nB _ (by omega) (by omega)) (by omega))).trans c0,(Yde (a:=⟨w.heap.size+1+1+1,0,none⟩) (KU (w.heap.size+1+1+1) (by omega) (nB _ (by omega) (by omega)) (by omega))).trans HH.out.2.2.2.2.1.one.1⟩;refine Zd5 (fun u=>u.cell? ⟨w.heap.size,0,none⟩=some (.pointer (some ⟨q,0,none⟩))/\u.cell? ⟨w.heap.size+1+1+1,0,none⟩=some (.int .i64 0)) hmx (fun⟨_,_,h⟩=>h) (by kernel_rfl) ?_;refine tk 0 (.pointer (some ⟨q,0,none⟩)) hS7 (hy:=fun u hS=>by obtain⟨s0,s1⟩:=hS;go_simp) ?_;try simp only[zz]
   refine tk 1 (.pointer (some ⟨q,0,none⟩)) hS7 ?_;try simp only[zz]
   refine tk 2 (.pointer (some ⟨q,6,none⟩)) hS7 ?_;try simp only[zz]
   refine tk 3 (.int .i64 0) hS7 (hy:=fun u hS=>by obtain⟨s0,s1⟩:=hS;go_simp) ?_;try simp only[zz]
   refine Yfc (rs:=[4]) (by kernel_rfl) (by simp) (Ydr rfl (fun K' hK'=>?_) Ydu);go_simp;refine(Zif (CU.below (Ydb _ _).drew).bd hrx).mono ?_;rintro e w5 ⟨rfl,ov5,hbd5,ho5⟩;have FO:=FINAL.out _ w5 ov5 KU hsU hmU B2U CU hbd5 ⟨ho5.os,ho5.tape,ho5.output,ho5.size,ho5.block⟩;refine hK'.out _ _ ⟨FO.2.choose_spec.choose_spec.2.1.one.1,FO.2.choose_spec.choose_spec.2.2.2.2.1.one.1⟩ fun _=>?_;try simp only[zz]
   refine Yfi (by kernel_rfl) ?_ _;exact FO
  | true=>
   refine tk 16 (.pointer (some ⟨q,0,none⟩)) hS2 (hy:=fun u hS=>by obtain⟨s0,s1,s2,s3,s4,s5,s6,s7,s8,s9,sa,sb,sc⟩:=hS;go_simp) ?_;try simp only[zz]
   refine Yfc (rs:=[17]) (by kernel_rfl) (by simp) (Ydr rfl (fun K' hK'=>?_) Ydu);go_simp;refine(Zju C2 hl (ha' rfl)).mono ?_;rintro e w3 ⟨rfl,hb3⟩;obtain⟨s0,s1,s2,s3,s4,s5,s6,s7,s8,s9,sa,sb,sc⟩:=hS2;have hp2:=Ydh hpl ho2.size;have hf2:=Ydh hfl ho2.size;refine hK'.out _ _ ⟨Zab s0 hb3,Zab s1 hb3,Zab s2 hb3,Zab s3 hb3,Zab s4 hb3,Zab s5 hb3,Zab s6 hb3,Zab s7 hb3,Zab s8 hb3,Zab s9 hb3,Zab sa hb3,Zab sb hb3,Zab sc hb3⟩ fun hS3=>?_;try simp only[zz]
   refine tk 18 (.bool true) hS3 ?_;try simp only[zz]
   refine Yfi (by kernel_rfl) ?_ _;have hw3:w.heap.size+1+1 < w2.heap.size:=by have:W.heap.size<=w2.heap.size:=ho2.size;omega
   have z2:=(hb3.block (w.heap.size+1+1) hw3).trans (ho2.block (w.heap.size+1+1) HH.out.2.2.2.1.lt (nB _ (by omega) (by omega)));have b2':Blk w3 (w.heap.size+1+1) _ _:=HH.out.2.2.2.1.of z2;obtain⟨d0,ds⟩:=b2'.one;have hx3:x < 3:=Zcp hxm;have hor:=Ycj (Zdy fs pn sl pre) x (Ze2 fs pn sl (pre:=pre) fun n hn=>Zcp (s:=s) (by rw[hx];simp[hn])) hx3;have E2:Box (Zdy fs pn sl (pre++[x])=Zdy fs pn sl pre ||| 2 ^ x):=⟨FS.out.trans (if_pos rfl)⟩;clear FS;generalize Zdy fs pn sl pre=fv at*;generalize fv ||| 2 ^ x=fv2 at*;gi_wp2
   gi_region
   all_goals
    have KU: ∀ j,j < W.heap.size->j∉q::m::Fo'->j≠w.heap.size+1+1->((w3.setCell ⟨w.heap.size+1+1,0,none⟩ (.int .u64 (fv2:Int))).drew).heap[j]?=W.heap[j]?:=fun j hj hn h2=>(Ydg w3 ⟨w.heap.size+1+1,0,none⟩ _ j h2).trans ((hb3.block j (Ydh hj ho2.size)).trans (ho2.block j hj hn));have hsU:W.heap.size<=((w3.setCell ⟨w.heap.size+1+1,0,none⟩ (.int .u64 (fv2:Int))).drew).heap.size:=by have h1:W.heap.size<=w2.heap.size:=ho2.size;have:=hb3.size;simp[World.setCell];omega
    have hmU:((w3.setCell ⟨w.heap.size+1+1,0,none⟩ (.int .u64 (fv2:Int))).drew).os=W.os/\((w3.setCell ⟨w.heap.size+1+1,0,none⟩ (.int .u64 (fv2:Int))).drew).tape=W.tape/\((w3.setCell ⟨w.heap.size+1+1,0,none⟩ (.int .u64 (fv2:Int))).drew).output=W.output:=⟨hb3.os.trans ho2.os,hb3.tape.trans ho2.tape,hb3.output.trans ho2.output⟩;have CU:=((C2.below hb3).other (G:=[w.heap.size+1+1]) ((Off.refl _ w3).set (w.heap.size+1+1) 0 (.int .u64 (fv2:Int)) (by simp)) (fun j hj=>by
     have ej:=Yeb.1 hj;subst ej;refine⟨fun h=>?_,fun h=>by have:=H.out.wd.lt _ h;omega,fun h=>by have:=H.out.rd.lS _ h;omega,Ydc H.out.gl.2.2 (show w.heap.size<=w.heap.size+1+1 by omega)⟩;simp only[Ydj]at h;rcases h with h | h | h
     ·omega
     ·have:=hFl m (by simp);omega
     ·rcases hs2 _ h with h | h
      ·exact nB (w.heap.size+1+1) (by omega) (by omega) (by simp[h])
      ·have h:W.heap.size<=w.heap.size+1+1:=h
       omega)).below (Ydb _ _).drew
    have B2U:Blk (w3.setCell ⟨w.heap.size+1+1,0,none⟩ (.int .u64 (fv2:Int))).drew (w.heap.size+1+1) #[.int .u64 (Zdy fs pn sl (pre++[x]):Int)] 339:=by rw[E2.out];exact b2'.set 0 (.int .u64 (fv2:Int))
    gi_wp2
    have hS7:((w3.setCell ⟨w.heap.size+1+1,0,none⟩ (.int .u64 (fv2:Int))).drew).drew.cell? ⟨w.heap.size,0,none⟩=some (.pointer (some ⟨q,0,none⟩))/\((w3.setCell ⟨w.heap.size+1+1,0,none⟩ (.int .u64 (fv2:Int))).drew).drew.cell? ⟨w.heap.size+1+1+1,0,none⟩=some (.int .i64 0):=⟨(Yde (a:=⟨w.heap.size,0,none⟩) (KU w.heap.size (by omega) (nB _ (by omega) (by omega)) (by omega))).trans c0,(Yde (a:=⟨w.heap.size+1+1+1,0,none⟩) (KU (w.heap.size+1+1+1) (by omega) (nB _ (by omega) (by omega)) (by omega))).trans HH.out.2.2.2.2.1.one.1⟩;refine Zd5 (fun u=>u.cell? ⟨w.heap.size,0,none⟩=some (.pointer (some ⟨q,0,none⟩))/\u.cell? ⟨w.heap.size+1+1+1,0,none⟩=some (.int .i64 0)) hmx (fun⟨_,_,h⟩=>h) (by kernel_rfl) ?_;refine tk 0 (.pointer (some ⟨q,0,none⟩)) hS7 (hy:=fun u hS=>by obtain⟨s0,s1⟩:=hS;go_simp) ?_;try simp only[zz]
    refine tk 1 (.pointer (some ⟨q,0,none⟩)) hS7 ?_;try simp only[zz]
    refine tk 2 (.pointer (some ⟨q,6,none⟩)) hS7 ?_;try simp only[zz]
    refine tk 3 (.int .i64 0) hS7 (hy:=fun u hS=>by obtain⟨s0,s1⟩:=hS;go_simp) ?_;try simp only[zz]
    refine Yfc (rs:=[4]) (by kernel_rfl) (by simp) (Ydr rfl (fun K' hK'=>?_) Ydu);go_simp;refine(Zif (CU.below (Ydb _ _).drew).bd hrx).mono ?_;rintro e w5 ⟨rfl,ov5,hbd5,ho5⟩;have FO:=FINAL.out _ w5 ov5 KU hsU hmU B2U CU hbd5 ⟨ho5.os,ho5.tape,ho5.output,ho5.size,ho5.block⟩;refine hK'.out _ _ ⟨FO.2.choose_spec.choose_spec.2.1.one.1,FO.2.choose_spec.choose_spec.2.2.2.2.1.one.1⟩ fun _=>?_;try simp only[zz]
    refine Yfi (by kernel_rfl) ?_ _;exact FO
 case done=>
  rintro W ⟨ov',Fo',hc,b0,b1,b2,b3,ho,hsb⟩ hD;have d2:=Blk.cell b2 0;simp at d2;have FIN:=Zaa (Yda hc (Yda ho hsb));clear hc b0 b1 b2 b3 ho hsb;gi_wp2
  refine⟨by simp,.inl ⟨_,_,rfl,run_takeDeferred hD,?_⟩⟩;have k:Off [W4.heap.size,W4.heap.size+1] W (W.putObj W4.heap.size (.deferred none)):=Off.putObj _ (by simp);refine⟨_,results_tmp rfl _ _ _,rfl,ov',Fo',OT.out _ _ _ _ FIN.out.1 FIN.out.2.2 k,FIN.out.2.1.trans k fun i hi=>?_,fun i hi=>(FIN.out.2.2 i hi).imp id (by omega)⟩;simp at hi;exact .inr (by omega)
end Go.P
namespace Go.P
variable {w:World}{q p m n:Nat}{cs:Array Value}{at_:List Pt}{gs:List Gt}{S F Fo:List Nat}{fs xs:List (ByteArray×Nat)}{vs:List T}{ov:Value}{fx:ByteArray×Nat}
theorem Ctx.cell (h:Ctx w q p m cs at_ gs S fs vs F xs ov Fo)(j:Nat)(hj:j≠7):w.cell? ⟨q,j,none⟩=cs[j]?:=by
 rw[h.bd.blk.cell,Ydd,if_neg (by omega)]
theorem Ctx.fact (h:Ctx w q p m cs at_ gs S fs vs F xs ov Fo)(hf:fs[n]?=some fx): ∃ gf cf,w.cell? ⟨p,0,none⟩=some (.slice (some ⟨gf,0,none⟩) fs.length cf)/\p∈F/\gf∈F/\w.cell? ⟨gf,n*8,none⟩=some (.string fx.1)/\w.cell? ⟨gf,n*8+1,none⟩=some (.int .i64 1)/\w.cell? ⟨gf,n*8+2,none⟩=some (.int .i64 (fx.2:Int))/\w.cell? ⟨gf,n*8+3,none⟩=some (.int .i64 0)/\w.cell? ⟨gf,n*8+4,none⟩=some (.int .i64 0)/\w.cell? ⟨gf,n*8+5,none⟩=some (.int .i64 0)/\w.cell? ⟨gf,n*8+6,none⟩=some (.int .i64 0)/\w.cell? ⟨gf,n*8+7,none⟩=some (.int .i64 0):=by
 obtain⟨k,r,fv,vv,Ff,Fv,hw⟩:=h.wd;obtain⟨gf,cf,cs8,G,rfl,hgf,⟨_,rfl⟩,key⟩:=hw.facts.nth n fx hf;exact⟨gf,cf,hw.blk.four.1,by rw[hw.own];simp,by rw[hw.own];simp[hgf],key 0 _ rfl,key 1 _ rfl,key 2 _ rfl,key 3 _ rfl,key 4 _ rfl,key 5 _ rfl,key 6 _ rfl,key 7 _ rfl⟩
theorem Zng (h:Ctx w q p m cs at_ gs S fs vs F [] ov Fo){i seen:Nat}{x:Pt}(hx:at_[i]?=some x)(hi:i+1=at_.length)(h4:at_.length<=4)(hn:fs[n]?=some fx):
  Calls prog 248 #[.pointer (some ⟨q,0,none⟩),.int .i64 (i:Int),.int .i64 (n:Int),.int .i64 (seen:Int)] w fun e w'=>e= .returned (.tuple #[])/\ ∃ ov' Fo',Ctx w' q p m cs at_ gs S fs vs F [] ov' Fo'/\Off (q::m::Fo) w w'/\ ∀ i,i∈Fo'->i∈Fo\/w.heap.size<=i:=by
 obtain⟨pa,ca,c3,hA⟩:=h.rd.atoms;obtain⟨ga,g,c,rfl,hgaS,hgS,a0,a1,hsl⟩:=hA i x hx;obtain⟨gf,cf,p0,hpF,hfF,f0,f1,f2,f3,f4,f5,f6,f7⟩:=h.fact hn;have q0:=(h.cell 0 (by omega)).trans h.rd.c0;have q3:=(h.cell 3 (by omega)).trans c3;have hil:(i:Int) < (at_.length:Int):=by omega
 have hnl:(n:Int) < (fs.length:Int):=by have:=(Ydl.1 hn).1;omega
 have hil2: ¬ ((i:Int)+1 < (at_.length:Int)):=by omega
 have hi4:(i:Int) < 4:=by omega
 have CM:=Zaa (Zoe (w:=w.drew) (h.below (Ydb _ w).drew).bd (c:=c) (hsl.of (w':=w.drew) lr rfl) x.1 fx (by simp));have hrx:(Zci [] x.1 x.2 fx).2.length<=1:=by
  unfold Zci;split
  ·simp
  ·split <;> simp
 unfold Zey at CM;have H:=Zaa h;clear h hA;go_in
 go_wp2
 go_region_held3 (fun u=>u.cell? ⟨q,0,none⟩=some (.pointer (some ⟨p,0,none⟩))/\u.cell? ⟨q,3,none⟩=some (.slice (some ⟨ga,0,none⟩) at_.length ca)/\u.cell? ⟨ga,i*2,none⟩=some (.string x.1)/\u.cell? ⟨ga,i*2+1,none⟩=some (.slice (some ⟨g,0,none⟩) 1 c)/\u.cell? ⟨p,0,none⟩=some (.slice (some ⟨gf,0,none⟩) fs.length cf)/\u.cell? ⟨gf,n*8,none⟩=some (.string fx.1)/\u.cell? ⟨gf,n*8+1,none⟩=some (.int .i64 1)/\u.cell? ⟨gf,n*8+2,none⟩=some (.int .i64 (fx.2:Int))/\u.cell? ⟨gf,n*8+3,none⟩=some (.int .i64 0)/\u.cell? ⟨gf,n*8+4,none⟩=some (.int .i64 0)/\u.cell? ⟨gf,n*8+5,none⟩=some (.int .i64 0)/\u.cell? ⟨gf,n*8+6,none⟩=some (.int .i64 0)/\u.cell? ⟨gf,n*8+7,none⟩=some (.int .i64 0)) (first | exact⟨q0,q3,a0,a1,p0,f0,f1,f2,f3,f4,f5,f6,f7⟩ | exact S2) (first
  | (go_at_call 265;refine CM.out.mono ?_;rintro e w2 ⟨rfl,ov2,F2,hb2,ho2,hs2⟩;have C2:=(H.out.below (Ydb _ w).drew).step hb2 ho2 hs2 ⟨rfl,fun _ _=>rfl⟩;have bk: ∀ j,j < w.heap.size->j∉q::m::Fo-> ∀ o,w2.cell? ⟨j,o,none⟩=w.cell? ⟨j,o,none⟩:=(fun j hj hn o=>Yde (a:=⟨j,o,none⟩) (ho2.block j hj hn));have nS: ∀ j,j∈S->j∉q::m::Fo:=(fun j hj h=>(H.out.dB j h).2.1 hj);have nF: ∀ j,j∈F->j∉q::m::Fo:=(fun j hj h=>(H.out.dB j h).1 hj);have lS:=H.out.rd.lS;have lF:=H.out.wd.lt;have S2:=Yda ((C2.cell 0 (by omega)).trans C2.rd.c0) (Yda ((C2.cell 3 (by omega)).trans c3) (Yda ((bk ga (lS _ hgaS) (nS _ hgaS) _).trans a0) (Yda ((bk ga (lS _ hgaS) (nS _ hgaS) _).trans a1) (Yda ((bk p (lF _ hpF) (nF _ hpF) _).trans p0) (Yda ((bk gf (lF _ hfF) (nF _ hfF) _).trans f0) (Yda ((bk gf (lF _ hfF) (nF _ hfF) _).trans f1) (Yda ((bk gf (lF _ hfF) (nF _ hfF) _).trans f2) (Yda ((bk gf (lF _ hfF) (nF _ hfF) _).trans f3) (Yda ((bk gf (lF _ hfF) (nF _ hfF) _).trans f4) (Yda ((bk gf (lF _ hfF) (nF _ hfF) _).trans f5) (Yda ((bk gf (lF _ hfF) (nF _ hfF) _).trans f6) ((bk gf (lF _ hfF) (nF _ hfF) _).trans f7))))))))))))))
 have q3':=S2.2.1;have FF:=Zaa (Yda C2 (Yda ho2 hs2));have CF:=Zaa (Zif C2.bd hrx);clear S2 C2 hb2 ho2 hs2 bk nS nF lS lF q0 q3 a0 a1 p0 f0 f1 f2 f3 f4 f5 f6 f7 CM;go_wp2
 refine Ye7 1 ?_;rw[Ye5];go_wp2_with fail
 refine CF.out.mono ?_;rintro e w5 ⟨rfl,ov5,hb5,ho5⟩;have FO:=Zaa (Yda (FF.out.1.step hb5 ho5 (fun _ h=> .inl h) ⟨rfl,fun _ _=>rfl⟩) (Yda ((Off.of (F:=q::m::Fo) (Ydb _ w).drew).trans (FF.out.2.1.trans ho5 fun i hi=>by
  simp only[Ydj]at hi⊢;rcases hi with h | h | h
  ·exact .inl (.inl h)
  ·exact .inl (.inr (.inl h))
  ·exact(FF.out.2.2 i h).imp (fun h=> .inr (.inr h)) id) fun _ h=> .inl h) FF.out.2.2))
 clear hb5 ho5 CF FF;go_wp2
 go_end0
 exact⟨rfl,ov5,F2,FO.out.1,FO.out.2.1,FO.out.2.2⟩
end Go.P
