import Derived.Test.YtgnakaplmhmdcaaGreatDoorW07
import Derived.Deep.RegionHeld3
import Derived.Deep.RegionHeld
import Derived.OrdersIn
set_option maxRecDepth 100000
set_option maxHeartbeats 8000000
open Go.Proofs Go.RowKit Go.W
namespace Go.W
theorem Zag.at4 {e:TypeId}{w:World}{v:Value}{xs:List T}{F:List Nat}(h:Zag e 4 Zqs w v xs F)(i:Nat)(x:T)(hx:xs[i]?=some x): ∃ g cap q c,v= .slice (some ⟨g,0,none⟩) xs.length cap/\w.cell? ⟨g,i*4,none⟩=some (.int .i64 x.k)/\w.cell? ⟨g,i*4+1,none⟩=some (.int .i64 x.i)/\w.cell? ⟨g,i*4+2,none⟩=some (.string x.t)/\w.cell? ⟨g,i*4+3,none⟩=some (.slice q x.l.length c):=by
 obtain⟨g,cap,cs,G,rfl,_,⟨_,q,c,rfl⟩,key⟩:=h.nth i x hx;exact⟨g,cap,q,c,rfl,key 0 _ rfl,key 1 _ rfl,key 2 _ rfl,key 3 _ rfl⟩
end Go.W
namespace Go.P
theorem Zzx {w:World}{p:Nat}{fs:List (ByteArray×Nat)}{vs:List T}{F:List Nat}(h:Zdv w p fs vs F)(hm:w.cell? ⟨17,2,none⟩=some (.string ⟨#[60]⟩))(a b:Nat)(x y:T)(ha:vs[a]?=some x)(hb:vs[b]?=some y)(hxk:x.k=5)(hyk:y.k=5)(hlt:x.i < y.i):
  Calls Tryz.prog 248 #[.pointer (some ⟨p,0,none⟩),.int .i64 3,.int .i64 (a:Int),.int .i64 (b:Int)] w fun e w'=>e= .returned (.bool true)/\Below w.heap.size w w':=by
 obtain⟨k,r,fv,vv,Ff,Fv,hw⟩:=h;obtain⟨g,cap,q,c,rfl,x0,x1,x2,x3⟩:=Zag.at4 hw.vals a x ha;obtain⟨g',cap',q',c',e,y0,y1,y2,y3⟩:=Zag.at4 hw.vals b y hb;injection e with e1 e2 e3;injection e1 with e1;injection e1 with e1;subst e1;have hal:(a:Int) < (vs.length:Int):=by have:=(Yc3.1 ha).1;omega
 have hbl:(b:Int) < (vs.length:Int):=by have:=(Yc3.1 hb).1;omega
 obtain⟨p0,p1,p2,p3,ps⟩:=hw.blk.four;have hgl:g < w.heap.size:=hw.new.lt g (by rw[hw.own];simp[hw.vals.own]);have hpl:=hw.blk.lt;have hml:17 < w.heap.size:=Zbi hm;rw[hxk]at x0;rw[hyk]at y0;have B2:=fun o o'=>(((Yct w.heap.size w).alloc lr o).alloc (by simp) o').drew;clear hw ha hb hxk hyk;go_enter Tryz.func248,Tryz.ntmps248
 go_wp2_with fail
 go_region
 all_goals
  go_wp2_with fail
  go_ret
  exact⟨rfl,B2 _ _⟩
end Go.P
namespace Go.W
abbrev Pt:=ByteArray×(ByteArray×Nat)
abbrev Gt:=Nat×(ByteArray×Nat)×(ByteArray×Nat)
def Ycm (w:World) (S:List Nat) (pa:Option Addr) (i:Nat) (x:Pt):Prop:= ∃ ga g c,pa=some ⟨ga,0,none⟩/\ga∈S/\g∈S/\w.cell? ⟨ga,i*2,none⟩=some (.string x.1)/\w.cell? ⟨ga,i*2+1,none⟩=some (.slice (some ⟨g,0,none⟩) 1 c)/\Zdl w g x.2
def Yco (w:World) (S:List Nat) (pa:Option Addr) (i:Nat) (x:Gt):Prop:= ∃ ga,pa=some ⟨ga,0,none⟩/\ga∈S/\w.cell? ⟨ga,i*5,none⟩=some (.int .i64 (x.1:Int))/\w.cell? ⟨ga,i*5+1,none⟩=some (.string x.2.1.1)/\w.cell? ⟨ga,i*5+2,none⟩=some (.int .i64 (x.2.1.2:Int))/\w.cell? ⟨ga,i*5+3,none⟩=some (.string x.2.2.1)/\w.cell? ⟨ga,i*5+4,none⟩=some (.int .i64 (x.2.2.2:Int))/\x.2.1.1.size < 1000000000/\x.2.2.1.size < 1000000000
structure Bod (w:World) (cs:Array Value) (p:Nat) (at_:List Pt) (gs:List Gt) (S:List Nat):Prop where
 sz:cs.size=972
 c0:cs[0]?=some (.pointer (some ⟨p,0,none⟩))
 atoms: ∃ pa ca,cs[3]?=some (.slice pa at_.length ca)/\ ∀ i x,at_[i]?=some x->Ycm w S pa i x
 guards: ∃ pg cg,cs[4]?=some (.slice pg gs.length cg)/\ ∀ i x,gs[i]?=some x->Yco w S pg i x
 lS: ∀ j,j∈S->j < w.heap.size
theorem Bod.of {w w':World}{cs cs':Array Value}{p:Nat}{at_:List Pt}{gs:List Gt}{S:List Nat}(h:Bod w cs p at_ gs S)(hs:w.heap.size<=w'.heap.size)(hb: ∀ k,k∈S->w'.heap[k]?=w.heap[k]?)(hc:cs'.size=cs.size/\ ∀ j,j < 5->cs'[j]?=cs[j]?):Bod w' cs' p at_ gs S:=by
 obtain⟨h1,h2,⟨pa,ca,h3,h4⟩,⟨pg,cg,h5,h6⟩,h7⟩:=h;have cell: ∀ g,g∈S-> ∀ o,w'.cell? ⟨g,o,none⟩=w.cell? ⟨g,o,none⟩:=fun g hg o=>Ycw (a:=⟨g,o,none⟩) (hb g hg);refine⟨hc.1.trans h1,(hc.2 0 (by omega)).trans h2,⟨pa,ca,(hc.2 3 (by omega)).trans h3,fun i x hx=>?_⟩,⟨pg,cg,(hc.2 4 (by omega)).trans h5,fun i x hx=>?_⟩,fun j hj=>Ycz (h7 j hj) hs⟩
 ·obtain⟨ga,g,c,e,m1,m2,k1,k2,k3⟩:=h4 i x hx;exact⟨ga,g,c,e,m1,m2,by rw[cell ga m1];exact k1,by rw[cell ga m1];exact k2,k3.of hs (hb g m2)⟩
 ·obtain⟨ga,e,m1,k0,k1,k2,k3,k4,k5,k6⟩:=h6 i x hx;exact⟨ga,e,m1,by rw[cell ga m1];exact k0,by rw[cell ga m1];exact k1,by rw[cell ga m1];exact k2,by rw[cell ga m1];exact k3,by rw[cell ga m1];exact k4,k5,k6⟩
def Z59 (xs:List (ByteArray×Nat)) (vs:List T) (g:Gt):Prop:=g.1=3/\((Zbm xs g.2.1).2=false\/(Zbm xs g.2.2).2=false\/ ∃ x y,vs[(Zbm xs g.2.1).1]?=some x/\vs[(Zbm xs g.2.2).1]?=some y/\x.k=5/\y.k=5/\x.i < y.i)
end Go.W
namespace Go.P
variable {w:World}{F:List Nat}
def Zpc (w:World):Prop:=Z43 w/\w.cell? ⟨17,2,none⟩=some (.string ⟨#[60]⟩)/\23<=w.heap.size
theorem Zpc.of {w':World}(h:Zpc w)(k:Off F w w')(hF: ∀ j,j∈F->23<=j):Zpc w':=by
 obtain⟨⟨h0,h1,h2⟩,h3,h4⟩:=h;have cell: ∀ g,g < 23-> ∀ o,w'.cell? ⟨g,o,none⟩=w.cell? ⟨g,o,none⟩:=fun g hg o=>Ycw (a:=⟨g,o,none⟩) (k.block g (by omega) fun q=>by have:=hF g q;omega);exact⟨⟨by rw[cell _ (by decide)];exact h0,by rw[cell _ (by decide)];exact h1,by rw[cell _ (by decide)];exact h2⟩,by rw[cell _ (by decide)];exact h3,Ycu h4 k.size⟩
structure Ctx (w:World) (q p m:Nat) (cs:Array Value) (at_:List Pt) (gs:List Gt) (S:List Nat) (fs:List (ByteArray×Nat)) (vs:List T) (F:List Nat) (xs:List (ByteArray×Nat)) (ov:Value) (Fo:List Nat):Prop where
 bd:Bd w q 342 6 m cs xs ov Fo
 rd:Bod w cs p at_ gs S
 wd:Zdv w p fs vs F
 gl:Zpc w
 dB: ∀ j,j∈q::m::Fo->j∉F/\j∉S/\23<=j
 dF: ∀ j,j∈F->j∉S/\23<=j
section
variable {w w':World} {q p m:Nat} {cs cs':Array Value} {at_:List Pt} {gs:List Gt} {S:List Nat} {fs fs':List (ByteArray×Nat)} {vs vs':List T} {F F':List Nat} {xs xs':List (ByteArray×Nat)} {ov ov':Value} {Fo Fo':List Nat}
theorem Ctx.step (h:Ctx w q p m cs at_ gs S fs vs F xs ov Fo)(hb:Bd w' q 342 6 m cs' xs' ov' Fo')(ho:Off (q::m::Fo) w w')(hs: ∀ i,i∈Fo'->i∈Fo\/w.heap.size<=i)(hc:cs'.size=cs.size/\ ∀ j,j < 5->cs'[j]?=cs[j]?):Ctx w' q p m cs' at_ gs S fs vs F xs' ov' Fo':=by
 refine⟨hb,h.rd.of ho.size (fun k hk=>ho.block k (h.rd.lS k hk) fun q=>(h.dB k q).2.1 hk) hc,h.wd.off ho fun j hj q=>(h.dB j q).1 hj,h.gl.of ho fun j hj=>(h.dB j hj).2.2,fun j hj=>?_,h.dF⟩;simp only[Yc1]at hj;rcases hj with rfl | rfl | hj
 ·exact h.dB _ (by simp)
 ·exact h.dB _ (by simp)
 ·rcases hs j hj with hj | hj
  ·exact h.dB j (by simp[hj])
  ·exact⟨fun q=>by have:=h.wd.lt j q;omega,fun q=>by have:=h.rd.lS j q;omega,Ycu h.gl.2.2 hj⟩
theorem Ctx.other {G:List Nat}(h:Ctx w q p m cs at_ gs S fs vs F xs ov Fo)(ho:Off G w w')(hG: ∀ j,j∈G->j∉q::m::Fo/\j∉F/\j∉S/\23<=j):Ctx w' q p m cs at_ gs S fs vs F xs ov Fo:=
 ⟨h.bd.off ho fun j hj q=>(hG j q).1 hj,h.rd.of ho.size (fun k hk=>ho.block k (h.rd.lS k hk) fun q=>(hG k q).2.2.1 hk) ⟨rfl,fun _ _=>rfl⟩,h.wd.off ho fun j hj q=>(hG j q).2.1 hj,h.gl.of ho fun j hj=>(hG j hj).2.2.2,h.dB,h.dF⟩
theorem Ctx.below (h:Ctx w q p m cs at_ gs S fs vs F xs ov Fo)(hb:Below w.heap.size w w'):Ctx w' q p m cs at_ gs S fs vs F xs ov Fo:=
 h.step (h.bd.off (Off.of (F:=[]) hb) (fun _ _=>by simp)) (Off.of hb) (fun _ h=> .inl h) ⟨rfl,fun _ _=>rfl⟩
end
theorem Zjw {q p m:Nat}{cs:Array Value}{at_:List Pt}{gs:List Gt}{S:List Nat}{fs:List (ByteArray×Nat)}{vs:List T}{xs:List (ByteArray×Nat)}{ov:Value}{Fo:List Nat}(h:Ctx w q p m cs at_ gs S fs vs F xs ov Fo)(hl:gs.length<=1)(hg: ∀ g,g∈gs->Z59 xs vs g):
  Calls Tryz.prog 226 #[.pointer (some ⟨q,0,none⟩)] w fun e w'=>e= .returned (.bool true)/\Below w.heap.size w w':=by
 obtain⟨pg,cg,c4,hG⟩:=h.rd.guards;have hcell: ∀ j,j≠7->w.cell? ⟨q,j,none⟩=cs[j]?:=fun j hj=>by
  rw[h.bd.blk.cell,Ycv,if_neg (by omega)]
 have q4:=(hcell 4 (by omega)).trans c4;have q0:=(hcell 0 (by omega)).trans h.rd.c0;match gs,hl with
 | [],_=>
  clear h;go_enter Tryz.func226,Tryz.ntmps226
  go_wp2_with fail
  refine wp_loop_rounds 1 ?_;rw[rounds_succ];go_wp2_with fail
  go_ret
  exact⟨rfl,Yct _ _⟩
 | [y],_=>
  obtain⟨ga,rfl,hgS,y0,y1,y2,y3,y4,z1,z2⟩:=hG 0 y rfl;obtain⟨h3,hy⟩:=hg y (by simp);have hgl:=h.rd.lS ga hgS;have hql:=h.bd.blk.lt;obtain⟨op,sa,sb⟩:=y;have CO:=Zaa (fun u (hu:Below w.heap.size w u) (s:ByteArray×Nat) (hs:s.1.size < 1000000000)=>Zv6 (w:=u) (q:=q) (o:=6) (v:= .map (some m)) (xs:=xs) (.inr ⟨m,rfl,h.bd.map.of (hu.block m h.bd.map.lt)⟩) ((Ycw (a:=⟨q,6,none⟩) (hu.block q h.bd.blk.lt)).trans h.bd.cells.1) (Ycz h.bd.blk.lt hu.size) (fun j hj=>by injection hj with hj;injection hj with hj;subst hj;exact Ycz h.bd.map.lt hu.size) s hs);dsimp only at h3 hy y0 y1 y2 y3 y4 z1 z2;subst h3;simp only[Yef,Ydp]at y0 y1 y2 y3 y4;have H:=Zaa h;clear h hG hg hcell c4;go_enter Tryz.func226,Tryz.ntmps226
  go_wp2_with fail
  refine wp_loop_rounds 2 ?_;rw[rounds_succ];go_wp2_with fail
  have B1: ∀ o,Below w.heap.size w (w.alloc o):=fun o=>(Yct _ w).alloc lr o;go_region_with (go_at_call 240;refine(CO.out _ (B1 _).drew sa z1).mono ?_;rintro e w2 ⟨rfl,hb2⟩)
  have LG:=Zaa ((Blk.new w #[.int .i64 3,.string sa.1,.int .i64 (sa.2:Int),.string sb.1,.int .i64 (sb.2:Int)] 364).of (hb2.block w.heap.size (by simp)));have HB2:=Zaa ((B1 _).drew.trans (hb2.mono (by simp)));have g0:=Blk.cell LG.out 0;have g3:=Blk.cell LG.out 3;have g4:=Blk.cell LG.out 4;have q0':=(Ycw (a:=⟨q,0,none⟩) (HB2.out.block q hql)).trans q0;simp at g0 g3 g4;clear hb2;go_wp2_with fail
  go_region_with (go_at_call 240;refine(CO.out _ HB2.out.drew sb z2).mono ?_;rintro e w3 ⟨rfl,hb3⟩)
  go_simp;have HB3:=Zaa (HB2.out.drew.trans (hb3.mono HB2.out.size));have hs23:w2.heap.size<=w3.heap.size:=hb3.size;have k0:=(Ycw (a:=⟨w.heap.size,0,none⟩) (hb3.block w.heap.size LG.out.lt)).trans g0;have q0'':=(Ycw (a:=⟨q,0,none⟩) (HB3.out.block q hql)).trans q0;have CC:=Zaa (fun n1 n2 x y h1 h2 h3 h4 h5=>Zzx (w:=w3.drew) (H.out.below HB3.out.drew).wd (H.out.below HB3.out.drew).gl.2.1 n1 n2 x y h1 h2 h3 h4 h5);clear hb3 g0 g3 g4 q0' CO y0 y1 y2 y3 y4 q0 q4;generalize (Zbm xs sa).1=va at*;generalize (Zbm xs sb).1=vb at*;generalize (Zbm xs sa).2=ka at*;generalize (Zbm xs sb).2=kb at*;cases ka with
  | false=>
   clear hy CC;go_wp2_with fail
   go_quiet (fail)
   go_wp2_with fail
   rw[rounds_succ];go_wp2_with fail
   go_ret
   exact⟨rfl,Zb2 HB3.out⟩
  | true=>
   cases kb with
   | false=>
    clear hy CC;go_wp2_with fail
    go_quiet (fail)
    go_wp2_with fail
    rw[rounds_succ];go_wp2_with fail
    go_ret
    exact⟨rfl,Zb2 HB3.out⟩
   | true=>
    obtain h | h | ⟨x,y,h1,h2,h3,h4,h5⟩:=hy
    ·cases h
    ·cases h
    have C1:=Zaa (CC.out va vb x y h1 h2 h3 h4 h5);clear CC h1 h2 h3 h4 h5;go_wp2_with fail
    have hwl:=LG.out.lt;go_region_held3 (fun u=>u.cell? ⟨w.heap.size,0,none⟩=some (.int .i64 3)/\u.cell? ⟨q,0,none⟩=some (.pointer (some ⟨p,0,none⟩))) (first | exact⟨k0,q0''⟩ | exact⟨k4,q4⟩) (first
     | (go_at_call 248;refine C1.out.mono ?_;rintro e w4 ⟨rfl,hb4⟩;have k4:=(Ycw (a:=⟨w.heap.size,0,none⟩) (hb4.block w.heap.size (Ycz hwl hs23))).trans k0;have q4:=(Ycw (a:=⟨q,0,none⟩) (hb4.block q (Ycz hql HB3.out.size))).trans q0''))
    all_goals
     have HB4:=Zaa (HB3.out.drew.trans (hb4.mono HB3.out.size));clear hb4 C1;go_wp2_with fail
     rw[rounds_succ];go_wp2_with fail
     go_ret
     exact⟨rfl,HB4.out⟩
end Go.P
namespace Go.W
variable {P:Program}{ops:Array Oper}{Q:Exit->Act->World->Prop}{n l:Nat}
def Zy2 (o:Oper):Bool:=match o.op with
 | .defer _=>false
 | _=>true
theorem Z2k {o:Oper}(h:Zy2 o=true)(c:_):o.op≠ .defer c:=fun e=>by unfold Zy2 at h;rw[e]at h;cases h
theorem Z0c {md:Region.Mode}(hQ: ¬ LetsOut Q)(hd:ops.all Zy2=true):
  ∀ (fuel:Nat) (listed:Array Bool) (a:Act) (w:World),wpAny P md ops Q fuel listed a w->wpAnyIn (Fence.wide.inRound l) n P md ops Q fuel listed a w:=by
 intro fuel;induction fuel with
 | zero=>intro listed a w h;exact h
 | succ fuel ih=>
  intro listed a w h;refine⟨h.1,fun i hi=>?_⟩;have h2:=h.2 i hi;unfold wpOp at h2;unfold wpOpIn;split
  ·rename_i ho;simp only[ho]at h2;exact ih _ _ _ h2
  ·rename_i o ho;simp only[ho]at h2;have hm:o∈ops:=Array.mem_of_getElem? ho;split
   ·rename_i hw;simp only[hw,if_true]at h2;rcases h2 with h2 | h2
    ·refine⟨fun _ _=>trivial,?_⟩;rw[Oper.semAt_eq _ _ _ (Z2k (Array.all_eq_true_iff_forall_mem.1 hd o hm))];unfold Oper.wp at h2;generalize (execOp a.eval o).run P w=r at*;cases r with
     | ok x w'=>
      cases x with
      | value v=>exact ih _ _ _ h2
      | skip=>exact ih _ _ _ h2
      | defer d=>exact ih _ _ _ h2
      | enter f args=>exact⟨fun h=>(by cases h),CallsIn.inRound l (callsIn_wide.2 (Calls.mono h2 (fun e w'' he=>by cases e <;> first | exact ih _ _ _ he | exact he)))⟩
      | row row args=>exact⟨fun h=>(by cases h),fun c cs _=>let ⟨v,w'',r,s⟩:=Rows.mono h2 (fun _ _ he=>ih _ _ _ he) c cs;⟨v,w'',r,stepsIn_wide.2 s⟩⟩
      | _=>exact h2.elim
     | halt x w'=>cases x <;> exact h2
    ·exact absurd h2.2 hQ
   ·rename_i hw;simp only[hw]at h2;exact⟨fun _ _=>trivial,ih _ _ _ h2⟩
theorem Zdu {id:Nat}{a:Act}{w:World}(S:World->Prop)(hm:P.follows .mixedOrders=true)(hQ: ¬ LetsOut Q)(hd:ops.all Zy2=true)(h:wpAnyH P .any ops Q S ops.size (Array.replicate ops.size false) a w.drew):(Code.region id ops true).wpIn (Fence.wide.inRound l) n P Q a w:=
 wpIn_region_any hm (Z0c hQ hd _ _ _ _ (wpAny_of_held _ _ _ _ h))
end Go.W
