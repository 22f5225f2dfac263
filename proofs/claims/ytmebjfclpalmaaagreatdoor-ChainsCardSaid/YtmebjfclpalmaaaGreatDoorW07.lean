import Derived.Test.YtmebjfclpalmaaaGreatDoorW06
set_option maxRecDepth 100000
set_option maxHeartbeats 8000000
set_option linter.unusedSimpArgs false
open Go.Proofs Go.RowKit Go.W Tryz
namespace Go.W
theorem Z2d (a b:Nat)(ha:a < 8)(hb:b < 8):bits BinOp.and IntKind.u64 (a:Int) (b:Int)=((a &&& b:Nat):Int):=by
 have h1:a=0\/a=1\/a=2\/a=3\/a=4\/a=5\/a=6\/a=7:=by omega
 have h2:b=0\/b=1\/b=2\/b=3\/b=4\/b=5\/b=6\/b=7:=by omega
 rcases h1 with rfl | rfl | rfl | rfl | rfl | rfl | rfl | rfl <;> rcases h2 with rfl | rfl | rfl | rfl | rfl | rfl | rfl | rfl <;> rfl
end Go.W
namespace Go.P
variable {n:Nat}
section
variable {w:World} {q p m:Nat} {cs:Array Value} {at_:List Pt} {x x1:Pt} {gs:List Gt} {S:List Nat} {fs:List (ByteArray×Nat)} {vs:List T} {F:List Nat} {xs:List (ByteArray×Nat)} {ov:Value} {Fo:List Nat}
theorem Zkt (h:Ctx w q p m cs at_ gs S fs vs F xs ov Fo)(h4:at_.length<=4){i:Nat}(hi:i+1=at_.length)(l0 l1 l2 l3:Nat):
  Calls prog 252 #[.pointer (some ⟨q,0,none⟩),.agg #[.int .u64 (l0:Int),.int .u64 (l1:Int),.int .u64 (l2:Int),.int .u64 (l3:Int)],.int .i64 (i:Int),.int .i64 (n:Int)] w fun e w'=>e= .returned (.tuple #[.agg #[.int .u64 (l0:Int),.int .u64 (l1:Int),.int .u64 (l2:Int),.int .u64 (l3:Int)],.bool true])/\Below w.heap.size w w':=by
 obtain⟨pa,ca,c3,hA⟩:=h.rd.atoms;have q3:=(h.cell 3 (by omega)).trans c3;have hql:=h.bd.blk.lt;have hi4:(i:Int) < 4:=by omega
 have hil2: ¬ ((i:Int)+1 < (at_.length:Int)):=by omega
 have B2: ∀ o o',Below w.heap.size w ((w.alloc o).alloc o'):=fun o o'=>((Ydb _ w).alloc lr o).alloc (by simp) o';have q3': ∀ o o',((w.alloc o).alloc o').cell? ⟨q,3,none⟩=some (.slice pa at_.length ca):=fun o o'=>(Yde (a:=⟨q,3,none⟩) ((B2 o o').block q hql)).trans q3;clear h hA;go_in
 go_wp2
 refine Ye7 1 ?_;rw[Ye5];go_wp2
 refine Ye6 (by simp[results,results252,go_sem];try rfl) rfl ?_;exact⟨rfl,B2 _ _⟩
theorem Zui (h:Ctx w q p m cs [x,x1] gs S fs vs F xs ov Fo){b:Nat}(hn:n < 60)(cb:cs[12+n*4+1]?=some (.int .u64 (b:Int)))(hb8:b < 8)(l0 l1 l2 l3:Nat)(h1:l1 < 8)(hz:l1 &&& b≠0):
  Calls prog 252 #[.pointer (some ⟨q,0,none⟩),.agg #[.int .u64 (l0:Int),.int .u64 (l1:Int),.int .u64 (l2:Int),.int .u64 (l3:Int)],.int .i64 0,.int .i64 (n:Int)] w fun e w'=>e= .returned (.tuple #[.agg #[.int .u64 (l0:Int),.int .u64 ((l1 &&& b:Nat):Int),.int .u64 (l2:Int),.int .u64 (l3:Int)],.bool true])/\Below w.heap.size w w':=by
 obtain⟨pa,ca,c3,hA⟩:=h.rd.atoms;simp only[Ydp,Ydt,Yd7]at c3;have q3:=(h.cell 3 (by omega)).trans c3;have qb:=(h.cell (12+n*4+1) (by omega)).trans cb;have hql:=h.bd.blk.lt;have hn6:(n:Int) < 60:=by omega
 have hand:=Z2d l1 b h1 hb8;obtain⟨r,hr⟩: ∃ r,l1 &&& b=r:=⟨_,rfl⟩;rw[hr]at hand hz⊢;have hz':((r:Int)==0)=false:=by rw[Ye4];omega
 obtain⟨W2,hW2⟩: ∃ W2,Box ((w.alloc (.cells #[.int .u64 (l0:Int),.int .u64 (l1:Int),.int .u64 (l2:Int),.int .u64 (l3:Int)] 341)).alloc (.cells #[.int .u64 0,.int .u64 0,.int .u64 0,.int .u64 0] 341)=W2):=⟨_,⟨rfl⟩⟩;have B2:Box (Below w.heap.size w W2):=⟨hW2.out▸((Ydb _ w).alloc lr _).alloc (by simp) _⟩;have L0:Box (Blk W2 w.heap.size #[.int .u64 (l0:Int),.int .u64 (l1:Int),.int .u64 (l2:Int),.int .u64 (l3:Int)] 341):=⟨hW2.out▸(Blk.new w _ _).alloc _⟩;have L1:Box (Blk W2 (w.heap.size+1) #[.int .u64 0,.int .u64 0,.int .u64 0,.int .u64 0] 341):=⟨hW2.out▸Zpo w _ _ _⟩;obtain⟨a0,a1,a2,a3,sa⟩:=L0.out.four;obtain⟨d0,d1,d2,d3,sd⟩:=L1.out.four;have q3':=(Yde (a:=⟨q,3,none⟩) (B2.out.block q hql)).trans q3;have qb':=(Yde (a:=⟨q,12+n*4+1,none⟩) (B2.out.block q hql)).trans qb;have hq1:q≠w.heap.size:=by omega
 have hq2:w.heap.size≠q:=by omega
 clear h hA hr;go_in
 go_wp2_with fail
 rw[hW2.out];clear hW2;refine Ye7 2 ?_;rw[Ye5];go_wp2
 go_region
 all_goals
  go_wp2_with fail
  rw[Ye5];go_wp2
  refine Ye6 (by simp[results,results252,go_sem,d0,d1,d2,d3];try rfl) rfl ?_;have e1:w.heap.size<=w.heap.size+1:=by omega
  exact⟨rfl,(((((B2.out.setCell (p:=⟨w.heap.size,1,none⟩) lr _).setCell (p:=⟨w.heap.size+1,0,none⟩) e1 _).setCell (p:=⟨w.heap.size+1,1,none⟩) e1 _).setCell (p:=⟨w.heap.size+1,2,none⟩) e1 _).setCell (p:=⟨w.heap.size+1,3,none⟩) e1 _).drew⟩
end
end Go.P
namespace Go.P
section
variable {w:World} {q p m:Nat} {cs:Array Value} {at_:List Pt} {gs:List Gt} {S:List Nat} {fs:List (ByteArray×Nat)} {vs:List T} {F:List Nat} {xs:List (ByteArray×Nat)} {ov:Value} {Fo:List Nat}
def Znc (w:World) (q b v:Nat):Prop:=Blk w b #[.pointer (some ⟨q,0,none⟩)] 330/\Blk w v #[.func (.func 251) #[] #[.pointer (some ⟨b,0,none⟩),.pointer (some ⟨v,0,none⟩)]] 379
theorem Zzg (h:Ctx w q p m cs at_ gs S fs vs F xs ov Fo){b v:Nat}(hw:Znc w q b v)(l0 l1 l2 l3:Nat):
  Calls prog 251 #[.int .i64 (at_.length:Int),.agg #[.int .u64 (l0:Int),.int .u64 (l1:Int),.int .u64 (l2:Int),.int .u64 (l3:Int)],.pointer (some ⟨b,0,none⟩),.pointer (some ⟨v,0,none⟩)] w fun e w'=>e= .returned (.bool true)/\Below w.heap.size w w':=by
 obtain⟨pa,ca,c3,hA⟩:=h.rd.atoms;have q3:=(h.cell 3 (by omega)).trans c3;have hql:=h.bd.blk.lt;have b0:=hw.1.one.1;have hbl:=hw.1.lt;have B3: ∀ o1 o2 o3,Below w.heap.size w (((w.alloc o1).alloc o2).alloc o3):=fun o1 o2 o3=>(((Ydb _ w).alloc lr o1).alloc (by simp) o2).alloc (by simp;omega) o3;have q3': ∀ o1 o2 o3,(((w.alloc o1).alloc o2).alloc o3).cell? ⟨q,3,none⟩=some (.slice pa at_.length ca):=fun o1 o2 o3=>(Yde (a:=⟨q,3,none⟩) ((B3 o1 o2 o3).block q hql)).trans q3;have b0': ∀ o1 o2 o3,(((w.alloc o1).alloc o2).alloc o3).cell? ⟨b,0,none⟩=some (.pointer (some ⟨q,0,none⟩)):=fun o1 o2 o3=>(Yde (a:=⟨b,0,none⟩) ((B3 o1 o2 o3).block b hbl)).trans b0;clear h hA hw;refine(callsIn_wide (n:=5)).1 ?_;refine callsIn_of_wp_marks func251 rfl trivial ?_ rfl;simp only[ntmps251,Ydn,Ydp,Ydt,Nat.reduceAdd,Nat.reduceSub,Ydx,Ydw,Yd2,Ydz,Ydy,Ydv];refine wpIn_wide.2 ?_;go_wp2
 go_quiet (fail)
 go_wp2
 exact⟨.bool true,by simp[results,results251,go_sem],rfl,(Zb6 (B3 _ _ _)).setCell (p:=⟨w.heap.size+1+1,0,none⟩) (by show w.heap.size<=w.heap.size+1+1;omega) _⟩
end
end Go.P
namespace Go.P
open Go.RowKit Go.W Go.Shelf
attribute [local go_sem] Yea
theorem Zo5 {w:World}{q p m:Nat}{cs:Array Value}{at_:List Pt}{gs:List Gt}{S:List Nat}{fs:List (ByteArray×Nat)}{vs:List T}{F:List Nat}{xs:List (ByteArray×Nat)}{ov:Value}{Fo:List Nat}(h:Ctx w q p m cs at_ gs S fs vs F xs ov Fo){b v:Nat}(hw:Znc w q b v)(h4:at_.length<=4){k s n:Nat}{rest:List Nat}(l0 l1 l2 l3 m0 m1 m2 m3:Nat)(hLs:k=0/\s=l0\/k=1/\s=l1)(hk:k < at_.length)(hs:s < 8)(hn:Za5 s=n::rest)
  (CN: ∀ u,Below w.heap.size w u->Calls prog 252 #[.pointer (some ⟨q,0,none⟩),.agg #[.int .u64 (l0:Int),.int .u64 (l1:Int),.int .u64 (l2:Int),.int .u64 (l3:Int)],.int .i64 (k:Int),.int .i64 (n:Int)] u fun e w'=>e= .returned (.tuple #[.agg #[.int .u64 (m0:Int),.int .u64 (m1:Int),.int .u64 (m2:Int),.int .u64 (m3:Int)],.bool true])/\Below u.heap.size u w')
  (CW: ∀ u,Below w.heap.size w u->Calls prog 251 #[.int .i64 ((k+1:Nat):Int),.agg #[.int .u64 (m0:Int),.int .u64 (m1:Int),.int .u64 (m2:Int),.int .u64 (m3:Int)],.pointer (some ⟨b,0,none⟩),.pointer (some ⟨v,0,none⟩)] u fun e w'=>e= .returned (.bool true)/\Below u.heap.size u w'):
  Calls prog 251 #[.int .i64 (k:Int),.agg #[.int .u64 (l0:Int),.int .u64 (l1:Int),.int .u64 (l2:Int),.int .u64 (l3:Int)],.pointer (some ⟨b,0,none⟩),.pointer (some ⟨v,0,none⟩)] w fun e w'=>e= .returned (.bool true)/\Below w.heap.size w w':=by
 obtain⟨pa,ca,c3,hA⟩:=h.rd.atoms;have q3:=(h.cell 3 (by omega)).trans c3;have hql:=h.bd.blk.lt;have b0:=hw.1.one.1;have hbl:=hw.1.lt;have ne:((k:Int)==(at_.length:Int))=false:=by rw[Ye4];omega
 have hk4:(k:Int) < 4:=by omega
 have HN:=Zaa CN;have HW:=Zaa CW;have HWA:=Zaa hw;have HG:=Zaa h.gl;clear CN CW h hA hw;obtain⟨W3,hW3⟩: ∃ W3,Box (((w.alloc (.cells #[.int .i64 (k:Int)] 3)).alloc (.cells #[.int .u64 (l0:Int),.int .u64 (l1:Int),.int .u64 (l2:Int),.int .u64 (l3:Int)] 341)).alloc (.cells #[.bool false] 4)=W3):=⟨_,⟨rfl⟩⟩;have B3:Box (Below w.heap.size w W3):=⟨hW3.out▸(((Ydb _ w).alloc lr _).alloc (by simp) _).alloc (by simp;omega) _⟩;have S3:Box (W3.heap.size=w.heap.size+3):=⟨by rw[<- hW3.out];simp⟩;have L0:Box (Blk W3 w.heap.size #[.int .i64 (k:Int)] 3):=⟨hW3.out▸((Blk.new w _ _).alloc _).alloc _⟩;have L1:Box (Blk W3 (w.heap.size+1) #[.int .u64 (l0:Int),.int .u64 (l1:Int),.int .u64 (l2:Int),.int .u64 (l3:Int)] 341):=⟨hW3.out▸(Zpo w _ _ _).alloc _⟩;have L2:Box (Blk W3 (w.heap.size+1+1) #[.bool false] 4):=⟨hW3.out▸Z2h w _ _ _ _⟩;have y0:=L0.out.one.1;obtain⟨y1,y2,y3,y4,ys⟩:=L1.out.four;have yk:W3.cell? ⟨w.heap.size+1,k,none⟩=some (.int .u64 (s:Int)):=by
  rcases hLs with⟨rfl,rfl⟩ | ⟨rfl,rfl⟩
  ·exact y1
  ·exact y2
 have hmf:=fun(fn:Fn) (first cap:Array Value) (w:World)=>(rfl:(Instr.makeFunc fn first cap).run prog w= .ok (.func fn first cap) w);have q3':=(Yde (a:=⟨q,3,none⟩) (B3.out.block q hql)).trans q3;have b0':=(Yde (a:=⟨b,0,none⟩) (B3.out.block b hbl)).trans b0;clear q3 b0;refine(callsIn_wide (n:=5)).1 ?_;refine callsIn_of_wp_marks func251 rfl trivial ?_ rfl;simp only[ntmps251,Ydn,Ydp,Ydt,Nat.reduceAdd,Nat.reduceSub,Ydx,Ydw,Yd2,Ydz,Ydy,Ydv];refine wpIn_wide.2 ?_;go_wp2_with fail
 rw[hW3.out];clear hW3;go_quiet (fail)
 go_wp2_with fail
 have eB:=S3.out;have BL:Box (∀ W W',Below w.heap.size w W->Off [W3.heap.size,W3.heap.size+1] W W'->Below w.heap.size w W'):=⟨fun W W' hB k=>hB.trans (k.below (fun i hi=>by simp at hi;omega) hB.size)⟩;have hen: ∀ args w,(callFunc 251 args).run prog w= .ok (.enter 251 args) w:=Zam func251 (by kernel_rfl) rfl;refine(wpIn_wide (n:=5)).1 ?_;refine Zf5 (K:=247) (s:=s) (xs:=Za5 s) (Z:=Z5j) rfl (Zam func247 (by kernel_rfl) rfl) (Zjz _ s hs) rfl
  (fun pre W=>pre=[]/\Below w.heap.size w W/\Blk W w.heap.size #[.int .i64 (k:Int)] 3/\Blk W (w.heap.size+1) #[.int .u64 (l0:Int),.int .u64 (l1:Int),.int .u64 (l2:Int),.int .u64 (l3:Int)] 341/\Blk W (w.heap.size+1+1) #[.bool false] 4)
  (fun _ W=>Below w.heap.size w W/\Blk W (w.heap.size+1+1) #[.bool true] 4) (fun _ W h=>(HG.out.of (F:=[]) (Off.of h.2.1) fun _ h=>(by cases h)).1) ?_ ?_ ⟨rfl,Zb6 B3.out,L0.out,L1.out,L2.out⟩
  (fun x=>{tmps:=#[.int .i64 (k:Int),.agg #[.int .u64 (l0:Int),.int .u64 (l1:Int),.int .u64 (l2:Int),.int .u64 (l3:Int)],.pointer (some ⟨b,0,none⟩),.pointer (some ⟨v,0,none⟩),.pointer (some ⟨w.heap.size,0,none⟩),.pointer (some ⟨w.heap.size+1,0,none⟩),.pointer (some ⟨w.heap.size+1+1,0,none⟩),.int .i64 (x:Int),undef,undef,.int .i64 (k:Int),.pointer (some ⟨q,0,none⟩),.pointer (some ⟨q,0,none⟩),.pointer (some ⟨q,3,none⟩),.slice pa at_.length ca,.int .i64 (at_.length:Int),.bool false,.int .i64 (k:Int),.pointer (some ⟨w.heap.size+1,k,none⟩),.int .u64 (s:Int),.func (.func 247) #[.int .u64 (s:Int)] #[],.int .i64 (x:Int),undef,undef,undef,undef,undef,undef,undef,undef,undef,undef,undef,undef,undef,undef,undef,undef],defers:=[]}) ?assign ?body ?done ?stop
 ·rintro pre W W' ⟨rfl,hB,b0,b1,b2⟩ k;have nn: ∀ j,j < w.heap.size+3->j∉[W3.heap.size,W3.heap.size+1]:=fun j hj=>by simp;omega
  exact⟨rfl,BL.out W W' hB k,b0.of (k.block _ b0.lt (nn _ (by omega))),b1.of (k.block _ b1.lt (nn _ (by omega))),b2.of (k.block _ b2.lt (nn _ (by omega)))⟩
 ·rintro pre W W' ⟨hB,b2⟩ k;exact⟨BL.out W W' hB k,b2.of (k.block _ b2.lt (by simp;omega))⟩
 case assign=>
  intro l x W K hK;gi_wp2
  exact hK
 case body=>
  rintro l pre x rest' W hx ⟨rfl,hB,b0,b1,b2⟩ hW;rw[hn]at hx;injection hx with hx1 hx2;subst hx1;have HH:=Zaa (Yda hB (Yda b0 (Yda b1 b2)));have bb:=(Yde (a:=⟨b,0,none⟩) (hB.block b hbl)).trans HWA.out.1.one.1;have z0:=b0.one.1;obtain⟨z1,z2,z3,z4,zs⟩:=b1.four;have C1:=Zaa (HN.out W hB);clear hB b0 b1 b2;gi_wp2
  refine⟨trivial,(CallsIn.inRound l (callsIn_wide.2 C1.out)).mono ?_⟩;rintro e w4 ⟨rfl,hb4⟩;obtain⟨hB,b0,b1,b2⟩:=HH.out;have hB4:Below w.heap.size w w4:=hB.trans (hb4.mono hB.size);have HB4:=Zaa (Yda hb4 (Yda hB4 (Yda (b0.of (hb4.block _ b0.lt)) (Yda (b1.of (hb4.block _ b1.lt)) (b2.of (hb4.block _ b2.lt))))));have z0': ∀ o,(w4.alloc o).cell? ⟨w.heap.size,0,none⟩=_:=fun o=>(HB4.out.2.2.1.alloc o).one.1;have vv: ∀ o,(w4.alloc o).cell? ⟨v,0,none⟩=_:=fun o=>(Yde (a:=⟨v,0,none⟩) ((hB4.alloc hB4.size o).block v HWA.out.2.lt)).trans HWA.out.2.one.1;clear hB b0 b1 b2 hb4 hB4;have C2:=Zaa (HW.out (w4.alloc (.cells #[.int .u64 (m0:Int),.int .u64 (m1:Int),.int .u64 (m2:Int),.int .u64 (m3:Int)] 341)) (HB4.out.2.1.alloc HB4.out.2.1.size _));gi_wp2
  rw[show((k+1:Nat):Int)=(k:Int)+1 from rfl]at C2;refine⟨trivial,(CallsIn.inRound l (callsIn_wide.2 C2.out)).mono ?_⟩;rintro e w6 ⟨rfl,hb6⟩;have hb46:Below w4.heap.size w4 w6:=((Ydb _ w4).alloc lr _).trans (hb6.mono (by simp));obtain⟨hb4,hB4,b0,b1,b2⟩:=HB4.out;have b6:=b2.of (hb46.block _ b2.lt);have y6:=b6.soft;have y6':=b6.one.1;have K6:=Zaa (Yda (hB4.trans (hb46.mono hB4.size)) (Yda b6 (Yda (hb4.block _ (Nat.lt_of_succ_lt hW)) (Yda (hb4.block _ hW) (Yda (hb46.block _ (Ydh (Nat.lt_of_succ_lt hW) hb4.size)) (hb46.block _ (Ydh hW hb4.size)))))));clear hb46 hb4 hB4 b0 b1 b2 b6 hb6;gi_wp2
  obtain⟨k1,k2,k3,k4,k5,k6⟩:=K6.out;have ns: ∀ j,j≠w.heap.size+1+1->(w6.setCell ⟨w.heap.size+1+1,0,none⟩ (.bool true)).heap[j]?=w6.heap[j]?:=fun j hj=>Ydg w6 _ _ j hj;refine⟨⟨(ns _ ?_).trans (k5.trans k3),(ns _ ?_).trans (k6.trans k4)⟩,k1.setCell (by show w.heap.size<=w.heap.size+1+1;omega) _,k2.set 0 _⟩
  ·show W3.heap.size≠_;omega
  ·show W3.heap.size+1≠_;omega
 case done=>
  rintro W ⟨h,_⟩ _;rw[hn]at h;cases h
 case stop=>
  rintro pre W ⟨hB,b2⟩ hD;have c2:=b2.one.1;gi_wp2
  refine⟨by simp,.inl ⟨_,_,rfl,run_takeDeferred hD,?_⟩⟩;have c3:(W.putObj W3.heap.size (.deferred none)).cell? ⟨w.heap.size+1+1,0,none⟩=some (.bool true):=(Yde (a:=⟨w.heap.size+1+1,0,none⟩) (World.putObj_heap_other (by show w.heap.size+1+1≠_;omega))).trans c2;exact⟨.bool true,by simp[results,results251,go_sem,c3],rfl,hB.trans ((Off.putObj (F:=[W3.heap.size]) (.deferred none) (by simp)).below (fun i hi=>by simp at hi;omega) hB.size)⟩
end Go.P
namespace Go.P
open Go.RowKit Go.W Go.Shelf
variable {w:World}{q:Nat}
attribute [local go_sem] Yea
theorem Z5g {p m:Nat}{cs:Array Value}{at_:List Pt}{gs:List Gt}{S:List Nat}{fs:List (ByteArray×Nat)}{vs:List T}{F:List Nat}{xs:List (ByteArray×Nat)}{ov:Value}{Fo:List Nat}(h:Ctx w q p m cs at_ gs S fs vs F xs ov Fo){b v:Nat}(hw:Znc w q b v)(h4:at_.length<=4){k s:Nat}(hs0:s=0)(l0 l1 l2 l3:Nat)(hLs:k=0/\s=l0\/k=1/\s=l1)(hk:k < at_.length):
  Calls prog 251 #[.int .i64 (k:Int),.agg #[.int .u64 (l0:Int),.int .u64 (l1:Int),.int .u64 (l2:Int),.int .u64 (l3:Int)],.pointer (some ⟨b,0,none⟩),.pointer (some ⟨v,0,none⟩)] w fun e w'=>e= .returned (.bool false)/\Below w.heap.size w w':=by
 have hs:s < 8:=by omega
 have hn:Za5 s=[]:=by rw[hs0];rfl
 obtain⟨pa,ca,c3,hA⟩:=h.rd.atoms;have q3:=(h.cell 3 (by omega)).trans c3;have hql:=h.bd.blk.lt;have b0:=hw.1.one.1;have hbl:=hw.1.lt;have ne:((k:Int)==(at_.length:Int))=false:=by rw[Ye4];omega
 have hk4:(k:Int) < 4:=by omega
 have HG:=Zaa h.gl;clear h hA hw hs0;obtain⟨W3,hW3⟩: ∃ W3,Box (((w.alloc (.cells #[.int .i64 (k:Int)] 3)).alloc (.cells #[.int .u64 (l0:Int),.int .u64 (l1:Int),.int .u64 (l2:Int),.int .u64 (l3:Int)] 341)).alloc (.cells #[.bool false] 4)=W3):=⟨_,⟨rfl⟩⟩;have B3:Box (Below w.heap.size w W3):=⟨hW3.out▸(((Ydb _ w).alloc lr _).alloc (by simp) _).alloc (by simp;omega) _⟩;have S3:Box (W3.heap.size=w.heap.size+3):=⟨by rw[<- hW3.out];simp⟩;have L0:Box (Blk W3 w.heap.size #[.int .i64 (k:Int)] 3):=⟨hW3.out▸((Blk.new w _ _).alloc _).alloc _⟩;have L1:Box (Blk W3 (w.heap.size+1) #[.int .u64 (l0:Int),.int .u64 (l1:Int),.int .u64 (l2:Int),.int .u64 (l3:Int)] 341):=⟨hW3.out▸(Zpo w _ _ _).alloc _⟩;have L2:Box (Blk W3 (w.heap.size+1+1) #[.bool false] 4):=⟨hW3.out▸Z2h w _ _ _ _⟩;have y0:=L0.out.one.1;obtain⟨y1,y2,y3,y4,ys⟩:=L1.out.four;have yk:W3.cell? ⟨w.heap.size+1,k,none⟩=some (.int .u64 (s:Int)):=by
  rcases hLs with⟨rfl,rfl⟩ | ⟨rfl,rfl⟩
  ·exact y1
  ·exact y2
 have hmf:=fun(fn:Fn) (first cap:Array Value) (w:World)=>(rfl:(Instr.makeFunc fn first cap).run prog w= .ok (.func fn first cap) w);have q3':=(Yde (a:=⟨q,3,none⟩) (B3.out.block q hql)).trans q3;have b0':=(Yde (a:=⟨b,0,none⟩) (B3.out.block b hbl)).trans b0;clear q3 b0;refine(callsIn_wide (n:=5)).1 ?_;refine callsIn_of_wp_marks func251 rfl trivial ?_ rfl;simp only[ntmps251,Ydn,Ydp,Ydt,Nat.reduceAdd,Nat.reduceSub,Ydx,Ydw,Yd2,Ydz,Ydy,Ydv];refine wpIn_wide.2 ?_;go_wp2_with fail
 rw[hW3.out];clear hW3;go_quiet (fail)
 go_wp2_with fail
 have eB:=S3.out;have BL:Box (∀ W W',Below w.heap.size w W->Off [W3.heap.size,W3.heap.size+1] W W'->Below w.heap.size w W'):=⟨fun W W' hB k=>hB.trans (k.below (fun i hi=>by simp at hi;omega) hB.size)⟩;have hen: ∀ args w,(callFunc 251 args).run prog w= .ok (.enter 251 args) w:=Zam func251 (by kernel_rfl) rfl;refine(wpIn_wide (n:=5)).1 ?_;refine Zf5 (K:=247) (s:=s) (xs:=Za5 s) (Z:=Z5j) rfl (Zam func247 (by kernel_rfl) rfl) (Zjz _ s hs) rfl
  (fun _ W=>Below w.heap.size w W/\Blk W w.heap.size #[.int .i64 (k:Int)] 3/\Blk W (w.heap.size+1) #[.int .u64 (l0:Int),.int .u64 (l1:Int),.int .u64 (l2:Int),.int .u64 (l3:Int)] 341/\Blk W (w.heap.size+1+1) #[.bool false] 4)
  (fun _ _=>False) (fun _ W h=>(HG.out.of (F:=[]) (Off.of h.1) fun _ h=>(by cases h)).1) ?_ (fun _ _ _ h _=>h) ⟨Zb6 B3.out,L0.out,L1.out,L2.out⟩
  (fun x=>{tmps:=#[.int .i64 (k:Int),.agg #[.int .u64 (l0:Int),.int .u64 (l1:Int),.int .u64 (l2:Int),.int .u64 (l3:Int)],.pointer (some ⟨b,0,none⟩),.pointer (some ⟨v,0,none⟩),.pointer (some ⟨w.heap.size,0,none⟩),.pointer (some ⟨w.heap.size+1,0,none⟩),.pointer (some ⟨w.heap.size+1+1,0,none⟩),.int .i64 (x:Int),undef,undef,.int .i64 (k:Int),.pointer (some ⟨q,0,none⟩),.pointer (some ⟨q,0,none⟩),.pointer (some ⟨q,3,none⟩),.slice pa at_.length ca,.int .i64 (at_.length:Int),.bool false,.int .i64 (k:Int),.pointer (some ⟨w.heap.size+1,k,none⟩),.int .u64 (s:Int),.func (.func 247) #[.int .u64 (s:Int)] #[],.int .i64 (x:Int),undef,undef,undef,undef,undef,undef,undef,undef,undef,undef,undef,undef,undef,undef,undef,undef],defers:=[]}) ?assign ?body ?done (fun _ _ h _=>h.elim)
 ·rintro pre W W' ⟨hB,b0,b1,b2⟩ k;have nn: ∀ j,j < w.heap.size+3->j∉[W3.heap.size,W3.heap.size+1]:=fun j hj=>by simp;omega
  exact⟨BL.out W W' hB k,b0.of (k.block _ b0.lt (nn _ (by omega))),b1.of (k.block _ b1.lt (nn _ (by omega))),b2.of (k.block _ b2.lt (nn _ (by omega)))⟩
 case assign=>
  intro l x W K hK;gi_wp2
  exact hK
 case body=>
  intro l pre x rest W hx;rw[hn]at hx;simp at hx
 case done=>
  rintro W ⟨hB,b0,b1,b2⟩ hD;have c2:=b2.one.1;have s2:=b2.soft;have HD:=Zaa hD;have HH:=Zaa (Yda hB b2);clear hB b0 b1 b2 hD;go_wp2_with fail
  refine⟨by simp,.inl ⟨_,_,rfl,run_takeDeferred ((Ydg W _ _ _ (by show W3.heap.size≠w.heap.size+1+1;omega)).trans HD.out),?_⟩⟩;obtain⟨hB,b2⟩:=HH.out;have c3:((W.setCell ⟨w.heap.size+1+1,0,none⟩ (.bool false)).putObj W3.heap.size (.deferred none)).cell? ⟨w.heap.size+1+1,0,none⟩=some (.bool false):=(Yde (a:=⟨w.heap.size+1+1,0,none⟩) (World.putObj_heap_other (by show w.heap.size+1+1≠_;omega))).trans (b2.set 0 _).one.1;have hB':=hB.setCell (p:=⟨w.heap.size+1+1,0,none⟩) (by show w.heap.size<=w.heap.size+1+1;omega) (.bool false);exact⟨.bool false,by simp[results,results251,go_sem,c3],rfl,hB'.trans ((Off.putObj (F:=[W3.heap.size]) (.deferred none) (by simp)).below (fun i hi=>by simp at hi;omega) hB'.size)⟩
theorem Zr9 (l0 l1 l2 l3:Nat)(r:Bool)(CW: ∀ u b v,Below w.heap.size w u->Znc u q b v->Calls prog 251 #[.int .i64 0,.agg #[.int .u64 (l0:Int),.int .u64 (l1:Int),.int .u64 (l2:Int),.int .u64 (l3:Int)],.pointer (some ⟨b,0,none⟩),.pointer (some ⟨v,0,none⟩)] u fun e w'=>e= .returned (.bool r)/\Below u.heap.size u w'):
  Calls prog 222 #[.pointer (some ⟨q,0,none⟩),.agg #[.int .u64 (l0:Int),.int .u64 (l1:Int),.int .u64 (l2:Int),.int .u64 (l3:Int)]] w fun e w'=>e= .returned (.bool r)/\Below w.heap.size w w':=by
 have HC:=Zaa CW;clear CW;have hen: ∀ args w,(callFunc 251 args).run prog w= .ok (.enter 251 args) w:=Zam func251 (by kernel_rfl) rfl;have hmf:=fun(fn:Fn) (first cap:Array Value) (w:World)=>(rfl:(Instr.makeFunc fn first cap).run prog w= .ok (.func fn first cap) w);have hst:=fun(a:Addr) (fn:Fn) (first cap:Array Value) (m:Mode) (w:World)=>run_store prog w a (.func fn first cap) m rfl;refine Yfn func222 rfl ?_;simp only[ntmps222,Ydn,Ydp,Ydt,Nat.reduceAdd,Nat.reduceSub,Ydx,Ydw,Yd2,Ydz,Ydy,Ydv];go_wp2_with fail
 refine(HC.out _ w.heap.size (w.heap.size+1+1) ((((Ydb _ w).alloc lr _).alloc (by simp) _).alloc (by simp;omega) _) ⟨((Blk.new w _ _).alloc _).alloc _,Z2h w _ _ _ _⟩).mono ?_;rintro e w5 ⟨rfl,hb⟩;have hB:Below w.heap.size w w5:=((((Ydb _ w).alloc lr _).alloc (by simp) _).alloc (by simp;omega) _).trans (hb.mono (by simp;omega));clear hb;go_wp2_with fail
 exact⟨rfl,_,by simp[results,results222,go_sem],rfl,hB⟩
end Go.P
namespace Go.P
variable {b n:Nat}{r:List Nat}
section
variable {w u:World} {q p m:Nat} {cs:Array Value} {at_:List Pt} {x x1:Pt} {gs:List Gt} {S:List Nat} {fs:List (ByteArray×Nat)} {vs:List T} {F:List Nat} {xs:List (ByteArray×Nat)} {ov:Value} {Fo:List Nat}
theorem Znc.below {v:Nat}(h:Znc w q b v)(hb:Below w.heap.size w u):Znc u q b v:=⟨h.1.of (hb.block _ h.1.lt),h.2.of (hb.block _ h.2.lt)⟩
theorem Z3b (h:Ctx w q p m cs at_ gs S fs vs F xs ov Fo)(h4:at_.length<=4)(hk:0 < at_.length)(l1 l2 l3:Nat):
  Calls prog 222 #[.pointer (some ⟨q,0,none⟩),.agg #[.int .u64 ((0:Nat):Int),.int .u64 (l1:Int),.int .u64 (l2:Int),.int .u64 (l3:Int)]] w fun e w'=>e= .returned (.bool false)/\Below w.heap.size w w':=
 Zr9 0 l1 l2 l3 false fun _ _ _ hb hw=>Z5g (h.below hb) hw h4 (k:=0) rfl 0 l1 l2 l3 (.inl ⟨rfl,rfl⟩) hk
theorem Zn4 (h:Ctx w q p m cs [x] gs S fs vs F xs ov Fo)(l0 l1 l2 l3:Nat)(hs:l0 < 8)(hn:Za5 l0=n::r):
  Calls prog 222 #[.pointer (some ⟨q,0,none⟩),.agg #[.int .u64 (l0:Int),.int .u64 (l1:Int),.int .u64 (l2:Int),.int .u64 (l3:Int)]] w fun e w'=>e= .returned (.bool true)/\Below w.heap.size w w':=
 Zr9 l0 l1 l2 l3 true fun _ _ _ hb hw=>Zo5 (h.below hb) hw (by simp) (k:=0) l0 l1 l2 l3 l0 l1 l2 l3 (.inl ⟨rfl,rfl⟩) (by simp) hs hn
  (fun _ hu=>Zkt ((h.below hb).below hu) (by simp) (i:=0) rfl l0 l1 l2 l3) (fun _ hu=>Zzg ((h.below hb).below hu) (hw.below hu) l0 l1 l2 l3)
theorem Z3c (h:Ctx w q p m cs [x,x1] gs S fs vs F xs ov Fo)(l0 l1 l2 l3:Nat)(hs:l0 < 8)(h1:l1 < 8){n1:Nat}{r1:List Nat}(hn:Za5 l0=n::r)(cb:cs[12+n*4+1]?=some (.int .u64 (b:Int)))(hb8:b < 8)(hn1:Za5 (l1 &&& b)=n1::r1):
  Calls prog 222 #[.pointer (some ⟨q,0,none⟩),.agg #[.int .u64 (l0:Int),.int .u64 (l1:Int),.int .u64 (l2:Int),.int .u64 (l3:Int)]] w fun e w'=>e= .returned (.bool true)/\Below w.heap.size w w':=by
 have hz:l1 &&& b≠0:=fun e=>by rw[e]at hn1;cases hn1
 have h60:n < 60:=Ydh (Zcp (by rw[hn];simp)) (by decide);have hs1:l1 &&& b < 8:=Nat.lt_of_le_of_lt Nat.and_le_left h1;refine Zr9 l0 l1 l2 l3 true fun u _ _ hb hw=>?_;have hc:=h.below hb;refine Zo5 hc hw (by simp) (k:=0) l0 l1 l2 l3 l0 (l1 &&& b) l2 l3 (.inl ⟨rfl,rfl⟩) (by simp) hs hn (fun _ hu=>Zui (hc.below hu) h60 cb hb8 l0 l1 l2 l3 h1 hz) fun u' hu=>?_;exact Zo5 (hc.below hu) (hw.below hu) (by simp) (k:=1) l0 (l1 &&& b) l2 l3 l0 (l1 &&& b) l2 l3 (.inr ⟨rfl,rfl⟩) (by simp) hs1 hn1
  (fun _ hu'=>Zkt ((hc.below hu).below hu') (by simp) (i:=1) rfl l0 _ l2 l3) fun _ hu'=>Zzg ((hc.below hu).below hu') ((hw.below hu).below hu') l0 _ l2 l3
end
end Go.P
namespace Go.P
variable {w:World}{r:Nat}
theorem Zvx (hb:w.heap[r]?=some (.map #[] 0))(v:Int):
  (Instr.lookup 398 (.map (some r)) (.int .i64 v) false).run prog w= .ok (.int .u64 0) w:=by
 have hz:(zeroValue 339).run prog w= .ok (.int .u64 0) w:=by kernel_rfl
 have hck:(Instr.checkKey true 10000 3 (.int .i64 v)).run prog w= .ok () w:=by kernel_rfl
 have hfk:(Instr.findKey 3 (.int .i64 v) []).run prog w= .ok none w:=by kernel_rfl
 have hgo:=Yef (P:=prog) hb;simp[Instr.lookup,Yff underlying398,hgo,hfk,hz,hck]
theorem Zzy (hb:w.heap[r]?=some (.map #[] 0))(v:Int)(u:Value):
  (Instr.mapUpdate 398 (.map (some r)) (.int .i64 v) u).run prog w= .ok () {w with heap:=w.heap.setIfInBounds r (.map #[{key:= .int .i64 v,val:=u,born:=0}] 1)}:=by
 have hck:(Instr.checkKey false 10000 3 (.int .i64 v)).run prog w= .ok () w:=by kernel_rfl
 have hfk:(Instr.findKey 3 (.int .i64 v) []).run prog w= .ok none w:=by kernel_rfl
 have hgo:=Yef (P:=prog) hb;have hso:=Go.MapKept.run_setObj_map (P:=prog) (.map #[{key:= .int .i64 v,val:=u,born:=0}] 1) hb;simp[Instr.mapUpdate,Yff underlying398,hgo,hfk,hck,hso]
end Go.P
namespace Go.P
attribute [local go_sem] Yea
theorem Zvy {w:World}{q p m:Nat}{cs:Array Value}{at_:List Pt}{gs:List Gt}{S:List Nat}{fs:List (ByteArray×Nat)}{vs:List T}{F:List Nat}{xs:List (ByteArray×Nat)}{ov:Value}{Fo:List Nat}(h:Ctx w q p m cs at_ gs S fs vs F xs ov Fo){n s:Nat}{fx:ByteArray×Nat}(hf:fs[n]?=some fx)(hs:s < 8)(hn:Za5 s=[n])(a:ByteArray)(i:Nat):
  Calls prog 269 #[.pointer (some ⟨q,0,none⟩),.agg #[.string a,.int .i64 (i:Int),.int .i64 0],.int .u64 (s:Int)] w fun e w'=> ∃ r,e= .returned (.map (some r))/\w.heap.size<=r/\w'.heap[r]?=some (.map #[{key:= .int .i64 (fx.2:Int),val:= .int .u64 ((2 ^ n:Nat):Int),born:=0}] 1)/\Below w.heap.size w w':=by
 obtain⟨z,hz⟩: ∃ z:Nat,2 ^ n=z:=⟨_,rfl⟩;rw[hz];have HG:=Zaa h.gl;obtain⟨gf,cf,p0,hpF,hgF,f0,f1,f2,_⟩:=h.fact hf;have q0:=(h.cell 0 (by omega)).trans h.rd.c0;have hql:=h.bd.blk.lt;have hpl:=h.wd.lt p hpF;have hgl:=h.wd.lt gf hgF;have hn3:n=0\/n=1\/n=2:=by have:=Zcp (s:=s) (n:=n) (by rw[hn];simp);omega
 have hnl:(n:Int) < (fs.length:Int):=by have:=(Ydl.1 hf).1;omega
 clear h f0 f1;refine(callsIn_wide (n:=5)).1 ?_;refine callsIn_of_wp_marks func269 rfl trivial ?_ rfl;simp only[ntmps269,Ydn,Ydp,Ydt,Nat.reduceAdd,Nat.reduceSub,Ydx,Ydw,Yd2,Ydz,Ydy,Ydv];refine wpIn_wide.2 ?_;have hmk: ∀ w,(Instr.makeMap 398 none).run prog w= .ok (.map (some w.heap.size)) (w.alloc (.map #[] 0)):=fun w=>by kernel_rfl
 obtain⟨W4,hW4⟩: ∃ W4,Box ((((w.alloc (.cells #[.pointer (some ⟨q,0,none⟩)] 330)).alloc (.cells #[.string a,.int .i64 (i:Int),.int .i64 0] 391)).alloc (.map #[] 0)).alloc (.cells #[.map (some (w.heap.size+1+1))] 398)=W4):=⟨_,⟨rfl⟩⟩;have B4:Box (Below w.heap.size w W4):=⟨hW4.out▸((((Ydb _ w).alloc lr _).alloc (by simp) _).alloc (by simp;omega) _).alloc (by simp;omega) _⟩;have S4:Box (W4.heap.size=w.heap.size+4):=⟨by rw[<- hW4.out];simp⟩;have L0:Box (Blk W4 w.heap.size #[.pointer (some ⟨q,0,none⟩)] 330):=⟨hW4.out▸(((Blk.new w _ _).alloc _).alloc _).alloc _⟩;have L1:Box (Blk W4 (w.heap.size+1) #[.string a,.int .i64 (i:Int),.int .i64 0] 391):=⟨hW4.out▸((Zpo w _ _ _).alloc _).alloc _⟩;have L2:Box (W4.heap[w.heap.size+1+1]?=some (.map #[] 0)):=⟨by rw[<- hW4.out];exact(Ydf _ _ _ (by simp)).trans (by have:=World.alloc_heap_new ((w.alloc (.cells #[.pointer (some ⟨q,0,none⟩)] 330)).alloc (.cells #[.string a,.int .i64 (i:Int),.int .i64 0] 391)) (.map #[] 0);rwa [Ydm,Ydm]at this)⟩;have L3:Box (Blk W4 (w.heap.size+1+1+1) #[.map (some (w.heap.size+1+1))] 398):=⟨by
  have:=Blk.new (((w.alloc (.cells #[.pointer (some ⟨q,0,none⟩)] 330)).alloc (.cells #[.string a,.int .i64 (i:Int),.int .i64 0] 391)).alloc (.map #[] 0)) #[.map (some (w.heap.size+1+1))] 398
  rw[hW4.out]at this;simpa using this⟩
 have hmf:=fun(fn:Fn) (first cap:Array Value) (w:World)=>(rfl:(Instr.makeFunc fn first cap).run prog w= .ok (.func fn first cap) w);go_wp2_with fail
 rw[hW4.out];clear hW4;have e4:=S4.out;refine(wpIn_wide (n:=5)).1 ?_;refine Zf5 (K:=247) (s:=s) (xs:=Za5 s) (Z:=Z5j) rfl (Zam func247 (by kernel_rfl) rfl) (Zjz _ s hs) rfl
  (fun pre W=>Below w.heap.size w W/\Blk W w.heap.size #[.pointer (some ⟨q,0,none⟩)] 330/\Blk W (w.heap.size+1) #[.string a,.int .i64 (i:Int),.int .i64 0] 391/\Blk W (w.heap.size+1+1+1) #[.map (some (w.heap.size+1+1))] 398/\W.heap[w.heap.size+1+1]?=some (if pre=[]then .map #[] 0 else .map #[{key:= .int .i64 (fx.2:Int),val:= .int .u64 (z:Int),born:=0}] 1))
  (fun _ _=>False) (fun _ W h=>(HG.out.of (F:=[]) (Off.of h.1) fun _ h=>(by cases h)).1) ?_ (fun _ _ _ h _=>h) ⟨B4.out,L0.out,L1.out,L3.out,L2.out⟩
  (fun x=>{tmps:=#[.pointer (some ⟨q,0,none⟩),.agg #[.string a,.int .i64 (i:Int),.int .i64 0],.int .u64 (s:Int),.pointer (some ⟨w.heap.size,0,none⟩),.pointer (some ⟨w.heap.size+1,0,none⟩),undef,.map none,.pointer (some ⟨w.heap.size+1+1+1,0,none⟩),.int .i64 (x:Int),.map (some (w.heap.size+1+1)),.int .u64 (s:Int),.func (.func 247) #[.int .u64 (s:Int)] #[],.int .i64 (x:Int),undef,undef,undef,undef,undef,undef,undef,undef,undef,undef,undef,undef,undef,undef,undef,undef,undef,undef,undef,undef],defers:=[]}) ?assign ?body ?done (fun _ _ h _=>h.elim)
 ·rintro pre W W' ⟨hB,b0,b1,b3,b2⟩ k;have nn: ∀ j,j < w.heap.size+4->j∉[W4.heap.size,W4.heap.size+1]:=fun j hj=>by simp;omega
  exact⟨hB.trans (k.below (fun i hi=>by simp at hi;omega) hB.size),b0.of (k.block _ b0.lt (nn _ (by omega))),b1.of (k.block _ b1.lt (nn _ (by omega))),b3.of (k.block _ b3.lt (nn _ (by omega))),(k.block _ (Nat.lt_of_succ_lt b3.lt) (nn _ (by omega))).trans b2⟩
 case assign=>
  intro l x W K hK;gi_wp2
  exact hK
 case body=>
  rintro l pre x rest W hx ⟨hB,b0,b1,b3,b2⟩ hW;rw[hn]at hx;obtain⟨rfl,rfl,rfl⟩:pre=[]/\n=x/\rest=[]:=by
   cases pre with
   | nil=>simp at hx;exact⟨rfl,hx.1,hx.2⟩
   | cons y l=>simp at hx
  rw[if_pos rfl]at b2;have hS0:W.drew.cell? ⟨w.heap.size,0,none⟩=some (.pointer (some ⟨q,0,none⟩))/\W.drew.cell? ⟨w.heap.size+1,2,none⟩=some (.int .i64 0)/\W.drew.cell? ⟨w.heap.size+1+1+1,0,none⟩=some (.map (some (w.heap.size+1+1)))/\W.drew.cell? ⟨q,0,none⟩=some (.pointer (some ⟨p,0,none⟩))/\W.drew.cell? ⟨p,0,none⟩=some (.slice (some ⟨gf,0,none⟩) fs.length cf)/\W.drew.cell? ⟨gf,n*8+2,none⟩=some (.int .i64 (fx.2:Int)):=⟨b0.one.1,b1.three.2.2.1,b3.one.1,(Yde (a:=⟨q,0,none⟩) (hB.block q hql)).trans q0,(Yde (a:=⟨p,0,none⟩) (hB.block p hpl)).trans p0,(Yde (a:=⟨gf,n*8+2,none⟩) (hB.block gf hgl)).trans f2⟩;have hup:=Zzy (w:=W.drew) b2 (fx.2:Int) (.int .u64 (z:Int));have hlk:=Zvx (w:=W.drew) b2 (fx.2:Int);have hor:bits BinOp.or IntKind.u64 0 (z:Int)=(z:Int):=by subst hz;rcases hn3 with rfl | rfl | rfl <;> rfl
  have HH:=Zaa (Yda hB (Yda b0 (Yda b1 (Yda b3 b2))));clear hB b0 b1 b3 b2;have hmx:prog.follows .mixedOrders=true:=by kernel_rfl
  gi_wp2
  refine Zd5 (fun u=>u.cell? ⟨w.heap.size,0,none⟩=some (.pointer (some ⟨q,0,none⟩))/\u.cell? ⟨w.heap.size+1,2,none⟩=some (.int .i64 0)/\u.cell? ⟨w.heap.size+1+1+1,0,none⟩=some (.map (some (w.heap.size+1+1)))/\u.cell? ⟨q,0,none⟩=some (.pointer (some ⟨p,0,none⟩))/\u.cell? ⟨p,0,none⟩=some (.slice (some ⟨gf,0,none⟩) fs.length cf)/\u.cell? ⟨gf,n*8+2,none⟩=some (.int .i64 (fx.2:Int))) hmx (fun⟨_,_,h⟩=>h) (by kernel_rfl) ?_;refine tk 0 (.map (some (w.heap.size+1+1))) hS0 (hy:=fun u hS=>by obtain⟨s0,s1,s2,s3,s4,s5⟩:=hS;go_simp) ?_;try simp only[zz]
  refine tk 1 (.pointer (some ⟨q,0,none⟩)) hS0 (hy:=fun u hS=>by obtain⟨s0,s1,s2,s3,s4,s5⟩:=hS;go_simp) ?_;try simp only[zz]
  refine tk 2 (.pointer (some ⟨q,0,none⟩)) hS0 ?_;try simp only[zz]
  refine tk 3 (.pointer (some ⟨q,0,none⟩)) hS0 ?_;try simp only[zz]
  refine tk 4 (.pointer (some ⟨p,0,none⟩)) hS0 (hy:=fun u hS=>by obtain⟨s0,s1,s2,s3,s4,s5⟩:=hS;go_simp) ?_;try simp only[zz]
  refine tk 5 (.pointer (some ⟨p,0,none⟩)) hS0 ?_;try simp only[zz]
  refine tk 6 (.pointer (some ⟨p,0,none⟩)) hS0 ?_;try simp only[zz]
  refine tk 7 (.slice (some ⟨gf,0,none⟩) fs.length cf) hS0 (hy:=fun u hS=>by obtain⟨s0,s1,s2,s3,s4,s5⟩:=hS;go_simp) ?_;try simp only[zz]
  refine tk 8 (.int .i64 (n:Int)) hS0 ?_;try simp only[zz]
  refine tk 9 (.pointer (some ⟨w.heap.size+1,2,none⟩)) hS0 ?_;try simp only[zz]
  refine tk 10 (.int .i64 0) hS0 (hy:=fun u hS=>by obtain⟨s0,s1,s2,s3,s4,s5⟩:=hS;go_simp) ?_;try simp only[zz]
  refine tk 11 (.pointer (some ⟨gf,n*8,none⟩)) hS0 ?_;try simp only[zz]
  refine tk 12 (.pointer (some ⟨gf,n*8+2,none⟩)) hS0 ?_;try simp only[zz]
  refine tk 13 (.pointer (some ⟨gf,n*8+2,none⟩)) hS0 ?_;try simp only[zz]
  refine tk 14 (.int .i64 (fx.2:Int)) hS0 (hy:=fun u hS=>by obtain⟨s0,s1,s2,s3,s4,s5⟩:=hS;go_simp) ?_;try simp only[zz]
  refine tk 16 (.int .i64 (n:Int)) hS0 ?_;try simp only[zz]
  refine tk 17 (.int .u64 (z:Int)) hS0 (hy:=fun u hS=>by subst hz;rcases hn3 with rfl | rfl | rfl <;> (go_simp;rfl)) ?_;try simp only[zz]
  refine Yfc (rs:=[15]) (by kernel_rfl) (by simp) (Ydr rfl (fun K' hK'=>?_) Ydu);go_simp;refine hK'.out _ _ hS0 fun _=>?_;try simp only[zz]
  refine tk 18 (.int .u64 (z:Int)) hS0 ?_;try simp only[zz]
  refine Yfc (rs:=[19]) (by kernel_rfl) (by simp) (Ydr rfl (fun K' hK'=>?_) Ydu);go_simp;obtain⟨U,hU⟩: ∃ U,{W.drew with heap:=W.drew.heap.setIfInBounds (w.heap.size+1+1) (.map #[{key:= .int .i64 (fx.2:Int),val:= .int .u64 (z:Int),born:=0}] 1)}=U:=⟨_,rfl⟩;have nb: ∀ j,j≠w.heap.size+1+1->U.heap[j]?=W.heap[j]?:=fun j hj=>by rw[<- hU];exact Array.getElem?_setIfInBounds_ne (Ne.symm hj)
  obtain⟨hB,b0,b1,b3,b2⟩:=HH.out;have l2:w.heap.size+1+1 < W.heap.size:=Nat.lt_of_succ_lt b3.lt;have nm:U.heap[w.heap.size+1+1]?=some (.map #[{key:= .int .i64 (fx.2:Int),val:= .int .u64 (z:Int),born:=0}] 1):=by rw[<- hU];exact Array.getElem?_setIfInBounds_self_of_lt l2
  have hBU:Below w.heap.size w U:=hB.trans ⟨by rw[<- hU];rfl,by rw[<- hU];rfl,by rw[<- hU];rfl,by rw[<- hU];simp,fun k hk=>nb k (by omega)⟩;have hS1:=Yda (b0.of (nb _ (by omega))).one.1 (Yda (b1.of (nb _ (by omega))).three.2.2.1 (Yda (b3.of (nb _ (by omega))).one.1 (Yda ((Yde (a:=⟨q,0,none⟩) (hBU.block q hql)).trans q0) (Yda ((Yde (a:=⟨p,0,none⟩) (hBU.block p hpl)).trans p0) ((Yde (a:=⟨gf,n*8+2,none⟩) (hBU.block gf hgl)).trans f2)))));subst hU;refine hK'.out _ _ hS1 fun _=>?_;refine Yfi (by kernel_rfl) ?_ _;refine⟨⟨nb _ ?_,nb _ ?_⟩,hBU,b0.of (nb _ (by omega)),b1.of (nb _ (by omega)),b3.of (nb _ (by omega)),by rw[if_neg (by simp)];exact nm⟩
  ·show W4.heap.size≠_;omega
  ·show W4.heap.size+1≠_;omega
 case done=>
  rintro W ⟨hB,b0,b1,b3,b2⟩ hD;rw[hn,if_neg (by simp)]at b2;have c3:=b3.one.1;go_wp2_with fail
  refine⟨by simp,.inl ⟨_,_,rfl,run_takeDeferred hD,?_⟩⟩;exact⟨.map (some (w.heap.size+1+1)),by simp[results,results269,go_sem],w.heap.size+1+1,rfl,by omega,(World.putObj_heap_other (by show w.heap.size+1+1≠_;omega)).trans b2,hB.trans ((Off.putObj (F:=[W4.heap.size]) (.deferred none) (by simp)).below (fun i hi=>by simp at hi;omega) hB.size)⟩
end Go.P
namespace Go.P
variable {w:World}{q b v:Nat}
def Zjj (w:World) (q b v:Nat):Prop:=Blk w b #[.pointer (some ⟨q,0,none⟩)] 330/\Blk w v #[.func (.func 268) #[] #[.pointer (some ⟨b,0,none⟩),.pointer (some ⟨v,0,none⟩)]] 379
theorem Zjj.below {u:World}(h:Zjj w q b v)(hb:Below w.heap.size w u):Zjj u q b v:=⟨h.1.of (hb.block _ h.1.lt),h.2.of (hb.block _ h.2.lt)⟩
theorem Z46 (hw:Zjj w q b v)(k l0 l1 l2 l3:Nat)(CH: ∀ u,Below w.heap.size w u->Calls prog 222 #[.pointer (some ⟨q,0,none⟩),.agg #[.int .u64 (l0:Int),.int .u64 (l1:Int),.int .u64 (l2:Int),.int .u64 (l3:Int)]] u fun e w'=>e= .returned (.bool false)/\Below u.heap.size u w'):
  Calls prog 268 #[.int .i64 (k:Int),.agg #[.int .u64 (l0:Int),.int .u64 (l1:Int),.int .u64 (l2:Int),.int .u64 (l3:Int)],.pointer (some ⟨b,0,none⟩),.pointer (some ⟨v,0,none⟩)] w fun e w'=>e= .returned (.bool true)/\Below w.heap.size w w':=by
 have c0: ∀ o,(w.alloc o).cell? ⟨b,0,none⟩=_:=fun o=>(hw.1.alloc o).one.1;have HC:=Zaa (fun o=>CH (w.alloc o) ((Ydb _ w).alloc lr o));clear CH hw;refine Yfn func268 rfl ?_;simp only[ntmps268,Ydn,Ydp,Ydt,Nat.reduceAdd,Nat.reduceSub,Ydx,Ydw,Yd2,Ydz,Ydy,Ydv];go_wp2_with fail
 refine(HC.out _).mono ?_;rintro e w5 ⟨rfl,hb⟩;have hB:Below w.heap.size w w5:=((Ydb _ w).alloc lr _).trans (hb.mono (by simp));clear hb;go_wp2_with fail
 exact⟨rfl,_,by simp[results,results268,go_sem],rfl,hB⟩
theorem Z47 (l0 l1 l2 l3:Nat)(r:Bool)(R:World->World->Prop)(CW: ∀ u b v,Below w.heap.size w u->w.heap.size<=b->w.heap.size<=v->Zjj u q b v->Calls prog 268 #[.int .i64 0,.agg #[.int .u64 (l0:Int),.int .u64 (l1:Int),.int .u64 (l2:Int),.int .u64 (l3:Int)],.pointer (some ⟨b,0,none⟩),.pointer (some ⟨v,0,none⟩)] u fun e w'=>e= .returned (.bool r)/\R u w')(hR: ∀ u w',Below w.heap.size w u->R u w'->R w w'):
  Calls prog 249 #[.pointer (some ⟨q,0,none⟩),.agg #[.int .u64 (l0:Int),.int .u64 (l1:Int),.int .u64 (l2:Int),.int .u64 (l3:Int)]] w fun e w'=>e= .returned (.bool r)/\R w w':=by
 have HC:=Zaa CW;clear CW;have hen: ∀ args w,(callFunc 268 args).run prog w= .ok (.enter 268 args) w:=Zam func268 (by kernel_rfl) rfl;have hmf:=fun(fn:Fn) (first cap:Array Value) (w:World)=>(rfl:(Instr.makeFunc fn first cap).run prog w= .ok (.func fn first cap) w);have hst:=fun(a:Addr) (fn:Fn) (first cap:Array Value) (m:Mode) (w:World)=>run_store prog w a (.func fn first cap) m rfl;refine Yfn func249 rfl ?_;simp only[ntmps249,Ydn,Ydp,Ydt,Nat.reduceAdd,Nat.reduceSub,Ydx,Ydw,Yd2,Ydz,Ydy,Ydv];go_wp2_with fail
 refine(HC.out _ w.heap.size (w.heap.size+1+1) ((((Ydb _ w).alloc lr _).alloc (by simp) _).alloc (by simp;omega) _) lr (by omega) ⟨((Blk.new w _ _).alloc _).alloc _,Z2h w _ _ _ _⟩).mono ?_;rintro e w5 ⟨rfl,hb⟩;have hB:=hR _ _ ((((Ydb _ w).alloc lr _).alloc (by simp) _).alloc (by simp;omega) _) hb;clear hb;go_wp2_with fail
 exact⟨rfl,_,by simp[results,results249,go_sem],rfl,hB⟩
end Go.P
namespace Go.W
theorem Zew.lt {w:World}{r:Nat}{fs:List (ByteArray×Nat)}(h:Zew w r fs):r < w.heap.size:=by
 obtain⟨es,c,h,_⟩:=h;exact(Ydo.1 h).1
end Go.W
namespace Go.P
theorem Wd.appF {w4 W5 U w6 W:World}{p:Nat}{fs:List (ByteArray×Nat)}{vs:List T}{F:List Nat}{k r:Nat}{fv vv:Value}{Ff Fv F6:List Nat}{x:ByteArray×Nat}{g6 cap6:Nat}(D4:Wd w4 p fs vs F k r fv vv Ff Fv)(O5:Off [k] w4 W5)(HNM:Zew W5 k (fs++[x]))(hU:Off [] W5 U)(happ:Zs0 321 8 Zkb 0 U w6 fs Ff [] x g6 cap6 F6)(hW:W=w6.setCell ⟨p,0,none⟩ (.slice (some ⟨g6,0,none⟩) (fs.length+1) cap6)):
  ∃ F',Zd3 W p (fs++[x]) vs F'/\Off F w4 W/\ ∀ i,i∈F'->i∈F\/w4.heap.size<=i:=by
 subst hW;obtain⟨⟨pk,pr,pf,pv⟩,⟨kr,kf,kv⟩,⟨rf,rv⟩,nf,nv,fvd⟩:=D4.apart;have hown:=D4.own;have hltF:=D4.new.lt;rw[hown]at hltF;have s5:=O5.size;have sU:=hU.size;have s6:=happ.size;have up: ∀ j,j < w4.heap.size->j≠k->j∉Ff->w6.heap[j]?=w4.heap[j]?:=fun j hj hr hv=>(happ.same j (by omega) hv).trans ((hU.block j (by omega) (by simp)).trans (O5.block j hj (by simpa using hr)));have hsub: ∀ j,j∈F6->j∈Ff\/w4.heap.size<=j:=fun j hj=>by
  rcases happ.sub j hj with h | h | h
  ·exact .inl h
  ·cases h
  ·exact .inr (by omega)
 have nin: ∀ j,j < w4.heap.size->j∉Ff->j∉F6:=fun j hj hn hF=>(hsub j hF).elim hn (by omega);have lp:=hltF p (by simp);have lk:=hltF k (by simp);have lr:=hltF r (by simp);have lv: ∀ j,j∈Fv->j < w4.heap.size:=fun j hj=>hltF j (by simp[hj]);have upW: ∀ j,j < w4.heap.size->j≠k->j∉Ff->j≠p->(w6.setCell ⟨p,0,none⟩ (.slice (some ⟨g6,0,none⟩) (fs.length+1) cap6)).heap[j]?=w4.heap[j]?:=fun j hj hr hv hp=>(Ydg w6 ⟨p,0,none⟩ _ j hp).trans (up j hj hr hv);have hkW:(w6.setCell ⟨p,0,none⟩ (.slice (some ⟨g6,0,none⟩) (fs.length+1) cap6)).heap[k]?=W5.heap[k]?:=(Ydg w6 ⟨p,0,none⟩ _ k (Ne.symm pk)).trans ((happ.same k (by omega) kf).trans (hU.block k (by omega) (by simp)));have hs:(w6.setCell ⟨p,0,none⟩ (.slice (some ⟨g6,0,none⟩) (fs.length+1) cap6)).heap.size=w6.heap.size:=by simp[World.setCell]
 refine⟨p::k::r::(F6++Fv),⟨k,r,.slice (some ⟨g6,0,none⟩) (fs.length+1) cap6,vv,F6,Fv,?_,?_,?_,HNM.of hkW,D4.num.of (upW r lr (Ne.symm kr) rf (Ne.symm pr)),rfl,?_,fun _ _=>Yej _,?_⟩,?_,?_⟩
 ·exact(D4.blk.of (up p lp pk pf)).set 0 _
 ·exact Zag.stable Zkb.stable _ _ _ _ _ happ.row fun j hj=>Ydg _ _ _ _ (fun e=>nin p lp pf (by rw[show p=j from e.symm];exact hj))
 ·exact Zag.stable Zqd.stable _ _ _ _ _ D4.vals fun j hj=>upW j (lv j hj) (fun e=>kv (e▸hj)) (fun h=>fvd j h hj) (fun e=>pv (e▸hj))
 ·simp only[List.nodup_cons,Ydj,Ydk,not_or,Yem];exact⟨⟨pk,pr,nin p lp pf,pv⟩,⟨kr,nin k lk kf,kv⟩,⟨nin r lr rf,rv⟩,happ.new.once,nv,fun a ha b hb e=>nin b (lv b hb) (fun h=>fvd b h hb) (e▸ha)⟩
 ·intro j hj
  have:=happ.new.lt
  simp only[Ydj,Ydk]at hj;rcases hj with rfl | rfl | rfl | hj | hj
  ·omega
  ·omega
  ·omega
  ·have:=this j hj;omega
  ·have:=lv j hj;omega
 ·refine⟨happ.os.trans (hU.os.trans O5.os),happ.tape.trans (hU.tape.trans O5.tape),happ.output.trans (hU.output.trans O5.output),by omega,fun j hj hn=>?_⟩;rw[hown]at hn;simp only[Ydj,Ydk,not_or]at hn;exact upW j hj hn.2.1 hn.2.2.2.1 hn.1
 ·intro i hi;rw[hown];simp only[Ydj,Ydk]at hi⊢;rcases hi with rfl | rfl | rfl | hi | hi
  ·simp
  ·simp
  ·simp
  ·rcases hsub i hi with h | h
   ·simp[h]
   ·exact .inr h
  ·simp[hi]
end Go.P
