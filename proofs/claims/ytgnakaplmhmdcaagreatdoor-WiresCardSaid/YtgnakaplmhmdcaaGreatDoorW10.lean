import Derived.Test.YtgnakaplmhmdcaaGreatDoorW09
set_option maxRecDepth 100000
set_option maxHeartbeats 8000000
open Go.Proofs Go.RowKit Go.W
namespace Go.P
open Go.RowKit Go.W Go.Shelf
attribute [local go_sem] Yds
theorem Zo6 {w:World}{q p m:Nat}{cs:Array Value}{at_:List Pt}{gs:List Gt}{S:List Nat}{fs:List (ByteArray×Nat)}{vs:List T}{F:List Nat}{xs:List (ByteArray×Nat)}{ov:Value}{Fo:List Nat}(h:Ctx w q p m cs at_ gs S fs vs F xs ov Fo){b v:Nat}(hw:Zm2 w q b v)(h4:at_.length<=4){k s n:Nat}{rest:List Nat}(l0 l1 l2 l3 m0 m1 m2 m3:Nat)(hLs:k=0/\s=l0\/k=1/\s=l1)(hk:k < at_.length)(hs:s < 8)(hn:Za5 s=n::rest)
  (CN: ∀ u,Below w.heap.size w u->Calls Tryz.prog 250 #[.pointer (some ⟨q,0,none⟩),.agg #[.int .u64 (l0:Int),.int .u64 (l1:Int),.int .u64 (l2:Int),.int .u64 (l3:Int)],.int .i64 (k:Int),.int .i64 (n:Int)] u fun e w'=>e= .returned (.tuple #[.agg #[.int .u64 (m0:Int),.int .u64 (m1:Int),.int .u64 (m2:Int),.int .u64 (m3:Int)],.bool true])/\Below u.heap.size u w')
  (CW: ∀ u,Below w.heap.size w u->Calls Tryz.prog 249 #[.int .i64 ((k+1:Nat):Int),.agg #[.int .u64 (m0:Int),.int .u64 (m1:Int),.int .u64 (m2:Int),.int .u64 (m3:Int)],.pointer (some ⟨b,0,none⟩),.pointer (some ⟨v,0,none⟩)] u fun e w'=>e= .returned (.bool true)/\Below u.heap.size u w'):
  Calls Tryz.prog 249 #[.int .i64 (k:Int),.agg #[.int .u64 (l0:Int),.int .u64 (l1:Int),.int .u64 (l2:Int),.int .u64 (l3:Int)],.pointer (some ⟨b,0,none⟩),.pointer (some ⟨v,0,none⟩)] w fun e w'=>e= .returned (.bool true)/\Below w.heap.size w w':=by
 obtain⟨pa,ca,c3,hA⟩:=h.rd.atoms;have q3:=(h.cell 3 (by omega)).trans c3;have hql:=h.bd.blk.lt;have b0:=hw.1.one.1;have hbl:=hw.1.lt;have ne:((k:Int)==(at_.length:Int))=false:=by rw[beq_eq_false_iff_ne];omega
 have hk4:(k:Int) < 4:=by omega
 have HN:=Zaa CN;have HW:=Zaa CW;have HWA:=Zaa hw;have HG:=Zaa h.gl;clear CN CW h hA hw;obtain⟨W3,hW3⟩: ∃ W3,Box (((w.alloc (.cells #[.int .i64 (k:Int)] 3)).alloc (.cells #[.int .u64 (l0:Int),.int .u64 (l1:Int),.int .u64 (l2:Int),.int .u64 (l3:Int)] 338)).alloc (.cells #[.bool false] 4)=W3):=⟨_,⟨rfl⟩⟩;have B3:Box (Below w.heap.size w W3):=⟨hW3.out▸(((Yct _ w).alloc lr _).alloc (by simp) _).alloc (by simp;omega) _⟩;have S3:Box (W3.heap.size=w.heap.size+3):=⟨by rw[<- hW3.out];simp⟩;have L0:Box (Blk W3 w.heap.size #[.int .i64 (k:Int)] 3):=⟨hW3.out▸((Blk.new w _ _).alloc _).alloc _⟩;have L1:Box (Blk W3 (w.heap.size+1) #[.int .u64 (l0:Int),.int .u64 (l1:Int),.int .u64 (l2:Int),.int .u64 (l3:Int)] 338):=⟨hW3.out▸(Zpo w _ _ _).alloc _⟩;have L2:Box (Blk W3 (w.heap.size+1+1) #[.bool false] 4):=⟨hW3.out▸Z1v w _ _ _ _⟩;have y0:=L0.out.one.1;obtain⟨y1,y2,y3,y4,ys⟩:=L1.out.four;have yk:W3.cell? ⟨w.heap.size+1,k,none⟩=some (.int .u64 (s:Int)):=by
  rcases hLs with⟨rfl,rfl⟩ | ⟨rfl,rfl⟩
  ·exact y1
  ·exact y2
 have hmf:=fun(fn:Fn) (first cap:Array Value) (w:World)=>(rfl:(Instr.makeFunc fn first cap).run Tryz.prog w= .ok (.func fn first cap) w);have q3':=(Ycw (a:=⟨q,3,none⟩) (B3.out.block q hql)).trans q3;have b0':=(Ycw (a:=⟨b,0,none⟩) (B3.out.block b hbl)).trans b0;clear q3 b0;refine(callsIn_wide (n:=5)).1 ?_;refine callsIn_of_wp_marks Tryz.func249 rfl trivial ?_ rfl;simp only[Tryz.ntmps249,Yc5,Yc7,Ydb,Nat.reduceAdd,Nat.reduceSub,Ydf,Yde,Ydk,Ydh,Ydg,Ydd];refine wpIn_wide.2 ?_;go_wp2_with fail
 rw[hW3.out];clear hW3;go_quiet (fail)
 go_wp2_with fail
 have eB:=S3.out;have BL:Box (∀ W W',Below w.heap.size w W->Off [W3.heap.size,W3.heap.size+1] W W'->Below w.heap.size w W'):=⟨fun W W' hB k=>hB.trans (k.below (fun i hi=>by simp at hi;omega) hB.size)⟩;have hen: ∀ args w,(callFunc 249 args).run Tryz.prog w= .ok (.enter 249 args) w:=Zak Tryz.func249 (by kernel_rfl) rfl;refine(wpIn_wide (n:=5)).1 ?_;refine Zfp (K:=245) (s:=s) (xs:=Za5 s) (Z:=Z43) rfl (Zak Tryz.func245 (by kernel_rfl) rfl) (Zjv _ s hs) rfl
  (fun pre W=>pre=[]/\Below w.heap.size w W/\Blk W w.heap.size #[.int .i64 (k:Int)] 3/\Blk W (w.heap.size+1) #[.int .u64 (l0:Int),.int .u64 (l1:Int),.int .u64 (l2:Int),.int .u64 (l3:Int)] 338/\Blk W (w.heap.size+1+1) #[.bool false] 4)
  (fun _ W=>Below w.heap.size w W/\Blk W (w.heap.size+1+1) #[.bool true] 4) (fun _ W h=>(HG.out.of (F:=[]) (Off.of h.2.1) fun _ h=>(by cases h)).1) ?_ ?_ ⟨rfl,Zb2 B3.out,L0.out,L1.out,L2.out⟩
  (fun x=>{tmps:=#[.int .i64 (k:Int),.agg #[.int .u64 (l0:Int),.int .u64 (l1:Int),.int .u64 (l2:Int),.int .u64 (l3:Int)],.pointer (some ⟨b,0,none⟩),.pointer (some ⟨v,0,none⟩),.pointer (some ⟨w.heap.size,0,none⟩),.pointer (some ⟨w.heap.size+1,0,none⟩),.pointer (some ⟨w.heap.size+1+1,0,none⟩),.int .i64 (x:Int),undef,undef,.int .i64 (k:Int),.pointer (some ⟨q,0,none⟩),.pointer (some ⟨q,0,none⟩),.pointer (some ⟨q,3,none⟩),.slice pa at_.length ca,.int .i64 (at_.length:Int),.bool false,.int .i64 (k:Int),.pointer (some ⟨w.heap.size+1,k,none⟩),.int .u64 (s:Int),.func (.func 245) #[.int .u64 (s:Int)] #[],.int .i64 (x:Int),undef,undef,undef,undef,undef,undef,undef,undef,undef,undef,undef,undef,undef,undef,undef,undef],defers:=[]}) ?assign ?body ?done ?stop
 ·rintro pre W W' ⟨rfl,hB,b0,b1,b2⟩ k;have nn: ∀ j,j < w.heap.size+3->j∉[W3.heap.size,W3.heap.size+1]:=fun j hj=>by simp;omega
  exact⟨rfl,BL.out W W' hB k,b0.of (k.block _ b0.lt (nn _ (by omega))),b1.of (k.block _ b1.lt (nn _ (by omega))),b2.of (k.block _ b2.lt (nn _ (by omega)))⟩
 ·rintro pre W W' ⟨hB,b2⟩ k;exact⟨BL.out W W' hB k,b2.of (k.block _ b2.lt (by simp;omega))⟩
 case assign=>
  intro l x W K hK;gi_wp2
  exact hK
 case body=>
  rintro l pre x rest' W hx ⟨rfl,hB,b0,b1,b2⟩ hW;rw[hn]at hx;injection hx with hx1 hx2;subst hx1;have HH:=Zaa (Ycs hB (Ycs b0 (Ycs b1 b2)));have bb:=(Ycw (a:=⟨b,0,none⟩) (hB.block b hbl)).trans HWA.out.1.one.1;have z0:=b0.one.1;obtain⟨z1,z2,z3,z4,zs⟩:=b1.four;have C1:=Zaa (HN.out W hB);clear hB b0 b1 b2;gi_wp2
  refine⟨trivial,(CallsIn.inRound l (callsIn_wide.2 C1.out)).mono ?_⟩;rintro e w4 ⟨rfl,hb4⟩;obtain⟨hB,b0,b1,b2⟩:=HH.out;have hB4:Below w.heap.size w w4:=hB.trans (hb4.mono hB.size);have HB4:=Zaa (Ycs hb4 (Ycs hB4 (Ycs (b0.of (hb4.block _ b0.lt)) (Ycs (b1.of (hb4.block _ b1.lt)) (b2.of (hb4.block _ b2.lt))))));have z0': ∀ o,(w4.alloc o).cell? ⟨w.heap.size,0,none⟩=_:=fun o=>(HB4.out.2.2.1.alloc o).one.1;have vv: ∀ o,(w4.alloc o).cell? ⟨v,0,none⟩=_:=fun o=>(Ycw (a:=⟨v,0,none⟩) ((hB4.alloc hB4.size o).block v HWA.out.2.lt)).trans HWA.out.2.one.1;clear hB b0 b1 b2 hb4 hB4;have C2:=Zaa (HW.out (w4.alloc (.cells #[.int .u64 (m0:Int),.int .u64 (m1:Int),.int .u64 (m2:Int),.int .u64 (m3:Int)] 338)) (HB4.out.2.1.alloc HB4.out.2.1.size _));gi_wp2
  rw[show((k+1:Nat):Int)=(k:Int)+1 from rfl]at C2;refine⟨trivial,(CallsIn.inRound l (callsIn_wide.2 C2.out)).mono ?_⟩;rintro e w6 ⟨rfl,hb6⟩;have hb46:Below w4.heap.size w4 w6:=((Yct _ w4).alloc lr _).trans (hb6.mono (by simp));obtain⟨hb4,hB4,b0,b1,b2⟩:=HB4.out;have b6:=b2.of (hb46.block _ b2.lt);have y6:=b6.soft;have y6':=b6.one.1;have K6:=Zaa (Ycs (hB4.trans (hb46.mono hB4.size)) (Ycs b6 (Ycs (hb4.block _ (Nat.lt_of_succ_lt hW)) (Ycs (hb4.block _ hW) (Ycs (hb46.block _ (Ycz (Nat.lt_of_succ_lt hW) hb4.size)) (hb46.block _ (Ycz hW hb4.size)))))));clear hb46 hb4 hB4 b0 b1 b2 b6 hb6;gi_wp2
  obtain⟨k1,k2,k3,k4,k5,k6⟩:=K6.out;have ns: ∀ j,j≠w.heap.size+1+1->(w6.setCell ⟨w.heap.size+1+1,0,none⟩ (.bool true)).heap[j]?=w6.heap[j]?:=fun j hj=>Ycy w6 _ _ j hj;refine⟨⟨(ns _ ?_).trans (k5.trans k3),(ns _ ?_).trans (k6.trans k4)⟩,k1.setCell (by show w.heap.size<=w.heap.size+1+1;omega) _,k2.set 0 _⟩
  ·show W3.heap.size≠_;omega
  ·show W3.heap.size+1≠_;omega
 case done=>
  rintro W ⟨h,_⟩ _;rw[hn]at h;cases h
 case stop=>
  rintro pre W ⟨hB,b2⟩ hD;have c2:=b2.one.1;gi_wp2
  refine⟨by simp,.inl ⟨_,_,rfl,run_takeDeferred hD,?_⟩⟩;have c3:(W.putObj W3.heap.size (.deferred none)).cell? ⟨w.heap.size+1+1,0,none⟩=some (.bool true):=(Ycw (a:=⟨w.heap.size+1+1,0,none⟩) (World.putObj_heap_other (by show w.heap.size+1+1≠_;omega))).trans c2;exact⟨.bool true,by simp[results,Tryz.results249,go_sem,c3],rfl,hB.trans ((Off.putObj (F:=[W3.heap.size]) (.deferred none) (by simp)).below (fun i hi=>by simp at hi;omega) hB.size)⟩
end Go.P
namespace Go.P
open Go.RowKit Go.W Go.Shelf
variable {w:World}{q:Nat}
attribute [local go_sem] Yds
theorem Z23 {p m:Nat}{cs:Array Value}{at_:List Pt}{gs:List Gt}{S:List Nat}{fs:List (ByteArray×Nat)}{vs:List T}{F:List Nat}{xs:List (ByteArray×Nat)}{ov:Value}{Fo:List Nat}(h:Ctx w q p m cs at_ gs S fs vs F xs ov Fo){b v:Nat}(hw:Zm2 w q b v)(h4:at_.length<=4){k s:Nat}(hs0:s=0)(l0 l1 l2 l3:Nat)(hLs:k=0/\s=l0\/k=1/\s=l1)(hk:k < at_.length):
  Calls Tryz.prog 249 #[.int .i64 (k:Int),.agg #[.int .u64 (l0:Int),.int .u64 (l1:Int),.int .u64 (l2:Int),.int .u64 (l3:Int)],.pointer (some ⟨b,0,none⟩),.pointer (some ⟨v,0,none⟩)] w fun e w'=>e= .returned (.bool false)/\Below w.heap.size w w':=by
 have hs:s < 8:=by omega
 have hn:Za5 s=[]:=by rw[hs0];rfl
 obtain⟨pa,ca,c3,hA⟩:=h.rd.atoms;have q3:=(h.cell 3 (by omega)).trans c3;have hql:=h.bd.blk.lt;have b0:=hw.1.one.1;have hbl:=hw.1.lt;have ne:((k:Int)==(at_.length:Int))=false:=by rw[beq_eq_false_iff_ne];omega
 have hk4:(k:Int) < 4:=by omega
 have HG:=Zaa h.gl;clear h hA hw hs0;obtain⟨W3,hW3⟩: ∃ W3,Box (((w.alloc (.cells #[.int .i64 (k:Int)] 3)).alloc (.cells #[.int .u64 (l0:Int),.int .u64 (l1:Int),.int .u64 (l2:Int),.int .u64 (l3:Int)] 338)).alloc (.cells #[.bool false] 4)=W3):=⟨_,⟨rfl⟩⟩;have B3:Box (Below w.heap.size w W3):=⟨hW3.out▸(((Yct _ w).alloc lr _).alloc (by simp) _).alloc (by simp;omega) _⟩;have S3:Box (W3.heap.size=w.heap.size+3):=⟨by rw[<- hW3.out];simp⟩;have L0:Box (Blk W3 w.heap.size #[.int .i64 (k:Int)] 3):=⟨hW3.out▸((Blk.new w _ _).alloc _).alloc _⟩;have L1:Box (Blk W3 (w.heap.size+1) #[.int .u64 (l0:Int),.int .u64 (l1:Int),.int .u64 (l2:Int),.int .u64 (l3:Int)] 338):=⟨hW3.out▸(Zpo w _ _ _).alloc _⟩;have L2:Box (Blk W3 (w.heap.size+1+1) #[.bool false] 4):=⟨hW3.out▸Z1v w _ _ _ _⟩;have y0:=L0.out.one.1;obtain⟨y1,y2,y3,y4,ys⟩:=L1.out.four;have yk:W3.cell? ⟨w.heap.size+1,k,none⟩=some (.int .u64 (s:Int)):=by
  rcases hLs with⟨rfl,rfl⟩ | ⟨rfl,rfl⟩
  ·exact y1
  ·exact y2
 have hmf:=fun(fn:Fn) (first cap:Array Value) (w:World)=>(rfl:(Instr.makeFunc fn first cap).run Tryz.prog w= .ok (.func fn first cap) w);have q3':=(Ycw (a:=⟨q,3,none⟩) (B3.out.block q hql)).trans q3;have b0':=(Ycw (a:=⟨b,0,none⟩) (B3.out.block b hbl)).trans b0;clear q3 b0;refine(callsIn_wide (n:=5)).1 ?_;refine callsIn_of_wp_marks Tryz.func249 rfl trivial ?_ rfl;simp only[Tryz.ntmps249,Yc5,Yc7,Ydb,Nat.reduceAdd,Nat.reduceSub,Ydf,Yde,Ydk,Ydh,Ydg,Ydd];refine wpIn_wide.2 ?_;go_wp2_with fail
 rw[hW3.out];clear hW3;go_quiet (fail)
 go_wp2_with fail
 have eB:=S3.out;have BL:Box (∀ W W',Below w.heap.size w W->Off [W3.heap.size,W3.heap.size+1] W W'->Below w.heap.size w W'):=⟨fun W W' hB k=>hB.trans (k.below (fun i hi=>by simp at hi;omega) hB.size)⟩;have hen: ∀ args w,(callFunc 249 args).run Tryz.prog w= .ok (.enter 249 args) w:=Zak Tryz.func249 (by kernel_rfl) rfl;refine(wpIn_wide (n:=5)).1 ?_;refine Zfp (K:=245) (s:=s) (xs:=Za5 s) (Z:=Z43) rfl (Zak Tryz.func245 (by kernel_rfl) rfl) (Zjv _ s hs) rfl
  (fun _ W=>Below w.heap.size w W/\Blk W w.heap.size #[.int .i64 (k:Int)] 3/\Blk W (w.heap.size+1) #[.int .u64 (l0:Int),.int .u64 (l1:Int),.int .u64 (l2:Int),.int .u64 (l3:Int)] 338/\Blk W (w.heap.size+1+1) #[.bool false] 4)
  (fun _ _=>False) (fun _ W h=>(HG.out.of (F:=[]) (Off.of h.1) fun _ h=>(by cases h)).1) ?_ (fun _ _ _ h _=>h) ⟨Zb2 B3.out,L0.out,L1.out,L2.out⟩
  (fun x=>{tmps:=#[.int .i64 (k:Int),.agg #[.int .u64 (l0:Int),.int .u64 (l1:Int),.int .u64 (l2:Int),.int .u64 (l3:Int)],.pointer (some ⟨b,0,none⟩),.pointer (some ⟨v,0,none⟩),.pointer (some ⟨w.heap.size,0,none⟩),.pointer (some ⟨w.heap.size+1,0,none⟩),.pointer (some ⟨w.heap.size+1+1,0,none⟩),.int .i64 (x:Int),undef,undef,.int .i64 (k:Int),.pointer (some ⟨q,0,none⟩),.pointer (some ⟨q,0,none⟩),.pointer (some ⟨q,3,none⟩),.slice pa at_.length ca,.int .i64 (at_.length:Int),.bool false,.int .i64 (k:Int),.pointer (some ⟨w.heap.size+1,k,none⟩),.int .u64 (s:Int),.func (.func 245) #[.int .u64 (s:Int)] #[],.int .i64 (x:Int),undef,undef,undef,undef,undef,undef,undef,undef,undef,undef,undef,undef,undef,undef,undef,undef],defers:=[]}) ?assign ?body ?done (fun _ _ h _=>h.elim)
 ·rintro pre W W' ⟨hB,b0,b1,b2⟩ k;have nn: ∀ j,j < w.heap.size+3->j∉[W3.heap.size,W3.heap.size+1]:=fun j hj=>by simp;omega
  exact⟨BL.out W W' hB k,b0.of (k.block _ b0.lt (nn _ (by omega))),b1.of (k.block _ b1.lt (nn _ (by omega))),b2.of (k.block _ b2.lt (nn _ (by omega)))⟩
 case assign=>
  intro l x W K hK;gi_wp2
  exact hK
 case body=>
  intro l pre x rest W hx;rw[hn]at hx;simp at hx
 case done=>
  rintro W ⟨hB,b0,b1,b2⟩ hD;have c2:=b2.one.1;have s2:=b2.soft;have HD:=Zaa hD;have HH:=Zaa (Ycs hB b2);clear hB b0 b1 b2 hD;go_wp2_with fail
  refine⟨by simp,.inl ⟨_,_,rfl,run_takeDeferred ((Ycy W _ _ _ (by show W3.heap.size≠w.heap.size+1+1;omega)).trans HD.out),?_⟩⟩;obtain⟨hB,b2⟩:=HH.out;have c3:((W.setCell ⟨w.heap.size+1+1,0,none⟩ (.bool false)).putObj W3.heap.size (.deferred none)).cell? ⟨w.heap.size+1+1,0,none⟩=some (.bool false):=(Ycw (a:=⟨w.heap.size+1+1,0,none⟩) (World.putObj_heap_other (by show w.heap.size+1+1≠_;omega))).trans (b2.set 0 _).one.1;have hB':=hB.setCell (p:=⟨w.heap.size+1+1,0,none⟩) (by show w.heap.size<=w.heap.size+1+1;omega) (.bool false);exact⟨.bool false,by simp[results,Tryz.results249,go_sem,c3],rfl,hB'.trans ((Off.putObj (F:=[W3.heap.size]) (.deferred none) (by simp)).below (fun i hi=>by simp at hi;omega) hB'.size)⟩
theorem Zsu (l0 l1 l2 l3:Nat)(r:Bool)(CW: ∀ u b v,Below w.heap.size w u->Zm2 u q b v->Calls Tryz.prog 249 #[.int .i64 0,.agg #[.int .u64 (l0:Int),.int .u64 (l1:Int),.int .u64 (l2:Int),.int .u64 (l3:Int)],.pointer (some ⟨b,0,none⟩),.pointer (some ⟨v,0,none⟩)] u fun e w'=>e= .returned (.bool r)/\Below u.heap.size u w'):
  Calls Tryz.prog 227 #[.pointer (some ⟨q,0,none⟩),.agg #[.int .u64 (l0:Int),.int .u64 (l1:Int),.int .u64 (l2:Int),.int .u64 (l3:Int)]] w fun e w'=>e= .returned (.bool r)/\Below w.heap.size w w':=by
 have HC:=Zaa CW;clear CW;have hen: ∀ args w,(callFunc 249 args).run Tryz.prog w= .ok (.enter 249 args) w:=Zak Tryz.func249 (by kernel_rfl) rfl;have hmf:=fun(fn:Fn) (first cap:Array Value) (w:World)=>(rfl:(Instr.makeFunc fn first cap).run Tryz.prog w= .ok (.func fn first cap) w);have hst:=fun(a:Addr) (fn:Fn) (first cap:Array Value) (m:Mode) (w:World)=>run_store Tryz.prog w a (.func fn first cap) m rfl;refine calls_of_wp Tryz.func227 rfl ?_;simp only[Tryz.ntmps227,Yc5,Yc7,Ydb,Nat.reduceAdd,Nat.reduceSub,Ydf,Yde,Ydk,Ydh,Ydg,Ydd];go_wp2_with fail
 refine(HC.out _ w.heap.size (w.heap.size+1+1) ((((Yct _ w).alloc lr _).alloc (by simp) _).alloc (by simp;omega) _) ⟨((Blk.new w _ _).alloc _).alloc _,Z1v w _ _ _ _⟩).mono ?_;rintro e w5 ⟨rfl,hb⟩;have hB:Below w.heap.size w w5:=((((Yct _ w).alloc lr _).alloc (by simp) _).alloc (by simp;omega) _).trans (hb.mono (by simp;omega));clear hb;go_wp2_with fail
 exact⟨rfl,_,by simp[results,Tryz.results227,go_sem],rfl,hB⟩
end Go.P
namespace Go.P
variable {b n:Nat}{r:List Nat}
section
variable {w u:World} {q p m:Nat} {cs:Array Value} {at_:List Pt} {x x1:Pt} {gs:List Gt} {S:List Nat} {fs:List (ByteArray×Nat)} {vs:List T} {F:List Nat} {xs:List (ByteArray×Nat)} {ov:Value} {Fo:List Nat}
theorem Zm2.below {v:Nat}(h:Zm2 w q b v)(hb:Below w.heap.size w u):Zm2 u q b v:=⟨h.1.of (hb.block _ h.1.lt),h.2.of (hb.block _ h.2.lt)⟩
theorem Z35 (h:Ctx w q p m cs at_ gs S fs vs F xs ov Fo)(h4:at_.length<=4)(hk:0 < at_.length)(l1 l2 l3:Nat):
  Calls Tryz.prog 227 #[.pointer (some ⟨q,0,none⟩),.agg #[.int .u64 ((0:Nat):Int),.int .u64 (l1:Int),.int .u64 (l2:Int),.int .u64 (l3:Int)]] w fun e w'=>e= .returned (.bool false)/\Below w.heap.size w w':=
 Zsu 0 l1 l2 l3 false fun _ _ _ hb hw=>Z23 (h.below hb) hw h4 (k:=0) rfl 0 l1 l2 l3 (.inl ⟨rfl,rfl⟩) hk
theorem Znn (h:Ctx w q p m cs [x] gs S fs vs F xs ov Fo)(l0 l1 l2 l3:Nat)(hs:l0 < 8)(hn:Za5 l0=n::r):
  Calls Tryz.prog 227 #[.pointer (some ⟨q,0,none⟩),.agg #[.int .u64 (l0:Int),.int .u64 (l1:Int),.int .u64 (l2:Int),.int .u64 (l3:Int)]] w fun e w'=>e= .returned (.bool true)/\Below w.heap.size w w':=
 Zsu l0 l1 l2 l3 true fun _ _ _ hb hw=>Zo6 (h.below hb) hw (by simp) (k:=0) l0 l1 l2 l3 l0 l1 l2 l3 (.inl ⟨rfl,rfl⟩) (by simp) hs hn
  (fun _ hu=>Zkj ((h.below hb).below hu) (by simp) (i:=0) rfl l0 l1 l2 l3) (fun _ hu=>Zza ((h.below hb).below hu) (hw.below hu) l0 l1 l2 l3)
theorem Z2i (h:Ctx w q p m cs [x,x1] gs S fs vs F xs ov Fo)(l0 l1 l2 l3:Nat)(hs:l0 < 8)(h1:l1 < 8){n1:Nat}{r1:List Nat}(hn:Za5 l0=n::r)(cb:cs[12+n*4+1]?=some (.int .u64 (b:Int)))(hb8:b < 8)(hn1:Za5 (l1 &&& b)=n1::r1):
  Calls Tryz.prog 227 #[.pointer (some ⟨q,0,none⟩),.agg #[.int .u64 (l0:Int),.int .u64 (l1:Int),.int .u64 (l2:Int),.int .u64 (l3:Int)]] w fun e w'=>e= .returned (.bool true)/\Below w.heap.size w w':=by
 have hz:l1 &&& b≠0:=fun e=>by rw[e]at hn1;cases hn1
 have h60:n < 60:=Ycz (Zck (by rw[hn];simp)) (by decide);have hs1:l1 &&& b < 8:=Nat.lt_of_le_of_lt Nat.and_le_left h1;refine Zsu l0 l1 l2 l3 true fun u _ _ hb hw=>?_;have hc:=h.below hb;refine Zo6 hc hw (by simp) (k:=0) l0 l1 l2 l3 l0 (l1 &&& b) l2 l3 (.inl ⟨rfl,rfl⟩) (by simp) hs hn (fun _ hu=>Ztc (hc.below hu) h60 cb hb8 l0 l1 l2 l3 h1 hz) fun u' hu=>?_;exact Zo6 (hc.below hu) (hw.below hu) (by simp) (k:=1) l0 (l1 &&& b) l2 l3 l0 (l1 &&& b) l2 l3 (.inr ⟨rfl,rfl⟩) (by simp) hs1 hn1
  (fun _ hu'=>Zkj ((hc.below hu).below hu') (by simp) (i:=1) rfl l0 _ l2 l3) fun _ hu'=>Zza ((hc.below hu).below hu') ((hw.below hu).below hu') l0 _ l2 l3
end
end Go.P
namespace Go.P
variable {w:World}{r:Nat}
theorem Zv2 (hb:w.heap[r]?=some (.map #[] 0))(v:Int):
  (Instr.lookup 391 (.map (some r)) (.int .i64 v) false).run Tryz.prog w= .ok (.int .u64 0) w:=by
 have hz:(zeroValue 336).run Tryz.prog w= .ok (.int .u64 0) w:=by kernel_rfl
 have hck:(Instr.checkKey true 10000 3 (.int .i64 v)).run Tryz.prog w= .ok () w:=by kernel_rfl
 have hfk:(Instr.findKey 3 (.int .i64 v) []).run Tryz.prog w= .ok none w:=by kernel_rfl
 have hgo:=Ydx (P:=Tryz.prog) hb;simp[Instr.lookup,run_underlying Tryz.underlying391,hgo,hfk,hz,hck]
theorem Z1b (hb:w.heap[r]?=some (.map #[] 0))(v:Int)(u:Value):
  (Instr.mapUpdate 391 (.map (some r)) (.int .i64 v) u).run Tryz.prog w= .ok () {w with heap:=w.heap.setIfInBounds r (.map #[{key:= .int .i64 v,val:=u,born:=0}] 1)}:=by
 have hck:(Instr.checkKey false 10000 3 (.int .i64 v)).run Tryz.prog w= .ok () w:=by kernel_rfl
 have hfk:(Instr.findKey 3 (.int .i64 v) []).run Tryz.prog w= .ok none w:=by kernel_rfl
 have hgo:=Ydx (P:=Tryz.prog) hb;have hso:=Go.MapKept.run_setObj_map (P:=Tryz.prog) (.map #[{key:= .int .i64 v,val:=u,born:=0}] 1) hb;simp[Instr.mapUpdate,run_underlying Tryz.underlying391,hgo,hfk,hck,hso]
end Go.P
namespace Go.P
attribute [local go_sem] Yds
theorem Zvm {w:World}{q p m:Nat}{cs:Array Value}{at_:List Pt}{gs:List Gt}{S:List Nat}{fs:List (ByteArray×Nat)}{vs:List T}{F:List Nat}{xs:List (ByteArray×Nat)}{ov:Value}{Fo:List Nat}(h:Ctx w q p m cs at_ gs S fs vs F xs ov Fo){n s:Nat}{fx:ByteArray×Nat}(hf:fs[n]?=some fx)(hs:s < 8)(hn:Za5 s=[n])(a:ByteArray)(i:Nat):
  Calls Tryz.prog 264 #[.pointer (some ⟨q,0,none⟩),.agg #[.string a,.int .i64 (i:Int),.int .i64 0],.int .u64 (s:Int)] w fun e w'=> ∃ r,e= .returned (.map (some r))/\w.heap.size<=r/\w'.heap[r]?=some (.map #[{key:= .int .i64 (fx.2:Int),val:= .int .u64 ((2 ^ n:Nat):Int),born:=0}] 1)/\Below w.heap.size w w':=by
 obtain⟨z,hz⟩: ∃ z:Nat,2 ^ n=z:=⟨_,rfl⟩;rw[hz];have HG:=Zaa h.gl;obtain⟨gf,cf,p0,hpF,hgF,f0,f1,f2,_⟩:=h.fact hf;have q0:=(h.cell 0 (by omega)).trans h.rd.c0;have hql:=h.bd.blk.lt;have hpl:=h.wd.lt p hpF;have hgl:=h.wd.lt gf hgF;have hn3:n=0\/n=1\/n=2:=by have:=Zck (s:=s) (n:=n) (by rw[hn];simp);omega
 have hnl:(n:Int) < (fs.length:Int):=by have:=(Yc3.1 hf).1;omega
 clear h f0 f1;refine(callsIn_wide (n:=5)).1 ?_;refine callsIn_of_wp_marks Tryz.func264 rfl trivial ?_ rfl;simp only[Tryz.ntmps264,Yc5,Yc7,Ydb,Nat.reduceAdd,Nat.reduceSub,Ydf,Yde,Ydk,Ydh,Ydg,Ydd];refine wpIn_wide.2 ?_;have hmk: ∀ w,(Instr.makeMap 391 none).run Tryz.prog w= .ok (.map (some w.heap.size)) (w.alloc (.map #[] 0)):=fun w=>by kernel_rfl
 obtain⟨W4,hW4⟩: ∃ W4,Box ((((w.alloc (.cells #[.pointer (some ⟨q,0,none⟩)] 327)).alloc (.cells #[.string a,.int .i64 (i:Int),.int .i64 0] 384)).alloc (.map #[] 0)).alloc (.cells #[.map (some (w.heap.size+1+1))] 391)=W4):=⟨_,⟨rfl⟩⟩;have B4:Box (Below w.heap.size w W4):=⟨hW4.out▸((((Yct _ w).alloc lr _).alloc (by simp) _).alloc (by simp;omega) _).alloc (by simp;omega) _⟩;have S4:Box (W4.heap.size=w.heap.size+4):=⟨by rw[<- hW4.out];simp⟩;have L0:Box (Blk W4 w.heap.size #[.pointer (some ⟨q,0,none⟩)] 327):=⟨hW4.out▸(((Blk.new w _ _).alloc _).alloc _).alloc _⟩;have L1:Box (Blk W4 (w.heap.size+1) #[.string a,.int .i64 (i:Int),.int .i64 0] 384):=⟨hW4.out▸((Zpo w _ _ _).alloc _).alloc _⟩;have L2:Box (W4.heap[w.heap.size+1+1]?=some (.map #[] 0)):=⟨by rw[<- hW4.out];exact(Ycx _ _ _ (by simp)).trans (by have:=World.alloc_heap_new ((w.alloc (.cells #[.pointer (some ⟨q,0,none⟩)] 327)).alloc (.cells #[.string a,.int .i64 (i:Int),.int .i64 0] 384)) (.map #[] 0);rwa [Yc4,Yc4]at this)⟩;have L3:Box (Blk W4 (w.heap.size+1+1+1) #[.map (some (w.heap.size+1+1))] 391):=⟨by
  have:=Blk.new (((w.alloc (.cells #[.pointer (some ⟨q,0,none⟩)] 327)).alloc (.cells #[.string a,.int .i64 (i:Int),.int .i64 0] 384)).alloc (.map #[] 0)) #[.map (some (w.heap.size+1+1))] 391
  rw[hW4.out]at this;simpa using this⟩
 have hmf:=fun(fn:Fn) (first cap:Array Value) (w:World)=>(rfl:(Instr.makeFunc fn first cap).run Tryz.prog w= .ok (.func fn first cap) w);go_wp2_with fail
 rw[hW4.out];clear hW4;have e4:=S4.out;refine(wpIn_wide (n:=5)).1 ?_;refine Zfp (K:=245) (s:=s) (xs:=Za5 s) (Z:=Z43) rfl (Zak Tryz.func245 (by kernel_rfl) rfl) (Zjv _ s hs) rfl
  (fun pre W=>Below w.heap.size w W/\Blk W w.heap.size #[.pointer (some ⟨q,0,none⟩)] 327/\Blk W (w.heap.size+1) #[.string a,.int .i64 (i:Int),.int .i64 0] 384/\Blk W (w.heap.size+1+1+1) #[.map (some (w.heap.size+1+1))] 391/\W.heap[w.heap.size+1+1]?=some (if pre=[]then .map #[] 0 else .map #[{key:= .int .i64 (fx.2:Int),val:= .int .u64 (z:Int),born:=0}] 1))
  (fun _ _=>False) (fun _ W h=>(HG.out.of (F:=[]) (Off.of h.1) fun _ h=>(by cases h)).1) ?_ (fun _ _ _ h _=>h) ⟨B4.out,L0.out,L1.out,L3.out,L2.out⟩
  (fun x=>{tmps:=#[.pointer (some ⟨q,0,none⟩),.agg #[.string a,.int .i64 (i:Int),.int .i64 0],.int .u64 (s:Int),.pointer (some ⟨w.heap.size,0,none⟩),.pointer (some ⟨w.heap.size+1,0,none⟩),undef,.map none,.pointer (some ⟨w.heap.size+1+1+1,0,none⟩),.int .i64 (x:Int),.map (some (w.heap.size+1+1)),.int .u64 (s:Int),.func (.func 245) #[.int .u64 (s:Int)] #[],.int .i64 (x:Int),undef,undef,undef,undef,undef,undef,undef,undef,undef,undef,undef,undef,undef,undef,undef,undef,undef,undef,undef,undef],defers:=[]}) ?assign ?body ?done (fun _ _ h _=>h.elim)
 ·rintro pre W W' ⟨hB,b0,b1,b3,b2⟩ k;have nn: ∀ j,j < w.heap.size+4->j∉[W4.heap.size,W4.heap.size+1]:=fun j hj=>by simp;omega
  exact⟨hB.trans (k.below (fun i hi=>by simp at hi;omega) hB.size),b0.of (k.block _ b0.lt (nn _ (by omega))),b1.of (k.block _ b1.lt (nn _ (by omega))),b3.of (k.block _ b3.lt (nn _ (by omega))),(k.block _ (Nat.lt_of_succ_lt b3.lt) (nn _ (by omega))).trans b2⟩
 case assign=>
  intro l x W K hK;gi_wp2
  exact hK
 case body=>
  rintro l pre x rest W hx ⟨hB,b0,b1,b3,b2⟩ hW;rw[hn]at hx;obtain⟨rfl,rfl,rfl⟩:pre=[]/\n=x/\rest=[]:=by
   cases pre with
   | nil=>simp at hx;exact⟨rfl,hx.1,hx.2⟩
   | cons y l=>simp at hx
  rw[if_pos rfl]at b2;have hS0:W.drew.cell? ⟨w.heap.size,0,none⟩=some (.pointer (some ⟨q,0,none⟩))/\W.drew.cell? ⟨w.heap.size+1,2,none⟩=some (.int .i64 0)/\W.drew.cell? ⟨w.heap.size+1+1+1,0,none⟩=some (.map (some (w.heap.size+1+1)))/\W.drew.cell? ⟨q,0,none⟩=some (.pointer (some ⟨p,0,none⟩))/\W.drew.cell? ⟨p,0,none⟩=some (.slice (some ⟨gf,0,none⟩) fs.length cf)/\W.drew.cell? ⟨gf,n*8+2,none⟩=some (.int .i64 (fx.2:Int)):=⟨b0.one.1,b1.three.2.2.1,b3.one.1,(Ycw (a:=⟨q,0,none⟩) (hB.block q hql)).trans q0,(Ycw (a:=⟨p,0,none⟩) (hB.block p hpl)).trans p0,(Ycw (a:=⟨gf,n*8+2,none⟩) (hB.block gf hgl)).trans f2⟩;have hup:=Z1b (w:=W.drew) b2 (fx.2:Int) (.int .u64 (z:Int));have hlk:=Zv2 (w:=W.drew) b2 (fx.2:Int);have hor:bits BinOp.or IntKind.u64 0 (z:Int)=(z:Int):=by subst hz;rcases hn3 with rfl | rfl | rfl <;> rfl
  have HH:=Zaa (Ycs hB (Ycs b0 (Ycs b1 (Ycs b3 b2))));clear hB b0 b1 b3 b2;have hmx:Tryz.prog.follows .mixedOrders=true:=by kernel_rfl
  gi_wp2
  refine Zdu (fun u=>u.cell? ⟨w.heap.size,0,none⟩=some (.pointer (some ⟨q,0,none⟩))/\u.cell? ⟨w.heap.size+1,2,none⟩=some (.int .i64 0)/\u.cell? ⟨w.heap.size+1+1+1,0,none⟩=some (.map (some (w.heap.size+1+1)))/\u.cell? ⟨q,0,none⟩=some (.pointer (some ⟨p,0,none⟩))/\u.cell? ⟨p,0,none⟩=some (.slice (some ⟨gf,0,none⟩) fs.length cf)/\u.cell? ⟨gf,n*8+2,none⟩=some (.int .i64 (fx.2:Int))) hmx (fun⟨_,_,h⟩=>h) (by kernel_rfl) ?_;refine tk 0 (.map (some (w.heap.size+1+1))) hS0 (hy:=fun u hS=>by obtain⟨s0,s1,s2,s3,s4,s5⟩:=hS;go_simp) (h:=?_);try simp only[zz]
  refine tk 1 (.pointer (some ⟨q,0,none⟩)) hS0 (hy:=fun u hS=>by obtain⟨s0,s1,s2,s3,s4,s5⟩:=hS;go_simp) (h:=?_);try simp only[zz]
  refine tk 2 (.pointer (some ⟨q,0,none⟩)) hS0 (hy:=fun u hS=>by go_simp) (h:=?_);try simp only[zz]
  refine tk 3 (.pointer (some ⟨q,0,none⟩)) hS0 (hy:=fun u hS=>by go_simp) (h:=?_);try simp only[zz]
  refine tk 4 (.pointer (some ⟨p,0,none⟩)) hS0 (hy:=fun u hS=>by obtain⟨s0,s1,s2,s3,s4,s5⟩:=hS;go_simp) (h:=?_);try simp only[zz]
  refine tk 5 (.pointer (some ⟨p,0,none⟩)) hS0 (hy:=fun u hS=>by go_simp) (h:=?_);try simp only[zz]
  refine tk 6 (.pointer (some ⟨p,0,none⟩)) hS0 (hy:=fun u hS=>by go_simp) (h:=?_);try simp only[zz]
  refine tk 7 (.slice (some ⟨gf,0,none⟩) fs.length cf) hS0 (hy:=fun u hS=>by obtain⟨s0,s1,s2,s3,s4,s5⟩:=hS;go_simp) (h:=?_);try simp only[zz]
  refine tk 8 (.int .i64 (n:Int)) hS0 (hy:=fun u hS=>by go_simp) (h:=?_);try simp only[zz]
  refine tk 9 (.pointer (some ⟨w.heap.size+1,2,none⟩)) hS0 (hy:=fun u hS=>by go_simp) (h:=?_);try simp only[zz]
  refine tk 10 (.int .i64 0) hS0 (hy:=fun u hS=>by obtain⟨s0,s1,s2,s3,s4,s5⟩:=hS;go_simp) (h:=?_);try simp only[zz]
  refine tk 11 (.pointer (some ⟨gf,n*8,none⟩)) hS0 (hy:=fun u hS=>by go_simp) (h:=?_);try simp only[zz]
  refine tk 12 (.pointer (some ⟨gf,n*8+2,none⟩)) hS0 (hy:=fun u hS=>by go_simp) (h:=?_);try simp only[zz]
  refine tk 13 (.pointer (some ⟨gf,n*8+2,none⟩)) hS0 (hy:=fun u hS=>by go_simp) (h:=?_);try simp only[zz]
  refine tk 14 (.int .i64 (fx.2:Int)) hS0 (hy:=fun u hS=>by obtain⟨s0,s1,s2,s3,s4,s5⟩:=hS;go_simp) (h:=?_);try simp only[zz]
  refine tk 16 (.int .i64 (n:Int)) hS0 (hy:=fun u hS=>by go_simp) (h:=?_);try simp only[zz]
  refine tk 17 (.int .u64 (z:Int)) hS0 (hy:=fun u hS=>by subst hz;rcases hn3 with rfl | rfl | rfl <;> (go_simp;rfl)) (h:=?_);try simp only[zz]
  refine wpAnyH_ready (rs:=[15]) (by kernel_rfl) (by simp) (Yc9 rfl (fun K' hK'=>?_) Ydc);go_simp;refine hK'.out _ _ hS0 fun _=>?_;try simp only[zz]
  refine tk 18 (.int .u64 (z:Int)) hS0 (hy:=fun u hS=>by go_simp) (h:=?_);try simp only[zz]
  refine wpAnyH_ready (rs:=[19]) (by kernel_rfl) (by simp) (Yc9 rfl (fun K' hK'=>?_) Ydc);go_simp;obtain⟨U,hU⟩: ∃ U,{W.drew with heap:=W.drew.heap.setIfInBounds (w.heap.size+1+1) (.map #[{key:= .int .i64 (fx.2:Int),val:= .int .u64 (z:Int),born:=0}] 1)}=U:=⟨_,rfl⟩;have nb: ∀ j,j≠w.heap.size+1+1->U.heap[j]?=W.heap[j]?:=fun j hj=>by rw[<- hU];exact Array.getElem?_setIfInBounds_ne (Ne.symm hj)
  obtain⟨hB,b0,b1,b3,b2⟩:=HH.out;have l2:w.heap.size+1+1 < W.heap.size:=Nat.lt_of_succ_lt b3.lt;have nm:U.heap[w.heap.size+1+1]?=some (.map #[{key:= .int .i64 (fx.2:Int),val:= .int .u64 (z:Int),born:=0}] 1):=by rw[<- hU];exact Array.getElem?_setIfInBounds_self_of_lt l2
  have hBU:Below w.heap.size w U:=hB.trans ⟨by rw[<- hU];rfl,by rw[<- hU];rfl,by rw[<- hU];rfl,by rw[<- hU];simp,fun k hk=>nb k (by omega)⟩;have hS1:=Ycs (b0.of (nb _ (by omega))).one.1 (Ycs (b1.of (nb _ (by omega))).three.2.2.1 (Ycs (b3.of (nb _ (by omega))).one.1 (Ycs ((Ycw (a:=⟨q,0,none⟩) (hBU.block q hql)).trans q0) (Ycs ((Ycw (a:=⟨p,0,none⟩) (hBU.block p hpl)).trans p0) ((Ycw (a:=⟨gf,n*8+2,none⟩) (hBU.block gf hgl)).trans f2)))));subst hU;refine hK'.out _ _ hS1 fun _=>?_;refine wpAnyH_done (by kernel_rfl) ?_ _;refine⟨⟨nb _ ?_,nb _ ?_⟩,hBU,b0.of (nb _ (by omega)),b1.of (nb _ (by omega)),b3.of (nb _ (by omega)),by rw[if_neg (by simp)];exact nm⟩
  ·show W4.heap.size≠_;omega
  ·show W4.heap.size+1≠_;omega
 case done=>
  rintro W ⟨hB,b0,b1,b3,b2⟩ hD;rw[hn,if_neg (by simp)]at b2;have c3:=b3.one.1;go_wp2_with fail
  refine⟨by simp,.inl ⟨_,_,rfl,run_takeDeferred hD,?_⟩⟩;exact⟨.map (some (w.heap.size+1+1)),by simp[results,Tryz.results264,go_sem],w.heap.size+1+1,rfl,by omega,(World.putObj_heap_other (by show w.heap.size+1+1≠_;omega)).trans b2,hB.trans ((Off.putObj (F:=[W4.heap.size]) (.deferred none) (by simp)).below (fun i hi=>by simp at hi;omega) hB.size)⟩
end Go.P
namespace Go.P
variable {w:World}{q b v:Nat}
def Zjb (w:World) (q b v:Nat):Prop:=Blk w b #[.pointer (some ⟨q,0,none⟩)] 327/\Blk w v #[.func (.func 263) #[] #[.pointer (some ⟨b,0,none⟩),.pointer (some ⟨v,0,none⟩)]] 372
theorem Zjb.below {u:World}(h:Zjb w q b v)(hb:Below w.heap.size w u):Zjb u q b v:=⟨h.1.of (hb.block _ h.1.lt),h.2.of (hb.block _ h.2.lt)⟩
theorem Z4t (hw:Zjb w q b v)(k l0 l1 l2 l3:Nat)(CH: ∀ u,Below w.heap.size w u->Calls Tryz.prog 227 #[.pointer (some ⟨q,0,none⟩),.agg #[.int .u64 (l0:Int),.int .u64 (l1:Int),.int .u64 (l2:Int),.int .u64 (l3:Int)]] u fun e w'=>e= .returned (.bool false)/\Below u.heap.size u w'):
  Calls Tryz.prog 263 #[.int .i64 (k:Int),.agg #[.int .u64 (l0:Int),.int .u64 (l1:Int),.int .u64 (l2:Int),.int .u64 (l3:Int)],.pointer (some ⟨b,0,none⟩),.pointer (some ⟨v,0,none⟩)] w fun e w'=>e= .returned (.bool true)/\Below w.heap.size w w':=by
 have c0: ∀ o,(w.alloc o).cell? ⟨b,0,none⟩=_:=fun o=>(hw.1.alloc o).one.1;have HC:=Zaa (fun o=>CH (w.alloc o) ((Yct _ w).alloc lr o));clear CH hw;refine calls_of_wp Tryz.func263 rfl ?_;simp only[Tryz.ntmps263,Yc5,Yc7,Ydb,Nat.reduceAdd,Nat.reduceSub,Ydf,Yde,Ydk,Ydh,Ydg,Ydd];go_wp2_with fail
 refine(HC.out _).mono ?_;rintro e w5 ⟨rfl,hb⟩;have hB:Below w.heap.size w w5:=((Yct _ w).alloc lr _).trans (hb.mono (by simp));clear hb;go_wp2_with fail
 exact⟨rfl,_,by simp[results,Tryz.results263,go_sem],rfl,hB⟩
theorem Z2y (l0 l1 l2 l3:Nat)(r:Bool)(R:World->World->Prop)(CW: ∀ u b v,Below w.heap.size w u->w.heap.size<=b->w.heap.size<=v->Zjb u q b v->Calls Tryz.prog 263 #[.int .i64 0,.agg #[.int .u64 (l0:Int),.int .u64 (l1:Int),.int .u64 (l2:Int),.int .u64 (l3:Int)],.pointer (some ⟨b,0,none⟩),.pointer (some ⟨v,0,none⟩)] u fun e w'=>e= .returned (.bool r)/\R u w')(hR: ∀ u w',Below w.heap.size w u->R u w'->R w w'):
  Calls Tryz.prog 247 #[.pointer (some ⟨q,0,none⟩),.agg #[.int .u64 (l0:Int),.int .u64 (l1:Int),.int .u64 (l2:Int),.int .u64 (l3:Int)]] w fun e w'=>e= .returned (.bool r)/\R w w':=by
 have HC:=Zaa CW;clear CW;have hen: ∀ args w,(callFunc 263 args).run Tryz.prog w= .ok (.enter 263 args) w:=Zak Tryz.func263 (by kernel_rfl) rfl;have hmf:=fun(fn:Fn) (first cap:Array Value) (w:World)=>(rfl:(Instr.makeFunc fn first cap).run Tryz.prog w= .ok (.func fn first cap) w);have hst:=fun(a:Addr) (fn:Fn) (first cap:Array Value) (m:Mode) (w:World)=>run_store Tryz.prog w a (.func fn first cap) m rfl;refine calls_of_wp Tryz.func247 rfl ?_;simp only[Tryz.ntmps247,Yc5,Yc7,Ydb,Nat.reduceAdd,Nat.reduceSub,Ydf,Yde,Ydk,Ydh,Ydg,Ydd];go_wp2_with fail
 refine(HC.out _ w.heap.size (w.heap.size+1+1) ((((Yct _ w).alloc lr _).alloc (by simp) _).alloc (by simp;omega) _) lr (by omega) ⟨((Blk.new w _ _).alloc _).alloc _,Z1v w _ _ _ _⟩).mono ?_;rintro e w5 ⟨rfl,hb⟩;have hB:=hR _ _ ((((Yct _ w).alloc lr _).alloc (by simp) _).alloc (by simp;omega) _) hb;clear hb;go_wp2_with fail
 exact⟨rfl,_,by simp[results,Tryz.results247,go_sem],rfl,hB⟩
end Go.P
namespace Go.W
theorem Zep.lt {w:World}{r:Nat}{fs:List (ByteArray×Nat)}(h:Zep w r fs):r < w.heap.size:=by
 obtain⟨es,c,h,_⟩:=h;exact(Yc6.1 h).1
end Go.W
namespace Go.P
theorem Wd.appF {w4 W5 U w6 W:World}{p:Nat}{fs:List (ByteArray×Nat)}{vs:List T}{F:List Nat}{k r:Nat}{fv vv:Value}{Ff Fv F6:List Nat}{x:ByteArray×Nat}{g6 cap6:Nat}(D4:Wd w4 p fs vs F k r fv vv Ff Fv)(O5:Off [k] w4 W5)(HNM:Zep W5 k (fs++[x]))(hU:Off [] W5 U)(happ:Zsv 318 8 Zka 0 U w6 fs Ff [] x g6 cap6 F6)(hW:W=w6.setCell ⟨p,0,none⟩ (.slice (some ⟨g6,0,none⟩) (fs.length+1) cap6)):
  ∃ F',Zdv W p (fs++[x]) vs F'/\Off F w4 W/\ ∀ i,i∈F'->i∈F\/w4.heap.size<=i:=by
 subst hW;obtain⟨⟨pk,pr,pf,pv⟩,⟨kr,kf,kv⟩,⟨rf,rv⟩,nf,nv,fvd⟩:=D4.apart;have hown:=D4.own;have hltF:=D4.new.lt;rw[hown]at hltF;have s5:=O5.size;have sU:=hU.size;have s6:=happ.size;have up: ∀ j,j < w4.heap.size->j≠k->j∉Ff->w6.heap[j]?=w4.heap[j]?:=fun j hj hr hv=>(happ.same j (by omega) hv).trans ((hU.block j (by omega) (by simp)).trans (O5.block j hj (by simpa using hr)));have hsub: ∀ j,j∈F6->j∈Ff\/w4.heap.size<=j:=fun j hj=>by
  rcases happ.sub j hj with h | h | h
  ·exact .inl h
  ·cases h
  ·exact .inr (by omega)
 have nin: ∀ j,j < w4.heap.size->j∉Ff->j∉F6:=fun j hj hn hF=>(hsub j hF).elim hn (by omega);have lp:=hltF p (by simp);have lk:=hltF k (by simp);have lr:=hltF r (by simp);have lv: ∀ j,j∈Fv->j < w4.heap.size:=fun j hj=>hltF j (by simp[hj]);have upW: ∀ j,j < w4.heap.size->j≠k->j∉Ff->j≠p->(w6.setCell ⟨p,0,none⟩ (.slice (some ⟨g6,0,none⟩) (fs.length+1) cap6)).heap[j]?=w4.heap[j]?:=fun j hj hr hv hp=>(Ycy w6 ⟨p,0,none⟩ _ j hp).trans (up j hj hr hv);have hkW:(w6.setCell ⟨p,0,none⟩ (.slice (some ⟨g6,0,none⟩) (fs.length+1) cap6)).heap[k]?=W5.heap[k]?:=(Ycy w6 ⟨p,0,none⟩ _ k (Ne.symm pk)).trans ((happ.same k (by omega) kf).trans (hU.block k (by omega) (by simp)));have hs:(w6.setCell ⟨p,0,none⟩ (.slice (some ⟨g6,0,none⟩) (fs.length+1) cap6)).heap.size=w6.heap.size:=by simp[World.setCell]
 refine⟨p::k::r::(F6++Fv),⟨k,r,.slice (some ⟨g6,0,none⟩) (fs.length+1) cap6,vv,F6,Fv,?_,?_,?_,HNM.of hkW,D4.num.of (upW r lr (Ne.symm kr) rf (Ne.symm pr)),rfl,?_,fun _ _=>Yd1 _,?_⟩,?_,?_⟩
 ·exact(D4.blk.of (up p lp pk pf)).set 0 _
 ·exact Zag.stable Zka.stable _ _ _ _ _ happ.row fun j hj=>Ycy _ _ _ _ (fun e=>nin p lp pf (by rw[show p=j from e.symm];exact hj))
 ·exact Zag.stable Zqs.stable _ _ _ _ _ D4.vals fun j hj=>upW j (lv j hj) (fun e=>kv (e▸hj)) (fun h=>fvd j h hj) (fun e=>pv (e▸hj))
 ·simp only[List.nodup_cons,Yc1,Yc2,not_or,Yd4];exact⟨⟨pk,pr,nin p lp pf,pv⟩,⟨kr,nin k lk kf,kv⟩,⟨nin r lr rf,rv⟩,happ.new.once,nv,fun a ha b hb e=>nin b (lv b hb) (fun h=>fvd b h hb) (e▸ha)⟩
 ·intro j hj
  have:=happ.new.lt
  simp only[Yc1,Yc2]at hj;rcases hj with rfl | rfl | rfl | hj | hj
  ·omega
  ·omega
  ·omega
  ·have:=this j hj;omega
  ·have:=lv j hj;omega
 ·refine⟨happ.os.trans (hU.os.trans O5.os),happ.tape.trans (hU.tape.trans O5.tape),happ.output.trans (hU.output.trans O5.output),by omega,fun j hj hn=>?_⟩;rw[hown]at hn;simp only[Yc1,Yc2,not_or]at hn;exact upW j hj hn.2.1 hn.2.2.2.1 hn.1
 ·intro i hi;rw[hown];simp only[Yc1,Yc2]at hi⊢;rcases hi with rfl | rfl | rfl | hi | hi
  ·simp
  ·simp
  ·simp
  ·rcases hsub i hi with h | h
   ·simp[h]
   ·exact .inr h
  ·simp[hi]
end Go.P
