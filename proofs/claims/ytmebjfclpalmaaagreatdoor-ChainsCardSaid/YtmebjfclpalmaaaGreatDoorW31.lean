import Derived.Test.YtmebjfclpalmaaaGreatDoorW16
set_option maxRecDepth 100000
set_option maxHeartbeats 8000000
set_option linter.unusedSimpArgs false
open Go.Proofs Go.RowKit Go.W Tryz
namespace Go.P
theorem Zxm {w:World}{p:Nat}{fs:List (ByteArray×Nat)}{vs:List T}{F:List Nat}(h:Zd3 w p fs vs F){B D:Nat}{tv:List Value}{x:T}(hS:Zc2 B w D tv x)(hB:B<=w.heap.size)(hok:Zau 0 x=0)(hl:vs.length < 1000):
  Calls prog 261 #[.pointer (some ⟨p,0,none⟩),.agg tv.toArray] w fun e w'=>e= .returned (.int .i64 (Ybq vs x:Int))/\ ∃ F',Zd3 w' p fs (Z9o vs x) F'/\Off F w w'/\ ∀ i,i∈F'->i∈F\/w.heap.size<=i:=by
 have hpb:=Zja hok;have hp1:0 < (Zed x).size:=by rw[Zw2,Zae,Zco];omega
 obtain⟨k,r,fv,vv,Ff,Fv,hw⟩:=h;obtain⟨pv,cv,rfl⟩:=hw.vals.form;obtain⟨W1,hW1⟩: ∃ W1,Box (w.alloc (.cells tv.toArray 117)=W1):=⟨_,⟨rfl⟩⟩;have S1:Box (W1.heap.size=w.heap.size+1):=⟨by rw[<- hW1.out];simp⟩;have B1:Box (Below w.heap.size w W1):=⟨hW1.out▸(Ydb _ w).alloc lr _⟩;have CT:=Zaa (Zko 0 (by omega) (show Bld 142 W1.heap.size W1.heap.size ByteArray.empty (W1.alloc (.cells #[.pointer none,.slice none 0 0] 142))from Lib.fresh_isBuilder 142 5 W1) (by simp) (Zc2.carry (Zc2.carry (Zc2.carry hS (Za4 B1.out hB)) (Zc1.up (Ydc hB B1.out.size))) (Zfj _ lr)) hok (by simp;omega));have L0:Box (Blk W1 w.heap.size tv.toArray 117):=⟨hW1.out▸Blk.new w _ _⟩;obtain⟨pl,cl,rfl,ht,hk1,hk2,hlc,hrow⟩:=hS;have hfix:=S1.out;clear hrow hlc;go_in
 clear hfix;go_wp2_with fail
 rw[hW1.out];rw[S1.out]at CT;refine CT.out.mono ?_;rintro e w2 ⟨rfl,hb2,hf2⟩;rw[show ByteArray.empty++Zed x=Zed x by simp]at hb2;have HT:=Zaa (Txt.of hb2 (by omega) hp1);have HB:=Zaa ((B1.out.alloc B1.out.size _).trans (hf2.below.mono (Yet _)));have L2:=Zaa (hf2.blk (L:=w.heap.size) (L0.out.alloc _) (by omega) (by decide));obtain⟨t0,t1,t2,t3,ts⟩:=L2.out.four;have D2:=Zaa (hw.below HB.out);obtain⟨p0,p1,p2,p3,ps⟩:=D2.out.blk.four;clear hb2 hf2 CT;obtain⟨pb,LK⟩: ∃ pb,Box (Zjq (Zed x) (vs.map Zed) 0=pb):=⟨_,⟨rfl⟩⟩;have NN:Box (Ybq vs x=pb.getD vs.length):=⟨by unfold Ybq;rw[LK.out]⟩;have NV:Box (Z9o vs x=if pb.isSome then vs else vs++[x]):=⟨by unfold Z9o;rw[LK.out]⟩;have LU:=Zaa (fun u (hu:Zgw u r (vs.map Zed))=>by have:=Z0t hu (Zed x);rw[LK.out]at this;exact this);cases pb with
 | some j=>
  simp only[Option.getD_some,Option.isSome_some,if_true]at NN NV LU;go_wp2
  go_region_with (go_at_call 64;refine(Zlz (w:=w2.drew) HT.out).mono ?_;rintro e w3 ⟨rfl,ht3,hb3⟩;have D3:=Zaa (hw.below (HB.out.drew.trans (hb3.mono (Yet _))));obtain⟨q0,q1,q2,q3,qs⟩:=D3.out.blk.four;have hlk:=LU.out _ D3.out.num)
  all_goals
   go_wp2
   go_ret
   rw[NN.out,NV.out];exact⟨rfl,F,⟨k,r,fv,_,Ff,Fv,D3.out⟩,Off.of (HB.out.drew.trans (hb3.mono (Yet _))),fun _ h=> .inl h⟩
 | none=>
  simp only[Option.getD_none,Option.isSome_none]at NN NV LU;replace NV:Box (Z9o vs x=vs++[x]):=⟨NV.out⟩
  have UP:=Zaa (fun u (hu:Zgw u r (vs.map Zed))=>by have:=Z1r hu (Zed x) LK.out;rw[Yeo]at this;exact this);go_wp2_with fail
  obtain⟨K3,hK3⟩: ∃ K3:Act->World->Prop,Box (∀ a' w3,K3 a' w3↔(a'={tmps:=#[.pointer (some ⟨p,0,none⟩),.agg #[.int .i64 x.k,.int .i64 x.i,.string x.t,.slice pl x.l.length cl],undef,.pointer (some ⟨w.heap.size,0,none⟩),.int .i64 0,.pointer (some ⟨w.heap.size+1,0,none⟩),.int .i64 0,.bool false,.agg #[.int .i64 x.k,.int .i64 x.i,.string x.t,.slice pl x.l.length cl],.tuple #[],.tuple #[.int .i64 0,.bool false],.pointer (some ⟨p,0,none⟩),.pointer (some ⟨p,0,none⟩),.pointer (some ⟨p,3,none⟩),.map (some r),.pointer (some ⟨w.heap.size+1,0,none⟩),.string (Zed x),.tuple #[.int .i64 0,.bool false],.int .i64 0,.bool false,undef,undef,undef,undef,undef,undef,undef,undef,undef,undef,undef,undef,undef,undef,undef,undef,undef,undef,undef,undef,undef,undef,undef,undef,undef,undef],defers:=[]}/\Below (w.heap.size+1) w2.drew w3/\Txt (w.heap.size+1) (w.heap.size+1) (Zed x) w3)):=⟨_,⟨fun _ _=>Iff.rfl⟩⟩;refine Zzj K3 ?_ ?_
  ·go_region_with (go_at_call 64;refine(Zlz (w:=w2.drew) HT.out).mono ?_;rintro e w3 ⟨rfl,ht3,hb3⟩;have D3:=Zaa (hw.below (HB.out.drew.trans (hb3.mono (Yet _))));obtain⟨q0,q1,q2,q3,qs⟩:=D3.out.blk.four;have hlk:=LU.out _ D3.out.num)
   all_goals exact(hK3.out _ _).2 ⟨rfl,hb3,ht3⟩
  intro a' w3 h3;obtain⟨rfl,hb3,ht3⟩:=(hK3.out _ _).1 h3;clear h3 hK3 K3;have HB3:=Zaa (HB.out.drew.trans (hb3.mono (Yet _)));have HT3:=Zaa ht3;have D3:=Zaa (hw.below HB3.out);obtain⟨q0,q1,q2,q3,qs⟩:=D3.out.blk.four;have L3:=Zaa (L2.out.of (hb3.block w.heap.size (Nat.lt_succ_self _)));clear ht3 p0 p1 p2 p3 ps hb3 t0 t1 t2 t3 ts;go_wp2_with fail
  obtain⟨K3,hK3⟩: ∃ K3:Act->World->Prop,Box (∀ a' W5,K3 a' W5↔(a'={tmps:=#[.pointer (some ⟨p,0,none⟩),.agg #[.int .i64 x.k,.int .i64 x.i,.string x.t,.slice pl x.l.length cl],undef,.pointer (some ⟨w.heap.size,0,none⟩),.int .i64 0,.pointer (some ⟨w.heap.size+1,0,none⟩),.int .i64 (vs.length:Int),.bool false,.agg #[.int .i64 x.k,.int .i64 x.i,.string x.t,.slice pl x.l.length cl],.tuple #[],.tuple #[.int .i64 0,.bool false],.pointer (some ⟨p,0,none⟩),.pointer (some ⟨p,0,none⟩),.pointer (some ⟨p,3,none⟩),.map (some r),.pointer (some ⟨w.heap.size+1,0,none⟩),.string (Zed x),.tuple #[.int .i64 0,.bool false],.int .i64 0,.bool false,.bool false,.bool true,.pointer (some ⟨p,0,none⟩),.pointer (some ⟨p,0,none⟩),.pointer (some ⟨p,2,none⟩),.slice pv vs.length cv,.int .i64 (vs.length:Int),.pointer (some ⟨p,0,none⟩),.pointer (some ⟨p,0,none⟩),.pointer (some ⟨p,3,none⟩),.map (some r),.pointer (some ⟨w.heap.size+1,0,none⟩),.string (Zed x),.int .i64 (vs.length:Int),undef,undef,undef,undef,undef,undef,undef,undef,undef,undef,undef,undef],defers:=[]}/\ ∃ w4,Below w.heap.size w w4/\Wd w4 p fs vs F k r fv (.slice pv vs.length cv) Ff Fv/\Blk w4 w.heap.size #[.int .i64 x.k,.int .i64 x.i,.string x.t,.slice pl x.l.length cl] 117/\Off [r] w4 W5/\Zgw W5 r (vs.map Zed++[Zed x]))):=⟨_,⟨fun _ _=>Iff.rfl⟩⟩;refine Zzj K3 ?_ ?_
  ·go_region_with (go_at_call 64;refine(Zlz (w:=w3.drew) HT3.out).mono ?_;rintro e w4 ⟨rfl,ht4,hb4⟩;have D4:=Zaa (hw.below (HB3.out.drew.trans (hb4.mono (Yet _))));obtain⟨d0,d1,d2,d3,ds⟩:=D4.out.blk.four;obtain⟨ob,hmu,hnm⟩:=UP.out w4 D4.out.num;obtain⟨W5,hW5⟩: ∃ W5,Box ({w4 with heap:=w4.heap.setIfInBounds r ob}=W5):=⟨_,⟨rfl⟩⟩;rw[hW5.out]at hmu hnm)
   all_goals exact(hK3.out _ _).2 ⟨rfl,w4,HB3.out.drew.trans (hb4.mono (Yet _)),D4.out,L3.out.of (hb4.block w.heap.size (Nat.lt_succ_self _)),hW5.out▸(Off.refl _ w4).put r ob (by simp),hnm⟩
  intro a' W5 h3;obtain⟨rfl,w4,hb4,hd4,L4,o5,hnm⟩:=(hK3.out _ _).1 h3;clear h3 hK3 K3;have HB4:=Zaa hb4;have D4:=Zaa hd4;have O5:=Zaa o5;have HNM:=Zaa hnm;obtain⟨⟨pk,pr,pf,hpF⟩,_,⟨rf,rv⟩,_,nv,_⟩:=hd4.apart;have hwr:w.heap.size≠r:=fun e=>by have:=hw.num.lt;omega
  have b5:W5.heap[p]?=w4.heap[p]?:=o5.block p hd4.blk.lt (by simpa using pr);obtain⟨e0,e1,e2,e3,es⟩:=(hd4.blk.of b5).four;have L5:=Zaa (L4.of (o5.block w.heap.size L4.lt (by simpa using hwr)));obtain⟨u0,u1,u2,u3,us⟩:=L5.out.four;have hvl: ∀ j,j∈Fv->j < w4.heap.size:=fun j hj=>hd4.new.lt j (by rw[hd4.own];simp[hj]);have R5:=Zaa (Zag.stable Zqd.stable _ W5 _ _ _ hd4.vals fun j hj=>o5.block j (hvl j hj) (fun e=>rv (by rw[<- Yeb.1 e];exact hj)));have N5:Box (Za7 0 W5 Fv):=⟨nv,fun _ _=>Yej _,fun j hj=>Ydh (hvl j hj) o5.size⟩;have hql:p < W5.heap.size:=Ydh hd4.blk.lt o5.size;have hwl:=L5.out.lt;have hlt1:(vs.length:Int) < (vs.length:Int)+1:=by omega
  clear hb4 hd4 hnm L4 o5 q0 q1 q2 q3 qs b5 hvl UP D3 L3 LU pk pr pf rf rv nv;go_wp2
  go_region_law (refine Zdz Znx rfl (.tmp 37) (.tmp 40) rfl Zqd.stable (fun _ _ _ _ h=>Zqd.one h) 0 (.slice pv vs.length cv) vs Fv rfl (Zag.stable Zqd.stable _ _ _ _ _ R5.out fun j hj=>Ydf _ _ _ (N5.out.lt j hj)) W5.heap.size #[.int .i64 0,.int .i64 0,.string ⟨#[]⟩,.slice none 0 0] 117 (0,0) T0 [] rfl (Zaw _ _) rfl ⟨rfl,none,0,rfl⟩ (by omega) (Yej _) (N5.out.later lr (by simp)) (Za7.nil _ _) (fun _ _ h=>by cases h) ?_;intro g6 cap6 w6 F6 happ;have b6:=(happ.same p (by simp;omega) hpF).trans (Ydf _ _ _ hql);have c6:=(Yde (a:=⟨p,2,none⟩) b6).trans e2;have s6:=fun j=>(Yez (a:=⟨p,j,none⟩) b6).trans (es j);obtain⟨cur,A,cs,R,hcb,hcur,hAl,hcl,⟨_,p',c',hcs⟩,_⟩:=Zag.last Zqd.stable Zqd.nil happ.row;subst hcur hcs;have z0:w6.cell? ⟨g6,vs.length*4,none⟩=some (.int .i64 0):=Zg7 hcb hAl 0 _ rfl;have z1:w6.cell? ⟨g6,vs.length*4+1,none⟩=some (.int .i64 0):=Zg7 hcb hAl 1 _ rfl;have z2:w6.cell? ⟨g6,vs.length*4+2,none⟩=some (.string ⟨#[]⟩):=Zg7 hcb hAl 2 _ rfl;have z3:w6.cell? ⟨g6,vs.length*4+3,none⟩=some (.slice p' 0 c'):=Zg7 hcb hAl 3 _ rfl;have zs:=hcb.soft;have hpg:p≠g6:=fun e=>happ.notNew (j:=p) (by simp;omega) hpF (e▸happ.row.own);have hgp:g6≠p:=Ne.symm hpg;have HC:=Zaa happ;clear hcb happ hAl hcl b6)
  all_goals
   obtain⟨W,hW⟩: ∃ W,Box (W=((((w6.setCell ⟨g6,vs.length*4,none⟩ (.int .i64 x.k)).setCell ⟨g6,vs.length*4+1,none⟩ (.int .i64 x.i)).setCell ⟨g6,vs.length*4+2,none⟩ (.string x.t)).setCell ⟨g6,vs.length*4+3,none⟩ (.slice pl x.l.length cl)).setCell ⟨p,2,none⟩ (.slice (some ⟨g6,0,none⟩) (vs.length+1) cap6)):=⟨_,⟨rfl⟩⟩;obtain⟨V,hV⟩: ∃ V,Box (V=((((w6.setCell ⟨p,2,none⟩ (.slice (some ⟨g6,0,none⟩) (vs.length+1) cap6)).setCell ⟨g6,vs.length*4,none⟩ (.int .i64 x.k)).setCell ⟨g6,vs.length*4+1,none⟩ (.int .i64 x.i)).setCell ⟨g6,vs.length*4+2,none⟩ (.string x.t)).setCell ⟨g6,vs.length*4+3,none⟩ (.slice pl x.l.length cl)):=⟨_,⟨rfl⟩⟩;first
    | (rw[<- hW.out];have PT:=Z4h (.inl hW.out))
    | (rw[<- hV.out];have PT:=Z4h (.inr hV.out))
   obtain⟨F',hF1,hF2,hF3⟩:=D4.out.appV O5.out HNM.out (((Off.refl _ W5).alloc _).drew) HC.out PT;have FIN:=Zaa (Yda hF1 (Yda hF2 hF3));clear hF1 hF2 hF3 PT hW hV HC z0 z1 z2 z3 zs c6 s6 D4 O5 HNM L5 u0 u1 u2 u3 us e0 e1 e2 e3 es;go_wp2
   go_ret
   rw[NN.out,NV.out];exact⟨rfl,F',FIN.out.1,(Off.of HB4.out).trans FIN.out.2.1 (fun _ h=> .inl h),fun i hi=>(FIN.out.2.2 i hi).imp id (fun h=>Ydc HB4.out.size h)⟩
end Go.P
namespace Go.W
def Zby (vs:List T) (x:T):ByteArray×Nat:=if x.k=1 then(x.t,0)else(⟨#[]⟩,Ybq vs x)
def Zcv (vs:List T) (x:T):List T:=if x.k=1 then vs else Z9o vs x
end Go.W
namespace Go.P
theorem Zss {w:World}{p:Nat}{fs:List (ByteArray×Nat)}{vs:List T}{F:List Nat}(h:Zd3 w p fs vs F){B D:Nat}{tv:List Value}{x:T}(hS:Zc2 B w D tv x)(hB:B<=w.heap.size)(hok:Zau 0 x=0)(hl:vs.length < 1000):
  Calls prog 241 #[.pointer (some ⟨p,0,none⟩),.agg tv.toArray] w fun e w'=>e= .returned (.agg #[.string (Zby vs x).1,.int .i64 ((Zby vs x).2:Int)])/\ ∃ F',Zd3 w' p fs (Zcv vs x) F'/\Off F w w'/\ ∀ i,i∈F'->i∈F\/w.heap.size<=i:=by
 have B0:=fun o=>(Ydb w.heap.size w).alloc lr o;have B1:=fun o o'=>(B0 o).alloc (by simp) o';have H:=Zaa h;have CN:=Zaa (fun o o'=>Zxm (h.of (w':=(w.alloc o).alloc o') (B1 o o').size fun j hj=>(B1 o o').block j (h.lt j hj)) (Zc2.carry hS (Za4 (B1 o o') hB)) (Ydc hB (B1 o o').size) hok hl);obtain⟨pl,cl,rfl,ht,hk1,hk2,_⟩:=hS;clear h;by_cases hk:x.k=1
 ·have E1:Box (Zby vs x=(x.t,0)/\Zcv vs x=vs):=⟨if_pos hk,if_pos hk⟩;rw[E1.out.1,E1.out.2,hk];clear CN;go_in
  go_wp2
  refine Ye6 (by simp[results,results241,go_sem];try rfl) rfl ?_;exact⟨rfl,F,H.out.of (B1 _ _).size (fun j hj=>(B1 _ _).block j (H.out.lt j hj)),Off.of (B1 _ _),fun _ h=> .inl h⟩
 ·have E1:Box (Zby vs x=(⟨#[]⟩,Ybq vs x)/\Zcv vs x=Z9o vs x):=⟨if_neg hk,if_neg hk⟩;rw[E1.out.1,E1.out.2];have g:(x.k==1)=false:=by simp[hk]
  go_in
  go_wp2_with fail
  refine(CN.out _ _).mono ?_;rintro e w2 ⟨rfl,F2,hd2,ho2,hs2⟩;have nF:w.heap.size+1∉F:=fun h=>by have:=H.out.lt _ h;omega
  have K2:=Zaa ((Zpo w _ #[.string ⟨#[]⟩,.int .i64 0] 366).of (ho2.block (w.heap.size+1) (by simp) nF));have nF2:w.heap.size+1∉F2:=fun h=>by
   rcases hs2 _ h with h | h
   ·exact nF h
   ·simp at h;omega
  obtain⟨y0,y1,sy⟩:=K2.out.two;have FIN:=Zaa (Yda hd2 (Yda ((Off.of (F:=F) (B1 _ _)).trans ho2 fun _ h=> .inl h) (fun i hi=>(hs2 i hi).imp id (fun h=>by simp at h;omega): ∀ i,i∈F2->i∈F\/w.heap.size<=i)));clear hd2 ho2 hs2 CN;go_wp2
  refine Ye6 (by simp[results,results241,go_sem,y0,y1];try rfl) rfl ?_;have hne: ∀ j,j∈F2->j≠w.heap.size+1:=fun j hj e=>nF2 (e▸hj);exact⟨rfl,F2,FIN.out.1.of (by simp[World.setCell]) fun j hj=>(Ydg _ _ _ _ (hne j hj)).trans (Ydg _ _ _ _ (hne j hj)),(FIN.out.2.1.set (w.heap.size+1) 0 _ (.inr (Yet _))).set (w.heap.size+1) 1 _ (.inr (Yet _)),FIN.out.2.2⟩
end Go.P
