import Derived.Test.YtmebjfclpalmaaaGreatDoorW37
set_option maxRecDepth 100000
set_option maxHeartbeats 8000000
set_option linter.unusedSimpArgs false
open Go.Proofs Go.RowKit Go.W Tryz
namespace Go.P
variable {B b o s:Nat}{w:World}
theorem Zbl.to {B' d b' o':Nat}{w':World}{x:T}(h:Zbl B w (d+1) b o x)(c:Zc1 B B' w w')(hb:b' < B')(hv: ∀ j v,j < 4->w.cell? ⟨b,o+j,none⟩=some v->w'.cell? ⟨b',o'+j,none⟩=some v):Zbl B' w' (d+1) b' o' x:=by
 obtain⟨_,lv,h0,h1,h2,h3,h4⟩:=h;exact⟨hb,lv,hv 0 _ (by omega) h0,hv 1 _ (by omega) h1,hv 2 _ (by omega) h2,hv 3 _ (by omega) h3,h4.imp fun b o y=>Zbl.carry c lr⟩
theorem Ycs {α:Type}{Q:Nat->Nat->α->Prop}{x:α}(h:Q b o x):Zan s Q (some ⟨b,o,none⟩) [x]:=⟨by simp,fun i y hy=>by
 cases i with
 | zero=>cases hy;exact⟨b,o,rfl,by simpa using h⟩
 | succ i=>simp at hy⟩
theorem Z79 {α:Type}{Q:Nat->Nat->α->Prop}{x y:α}(h:Q b o x)(h':Q b (o+s) y):Zan s Q (some ⟨b,o,none⟩) [x,y]:=⟨by simp,fun i z hz=>by
 match i with
 | 0=>cases hz;exact⟨b,o,rfl,by simpa using h⟩
 | 1=>cases hz;exact⟨b,o,rfl,by simpa using h'⟩
 | i+2=>simp at hz⟩
theorem Yay (w:World)(cs:Array Value)(e:TypeId){L:Nat}(h:w.heap.size=L):Blk (w.alloc (.cells cs e)) L cs e:=h▸Blk.new w cs e
theorem Zkw {D:Nat}{p q:Option Addr}{c c':Nat}{xs:List R}(hB:B<=w.heap.size)(hp:Zan 4 (Zb5 B w (D+2)) p xs)(hq:Zan 4 (Zb5 B w (D+2)) q xs):Calls prog 24 #[.slice p xs.length c,.slice q xs.length c'] w fun e w'=>e= .returned (.bool true)/\Below w.heap.size w w':=by
 have hl:=hp.len;have HP:=Zaa hp;have HQ:=Zaa hq;clear hp hq;obtain⟨n,hn⟩: ∃ n,Box (xs.length=n):=⟨_,⟨rfl⟩⟩;rw[hn.out]at hl⊢;go_in
 go_wp2
 go_loopw [5] (fun iv wr=>Z19 w n iv wr) (fun iv _=>n - (intOf iv).toNat)
 case atStart=>exact⟨0,by omega,rfl,Ydb _ _⟩
 case round=>
  obtain⟨k,hk,rfl,hbw⟩:=hrel;have HB:=Zaa hbw;by_cases hlt:k < n
  ·have hlt':k < xs.length:=by rw[hn.out];exact hlt
   obtain⟨b1,o1,rfl,hx⟩:=HP.out.get k hlt';obtain⟨b2,o2,rfl,hy⟩:=HQ.out.get k hlt';have hX:=Zaa (hx.carry (Za4 hbw hB) lr);have hY:=Zaa (hy.carry (Za4 hbw hB) lr);obtain⟨l1,p1,c1,p2,c2,p3,c3,k0,k1,k2,k3,_⟩:=hX.out.vals;obtain⟨l2,q1,d1,q2,d2,q3,d3,j0,j1,j2,j3,_⟩:=hY.out.vals;clear hx hy hbw;generalize xs[k]=x at*;have HX:=Zaa (fun u (hu:Below wr.heap.size wr u)=>Yda (Zab k0 hu) (Yda (Zab k1 hu) (Yda (Zab j0 hu) (Zab j1 hu))));go_wp2_with fail
   have B0:=Zaa (Ydb wr.heap.size wr).drew;have HH:Box (∀ u L1 L2,Below wr.heap.size wr u->Blk u L1 #[.string x.head.name,.slice p1 x.head.terms.length c1] 112->Blk u L2 #[.string x.head.name,.slice q1 x.head.terms.length d1] 112->Calls prog 23 #[.slice (some ⟨L1,0,none⟩) 1 1,.slice (some ⟨L2,0,none⟩) 1 1] u fun e w'=>e= .returned (.bool true)/\Below wr.heap.size wr w'):=⟨fun u L1 L2 hu m1 m2=>by
    obtain⟨_,_,_,_,a1,sA⟩:=hX.out.head.vals;cases k1.symm.trans a1;obtain⟨_,_,_,_,a2,sB⟩:=hY.out.head.vals;cases j1.symm.trans a2;have hc:=Go.W.Below.carry (hu.mono (Ydc hB HB.out.size)) (Ydc hB (Ydc HB.out.size hu.size));refine(Zht (B:=u.heap.size) (D:=D+1) (xs:=[x.head]) lr (Ycs (Ze4.at sA hc m1.lt fun j v hj=>?_)) (Ycs (Ze4.at sB hc m2.lt fun j v hj=>?_))).mono fun e w' ⟨h1,h2⟩=>⟨h1,hu.trans (h2.mono hu.size)⟩
    ·rw[Yd7,m1.cell,Yd8];exact hj
    ·rw[Yd7,m2.cell,Yd8];exact hj⟩
   have hS0:=HX.out wr.drew B0.out;refine Zzj (fun a' w'=> ∃ v28 v34,a'={tmps:=#[.slice (some ⟨b1,o1,none⟩) n c,.slice (some ⟨b2,o2,none⟩) n c',undef,undef,u4,.int .i64 (k:Int),.bool true,u7,u8,u9,u10,u11,.slice (some ⟨b1,o1,none⟩) n c,.int .i64 (n:Int),.slice (some ⟨b2,o2,none⟩) n c',.int .i64 (n:Int),.bool false,.int .i64 (k:Int),.slice (some ⟨b1,o1,none⟩) n c,.int .i64 (n:Int),.bool true,u21,u22,.slice (some ⟨b1,o1,none⟩) n c,.int .i64 (k:Int),.pointer (some ⟨b1,o1+k*4,none⟩),.pointer (some ⟨b1,o1+k*4,none⟩),.agg #[.string x.head.name,.slice p1 x.head.terms.length c1],v28,.slice (some ⟨b2,o2,none⟩) n c',.int .i64 (k:Int),.pointer (some ⟨b2,o2+k*4,none⟩),.pointer (some ⟨b2,o2+k*4,none⟩),.agg #[.string x.head.name,.slice q1 x.head.terms.length d1],v34,.bool true,u36,u37,u38,u39,u40,u41,u42,u43,u44,u45,u46,u47,u48,u49,u50,u51,u52,u53,u54,u55,u56,u57,u58,u59,u60,u61,u62,u63,u64,u65,u66,u67,u68,u69,u70,u71,u72,u73,u74,u75,u76,u77,u78,u79,u80,u81,u82,u83,u84,u85,u86,u87,u88,u89,u90,u91,u92,u93,u94,u95,u96,u97,u98,u99,u100,u101,u102,u103,u104,u105,u106,u107,u108,u109,u110,u111,u112,u113],defers:=[]}/\Below wr.heap.size wr w') ?_ ?_;refine Yfl (S:=fun u=>u.cell? ⟨b1,o1+k*4,none⟩=some (.string x.head.name)/\u.cell? ⟨b1,o1+k*4+1,none⟩=some (.slice p1 x.head.terms.length c1)/\u.cell? ⟨b2,o2+k*4,none⟩=some (.string x.head.name)/\u.cell? ⟨b2,o2+k*4+1,none⟩=some (.slice q1 x.head.terms.length d1)) (by kernel_rfl) ?_;change wpAnyH _ _ _ _ _ _ _ _ (World.drew _);refine tk 0 (.slice (some ⟨b1,o1,none⟩) n c) hS0 ?_;try simp only[zz]
   refine tk 1 (.int .i64 (k:Int)) hS0 ?_;try simp only[zz]
   refine tk 2 (.pointer (some ⟨b1,o1+k*4,none⟩)) hS0 ?_;try simp only[zz]
   refine tk 3 (.pointer (some ⟨b1,o1+k*4,none⟩)) hS0 ?_;try simp only[zz]
   refine tk 4 (.agg #[.string x.head.name,.slice p1 x.head.terms.length c1]) hS0 (hy:=fun _ ⟨s0,s1,s2,s3⟩=>by go_simp) ?_;try simp only[zz]
   refine tk 6 (.slice (some ⟨b2,o2,none⟩) n c') hS0 ?_;try simp only[zz]
   refine tk 7 (.int .i64 (k:Int)) hS0 ?_;try simp only[zz]
   refine tk 8 (.pointer (some ⟨b2,o2+k*4,none⟩)) hS0 ?_;try simp only[zz]
   refine tk 9 (.pointer (some ⟨b2,o2+k*4,none⟩)) hS0 ?_;try simp only[zz]
   refine tk 10 (.agg #[.string x.head.name,.slice q1 x.head.terms.length d1]) hS0 (hy:=fun _ ⟨s0,s1,s2,s3⟩=>by go_simp) ?_;try simp only[zz]
   refine Yfc (rs:=[5,11]) (by kernel_rfl) (by simp) (Ydr rfl (fun K' hK'=>?_) (Ydr rfl (fun K' hK'=>?_) Ydu))
   ·go_simp;refine hK'.out _ _ (HX.out _ (B0.out.alloc lr _)) fun _=>?_;try simp only[zz]
    refine Yfc (rs:=[11]) (by kernel_rfl) (by simp) (Ydr rfl (fun K' hK'=>?_) Ydu);go_simp;have B2:Below wr.heap.size wr ((wr.alloc (.cells #[.string x.head.name,.slice p1 x.head.terms.length c1] 112)).alloc (.cells #[.string x.head.name,.slice q1 x.head.terms.length d1] 112)).drew:=(((Ydb _ wr).alloc lr _).alloc (by simp) _).drew;refine hK'.out _ _ (HX.out _ B2) fun _=>?_;try simp only[zz]
    refine Yfc (rs:=[12]) (by kernel_rfl) (by simp) (Ydr rfl (fun K' hK'=>?_) Ydu);go_simp;refine(HH.out _ _ _ B2 ((Blk.new wr _ _).alloc _) ((Zpo wr _ _ _).of rfl)).mono ?_;rintro e w3 ⟨rfl,B3⟩;refine hK'.out _ _ (HX.out _ B3) fun _=>?_;try simp only[zz]
    refine tk 13 (.bool true) (HX.out _ B3) ?_;try simp only[zz]
    refine Yfi (by kernel_rfl) ?_ _;exact⟨_,_,rfl,B3⟩
   ·go_simp;refine hK'.out _ _ (HX.out _ (B0.out.alloc lr _)) fun _=>?_;try simp only[zz]
    refine Yfc (rs:=[5]) (by kernel_rfl) (by simp) (Ydr rfl (fun K' hK'=>?_) Ydu);go_simp;have B2:Below wr.heap.size wr ((wr.alloc (.cells #[.string x.head.name,.slice q1 x.head.terms.length d1] 112)).alloc (.cells #[.string x.head.name,.slice p1 x.head.terms.length c1] 112)).drew:=(((Ydb _ wr).alloc lr _).alloc (by simp) _).drew;refine hK'.out _ _ (HX.out _ B2) fun _=>?_;try simp only[zz]
    refine Yfc (rs:=[12]) (by kernel_rfl) (by simp) (Ydr rfl (fun K' hK'=>?_) Ydu);go_simp;refine(HH.out _ _ _ B2 ((Zpo wr _ _ _).of rfl) ((Blk.new wr _ _).alloc _)).mono ?_;rintro e w3 ⟨rfl,B3⟩;refine hK'.out _ _ (HX.out _ B3) fun _=>?_;try simp only[zz]
    refine tk 13 (.bool true) (HX.out _ B3) ?_;try simp only[zz]
    refine Yfi (by kernel_rfl) ?_ _;exact⟨_,_,rfl,B3⟩
   rintro a' w2 ⟨v28,v34,rfl,B2⟩;dsimp only;have HB2:=Zaa B2;have HY2:=Zaa (fun u (hu:Below wr.heap.size wr u)=>Yda (Yda (Zab k2 hu) (Zab k3 hu)) (Yda (Zab j2 hu) (Zab j3 hu)));have HH2:Box (∀ u,Below wr.heap.size wr u->Calls prog 23 #[.slice p2 x.body.length c2,.slice q2 x.body.length d2] u fun e w'=>e= .returned (.bool true)/\Below wr.heap.size wr w'):=⟨fun u hu=>by
    obtain⟨_,a1,_,_,rfl,_,rA⟩:=hX.out.body;cases k2.symm.trans a1;obtain⟨_,a2,_,_,rfl,_,rB⟩:=hY.out.body;cases j2.symm.trans a2;have hc:=Za4 hu (Ydc hB HB.out.size);exact(Zht (B:=B) (D:=D+1) (Ydc hB (Ydc HB.out.size hu.size)) (rA.carry fun _ _ _ t=>t.carry hc lr) (rB.carry fun _ _ _ t=>t.carry hc lr)).mono fun e w' ⟨h1,h2⟩=>⟨h1,hu.trans (h2.mono hu.size)⟩⟩
   clear B2 k0 k1 k2 k3 j0 j1 j2 j3 hS0 HH;go_wp2_with fail
   have hS2:w2.drew.cell? ⟨b1,o1+k*4+2,none⟩=some (.slice p2 x.body.length c2)/\w2.drew.cell? ⟨b2,o2+k*4+2,none⟩=some (.slice q2 x.body.length d2):=⟨(HY2.out w2 HB2.out).1.1,(HY2.out w2 HB2.out).2.1⟩;refine Zat 10 (fun u=>u.cell? ⟨b1,o1+k*4+2,none⟩=some (.slice p2 x.body.length c2)/\u.cell? ⟨b2,o2+k*4+2,none⟩=some (.slice q2 x.body.length d2)) (by kernel_rfl) ?_;refine tf 0 (.slice (some ⟨b1,o1,none⟩) n c) hS2 ?_;try simp only[zz]
   refine tf 1 (.int .i64 (k:Int)) hS2 ?_;try simp only[zz]
   refine tf 2 (.pointer (some ⟨b1,o1+k*4,none⟩)) hS2 ?_;try simp only[zz]
   refine tf 3 (.pointer (some ⟨b1,o1+k*4+2,none⟩)) hS2 ?_;try simp only[zz]
   refine tz 4 (.slice p2 x.body.length c2) hS2 (hy:=fun _ ⟨s0,s1⟩=>by go_simp) ?_;try simp only[zz]
   refine tf 5 (.slice (some ⟨b2,o2,none⟩) n c') hS2 ?_;try simp only[zz]
   refine tf 6 (.int .i64 (k:Int)) hS2 ?_;try simp only[zz]
   refine tf 7 (.pointer (some ⟨b2,o2+k*4,none⟩)) hS2 ?_;try simp only[zz]
   refine tf 8 (.pointer (some ⟨b2,o2+k*4+2,none⟩)) hS2 ?_;try simp only[zz]
   refine tz 9 (.slice q2 x.body.length d2) hS2 (hy:=fun _ ⟨s0,s1⟩=>by go_simp) ?_;try simp only[zz]
   refine rzl (h:=fun K' hK'=>?_);go_simp;refine(HH2.out _ HB2.out.drew).mono ?_;rintro e w3 ⟨rfl,hb3⟩;have B3:=Zaa hb3;refine hK'.out _ _ ?_;try simp only[zz]
   refine ry 11 (h:=fun K' hK'=>?_);go_simp;refine hK'.out _ _ ?_;try simp only[zz]
   refine dz (h:=?_);obtain⟨⟨_,k3⟩,_,j3⟩:=HY2.out w3 hb3;clear hb3 hS2 HH2;go_wp2
   go_quiet (fail)
   go_wp2_with fail
   obtain⟨wo,rfl⟩: ∃ wo,wo=wr:=⟨_,rfl⟩;obtain⟨gn,hgn⟩: ∃ gn,Box (x.guards.length=gn):=⟨_,⟨rfl⟩⟩;have hgl:x.guards.length < 1000000000:=by
    obtain⟨_,_,_,_,_,_,rA⟩:=hX.out.guards;exact rA.len
   rw[hgn.out]at k3 j3 HY2 hgl;go_loopw [8] (fun iv u=>Z19 wo gn iv u) (fun iv _=>gn - (intOf iv).toNat)
   case atStart=>exact⟨0,by omega,rfl,B3.out.drewK _⟩
   case round=>
    obtain⟨m,hm,rfl,hbu⟩:=hrel;have HBU:=Zaa hbu;obtain⟨⟨_,k3⟩,_,j3⟩:=HY2.out wr hbu;clear hbu;by_cases hml:m < gn
    ·have hml':m < x.guards.length:=by rw[hgn.out];exact hml
     obtain⟨b3,o3,rfl,G1⟩: ∃ b3 o3,p3=some ⟨b3,o3,none⟩/\Zct B wo (D+2) b3 (o3+m*9) x.guards[m]:=by
      obtain⟨_,a1,_,_,rfl,_,rA⟩:=hX.out.guards;have e:=(HY2.out wo (Ydb _ _)).1.2.symm.trans a1;cases e;exact rA.get m hml'
     obtain⟨b4,o4,rfl,G2⟩: ∃ b4 o4,q3=some ⟨b4,o4,none⟩/\Zct B wo (D+2) b4 (o4+m*9) x.guards[m]:=by
      obtain⟨_,a1,_,_,rfl,_,rA⟩:=hY.out.guards;have e:=(HY2.out wo (Ydb _ _)).2.2.symm.trans a1;cases e;exact rA.get m hml'
     have hcw:=Za4 HBU.out (Ydc hB HB.out.size);have T1:=Zaa (G1.carry hcw lr);have T2:=Zaa (G2.carry hcw lr);obtain⟨_,ga,ca,gb,cb,g0,g1,g2,g3,g4,g5,g6,g7,g8,_⟩:=T1.out.vals;obtain⟨_,ha,da,hb,db,i0,i1,i2,i3,i4,i5,i6,i7,i8,_⟩:=T2.out.vals;have al:=fun(ob:Obj)=>(Ydb wr.heap.size wr).alloc lr ob;have J3:=fun ob=>Zab j3 (al ob);have I0:=fun ob=>Zab i0 (al ob);have I1:=fun ob=>Zab i1 (al ob);have I2:=fun ob=>Zab i2 (al ob);have I3:=fun ob=>Zab i3 (al ob);have I4:=fun ob=>Zab i4 (al ob);have I5:=fun ob=>Zab i5 (al ob);have I6:=fun ob=>Zab i6 (al ob);have I7:=fun ob=>Zab i7 (al ob);have I8:=fun ob=>Zab i8 (al ob);have IX:=Zaa (Yda i1 (Yda i2 (Yda i3 (Yda i4 (Yda i5 (Yda i6 (Yda i7 i8)))))));clear G1 G2 hcw j3 i0 i1 i2 i3 i4 i5 i6 i7 i8 al;generalize x.guards[m]=g at*;go_wp2_with fail
     obtain⟨W4,hW4⟩: ∃ W4,Box ((((wr.alloc (.cells #[.int .i64 g.op,.int .i64 g.a.k,.int .i64 g.a.i,.string g.a.t,.slice ga g.a.l.length ca,.int .i64 g.b.k,.int .i64 g.b.i,.string g.b.t,.slice gb g.b.l.length cb] 119)).alloc (.cells #[.int .i64 g.op,.int .i64 g.a.k,.int .i64 g.a.i,.string g.a.t,.slice ha g.a.l.length da,.int .i64 g.b.k,.int .i64 g.b.i,.string g.b.t,.slice hb g.b.l.length db] 119)).alloc (.cells #[.int .i64 g.a.k,.int .i64 g.a.i,.string g.a.t,.slice ga g.a.l.length ca,.int .i64 g.b.k,.int .i64 g.b.i,.string g.b.t,.slice gb g.b.l.length cb] 117)).alloc (.cells #[.int .i64 g.a.k,.int .i64 g.a.i,.string g.a.t,.slice ha g.a.l.length da,.int .i64 g.b.k,.int .i64 g.b.i,.string g.b.t,.slice hb g.b.l.length db] 117)=W4):=⟨_,⟨rfl⟩⟩;rw[hW4.out];have B4:Below wr.heap.size wr W4:=hW4.out▸((((Ydb _ wr).alloc lr _).alloc (by simp) _).alloc (by simp;omega) _).alloc (by simp;omega) _;have M0:Blk W4 wr.heap.size #[.int .i64 g.op,.int .i64 g.a.k,.int .i64 g.a.i,.string g.a.t,.slice ga g.a.l.length ca,.int .i64 g.b.k,.int .i64 g.b.i,.string g.b.t,.slice gb g.b.l.length cb] 119:=hW4.out▸(((Blk.new wr _ _).alloc _).alloc _).alloc _;have M1:Blk W4 (wr.heap.size+1) #[.int .i64 g.op,.int .i64 g.a.k,.int .i64 g.a.i,.string g.a.t,.slice ha g.a.l.length da,.int .i64 g.b.k,.int .i64 g.b.i,.string g.b.t,.slice hb g.b.l.length db] 119:=hW4.out▸((Zpo wr _ _ _).alloc _).alloc _;have M2:Blk W4 (wr.heap.size+1+1) #[.int .i64 g.a.k,.int .i64 g.a.i,.string g.a.t,.slice ga g.a.l.length ca,.int .i64 g.b.k,.int .i64 g.b.i,.string g.b.t,.slice gb g.b.l.length cb] 117:=hW4.out▸(Yay _ _ _ (by simp)).alloc _;have M3:Blk W4 (wr.heap.size+1+1+1) #[.int .i64 g.a.k,.int .i64 g.a.i,.string g.a.t,.slice ha g.a.l.length da,.int .i64 g.b.k,.int .i64 g.b.i,.string g.b.t,.slice hb g.b.l.length db] 117:=hW4.out▸Yay _ _ _ (by simp);have hc4:Zc1 B W4.heap.size wr W4:=Go.W.Below.carry (B4.mono (Ydc hB (Ydc HB.out.size HBU.out.size))) (Ydc hB (Ydc HB.out.size (Ydc HBU.out.size B4.size)));have RA:Zan 4 (Zbl W4.heap.size W4 (D+2)) (some ⟨wr.heap.size+1+1,0,none⟩) [g.a,g.b]:=Z79 (Zbl.to T1.out.a hc4 M2.lt fun j v hj h=>(M2.cell _).trans (by
      match j with
      | 0=>exact g1.symm.trans h
      | 1=>exact g2.symm.trans h
      | 2=>exact g3.symm.trans h
      | 3=>exact g4.symm.trans h
      | j+4=>omega)) (Zbl.to T1.out.b hc4 M2.lt fun j v hj h=>(M2.cell _).trans (by
      match j with
      | 0=>exact g5.symm.trans h
      | 1=>exact g6.symm.trans h
      | 2=>exact g7.symm.trans h
      | 3=>exact g8.symm.trans h
      | j+4=>omega))
     have RB:Zan 4 (Zbl W4.heap.size W4 (D+2)) (some ⟨wr.heap.size+1+1+1,0,none⟩) [g.a,g.b]:=Z79 (Zbl.to T2.out.a hc4 M3.lt fun j v hj h=>(M3.cell _).trans (by
      match j with
      | 0=>exact IX.out.1.symm.trans h
      | 1=>exact IX.out.2.1.symm.trans h
      | 2=>exact IX.out.2.2.1.symm.trans h
      | 3=>exact IX.out.2.2.2.1.symm.trans h
      | j+4=>omega)) (Zbl.to T2.out.b hc4 M3.lt fun j v hj h=>(M3.cell _).trans (by
      match j with
      | 0=>exact IX.out.2.2.2.2.1.symm.trans h
      | 1=>exact IX.out.2.2.2.2.2.1.symm.trans h
      | 2=>exact IX.out.2.2.2.2.2.2.1.symm.trans h
      | 3=>exact IX.out.2.2.2.2.2.2.2.symm.trans h
      | j+4=>omega))
     have CS:=Zkx (D+2) (c:=2) (c':=2) lr RA RB;refine mq CS ?_;rintro w5 hb5;have B5:=Zaa (HBU.out.trans ((B4.trans (hb5.mono B4.size)).mono HBU.out.size));obtain⟨y0,y1,y2,y3,y4,y5,y6,y7,y8,_⟩:=(M0.of (hb5.block _ M0.lt)).nine;obtain⟨z0,z1,z2,z3,z4,z5,z6,z7,z8,_⟩:=(M1.of (hb5.block _ M1.lt)).nine;clear CS RA RB hc4 M0 M1 M2 M3 hb5 B4 hW4 g0 g1 g2 g3 g4 g5 g6 g7 g8 I0 I1 I2 I3 I4 I5 I6 I7 I8 J3 IX;go_wp2
     exact⟨⟨m+1,by omega,by go_num,B5.out⟩,by simp[intOf];omega⟩
    ·obtain rfl:m=gn:=by omega
     go_wp2
     exact⟨⟨k+1,by omega,by go_num,HB.out.trans (HBU.out.mono HB.out.size)⟩,by simp[intOf];omega⟩
  ·obtain rfl:k=n:=by omega
   go_wp2
   go_ret
   exact⟨rfl,HB.out⟩
end Go.P
namespace Go.P
theorem Zso {B D:Nat}{w:World}{b1 o1 b2 o2:Nat}{x:Bk}(hB:B<=w.heap.size)(h1:Zbx B w (D+2) b1 o1 x)(h2:Zbx B w (D+2) b2 o2 x):Calls prog 10 #[.pointer (some ⟨b1,o1,none⟩),.pointer (some ⟨b2,o2,none⟩)] w fun e w'=>e= .returned (.bool true)/\Below w.heap.size w w':=by
 obtain⟨_,⟨_,f1,p1,c1,rfl,_,rf1⟩,⟨_,r1,p2,c2,rfl,_,rr1⟩,⟨_,k1,p3,c3,rfl,_,rc1⟩⟩:=h1;obtain⟨_,⟨_,f2,q1,d1,rfl,_,rf2⟩,⟨_,r2,q2,d2,rfl,_,rr2⟩,⟨_,k2,q3,d3,rfl,_,rc2⟩⟩:=h2;have CA:=Zaa (fun u (hu:Below w.heap.size w u)=>Zht (c:=c1) (c':=d1) (D:=D+1) (Ydc hB hu.size) (rf1.carry fun _ _ _ t=>t.carry (Za4 hu hB) lr) (rf2.carry fun _ _ _ t=>t.carry (Za4 hu hB) lr));have CR:=Zaa (fun u (hu:Below w.heap.size w u)=>Zkw (c:=c2) (c':=d2) (D:=D) (Ydc hB hu.size) (rr1.carry fun _ _ _ t=>t.carry (Za4 hu hB) lr) (rr2.carry fun _ _ _ t=>t.carry (Za4 hu hB) lr));have RC:=Zaa (Yda rc1 rc2);have hl:=rc1.len;obtain⟨n,hn⟩: ∃ n,Box (x.checks.length=n):=⟨_,⟨rfl⟩⟩;rw[hn.out]at hl k1 k2;have HX:=Zaa (fun u (hu:Below w.heap.size w u)=>Yda (Yda (Zab f1 hu) (Yda (Zab r1 hu) (Zab k1 hu))) (Yda (Zab f2 hu) (Yda (Zab r2 hu) (Zab k2 hu))));clear rf1 rr1 rc1 rf2 rr2 rc2 f1 r1 k1 f2 r2 k2;go_in
 go_wp2_with fail
 have hS:w.drew.cell? ⟨b1,o1,none⟩=some (.slice p1 x.facts.length c1)/\w.drew.cell? ⟨b2,o2,none⟩=some (.slice q1 x.facts.length d1):=⟨(HX.out w.drew (Ydb _ w).drew).1.1,(HX.out w.drew (Ydb _ w).drew).2.1⟩;refine Zat 8 (fun u=>u.cell? ⟨b1,o1,none⟩=some (.slice p1 x.facts.length c1)/\u.cell? ⟨b2,o2,none⟩=some (.slice q1 x.facts.length d1)) (by kernel_rfl) ?_;refine tf 0 (.pointer (some ⟨b1,o1,none⟩)) hS ?_;try simp only[zz]
 refine tf 1 (.pointer (some ⟨b1,o1,none⟩)) hS ?_;try simp only[zz]
 refine tf 2 (.pointer (some ⟨b1,o1,none⟩)) hS ?_;try simp only[zz]
 refine tz 3 (.slice p1 x.facts.length c1) hS (hy:=fun _ ⟨s0,s1⟩=>by go_simp) ?_;try simp only[zz]
 refine tf 4 (.pointer (some ⟨b2,o2,none⟩)) hS ?_;try simp only[zz]
 refine tf 5 (.pointer (some ⟨b2,o2,none⟩)) hS ?_;try simp only[zz]
 refine tf 6 (.pointer (some ⟨b2,o2,none⟩)) hS ?_;try simp only[zz]
 refine tz 7 (.slice q1 x.facts.length d1) hS (hy:=fun _ ⟨s0,s1⟩=>by go_simp) ?_;try simp only[zz]
 refine rzl (h:=fun K' hK'=>?_);go_simp;refine(CA.out _ (Ydb _ w).drew).mono ?_;rintro e w1 ⟨rfl,hb⟩;have B1:=Zaa ((Ydb w.heap.size w).drew.trans hb);clear hb;refine hK'.out _ _ ?_;try simp only[zz]
 refine ry 9 (h:=fun K' hK'=>?_);go_simp;refine hK'.out _ _ ?_;try simp only[zz]
 refine dz (h:=?_);clear hS CA;go_wp2_with fail
 have hS:w1.drew.cell? ⟨b1,o1+1,none⟩=some (.slice p2 x.rules.length c2)/\w1.drew.cell? ⟨b2,o2+1,none⟩=some (.slice q2 x.rules.length d2):=⟨(HX.out w1.drew B1.out.drew).1.2.1,(HX.out w1.drew B1.out.drew).2.2.1⟩;refine Zat 8 (fun u=>u.cell? ⟨b1,o1+1,none⟩=some (.slice p2 x.rules.length c2)/\u.cell? ⟨b2,o2+1,none⟩=some (.slice q2 x.rules.length d2)) (by kernel_rfl) ?_;refine tf 0 (.pointer (some ⟨b1,o1,none⟩)) hS ?_;try simp only[zz]
 refine tf 1 (.pointer (some ⟨b1,o1,none⟩)) hS ?_;try simp only[zz]
 refine tf 2 (.pointer (some ⟨b1,o1+1,none⟩)) hS ?_;try simp only[zz]
 refine tz 3 (.slice p2 x.rules.length c2) hS (hy:=fun _ ⟨s0,s1⟩=>by go_simp) ?_;try simp only[zz]
 refine tf 4 (.pointer (some ⟨b2,o2,none⟩)) hS ?_;try simp only[zz]
 refine tf 5 (.pointer (some ⟨b2,o2,none⟩)) hS ?_;try simp only[zz]
 refine tf 6 (.pointer (some ⟨b2,o2+1,none⟩)) hS ?_;try simp only[zz]
 refine tz 7 (.slice q2 x.rules.length d2) hS (hy:=fun _ ⟨s0,s1⟩=>by go_simp) ?_;try simp only[zz]
 refine rzl (h:=fun K' hK'=>?_);go_simp;refine(CR.out _ B1.out.drew).mono ?_;rintro e w2 ⟨rfl,hb⟩;have B2:=Zaa (B1.out.trans ((Ydb _ w1).drew.trans hb |>.mono B1.out.size));clear hb;refine hK'.out _ _ ?_;try simp only[zz]
 refine ry 9 (h:=fun K' hK'=>?_);go_simp;refine hK'.out _ _ ?_;try simp only[zz]
 refine dz (h:=?_);clear hS CR;obtain⟨⟨_,_,k1⟩,_,_,k2⟩:=HX.out w2 B2.out;go_wp2
 go_quiet (fail)
 go_wp2_with fail
 clear k1 k2;go_loopw [7] (fun iv wr=>Z19 w n iv wr) (fun iv _=>n - (intOf iv).toNat)
 case atStart=>exact⟨0,by omega,rfl,B2.out.drewK _⟩
 case round=>
  obtain⟨k,hk,rfl,hbw⟩:=hrel;have HB:=Zaa hbw;obtain⟨⟨_,_,k1⟩,_,_,k2⟩:=HX.out wr hbw;clear hbw;by_cases hlt:k < n
  ·have hlt':k < x.checks.length:=by rw[hn.out];exact hlt
   obtain⟨e1,t1,rfl,_,_,v1,pe,ce,rfl,_,ra⟩:=RC.out.1.get k hlt';obtain⟨e2,t2,rfl,_,_,v2,pe2,ce2,rfl,_,rb⟩:=RC.out.2.get k hlt';have CC:=Zaa (fun u (hu:Below w.heap.size w u)=>Zkw (c:=ce) (c':=ce2) (D:=D) (Ydc hB hu.size) (ra.carry fun _ _ _ t=>t.carry (Za4 hu hB) lr) (rb.carry fun _ _ _ t=>t.carry (Za4 hu hB) lr));rw[Nat.mul_one]at v1 v2;have HV:=Zaa (fun u (hu:Below w.heap.size w u)=>Yda (Yda (HX.out u hu).1.2.2 (Zab v1 hu)) (Yda (HX.out u hu).2.2.2 (Zab v2 hu)));clear ra rb v1 v2;generalize x.checks[k]=y at*;go_wp2_with fail
   have hS:=HV.out wr.drew HB.out.drew;refine Yfl (S:=fun u=>(u.cell? ⟨b1,o1+2,none⟩=some (.slice (some ⟨e1,t1,none⟩) n c3)/\u.cell? ⟨e1,t1+k,none⟩=some (.slice pe y.length ce))/\u.cell? ⟨b2,o2+2,none⟩=some (.slice (some ⟨e2,t2,none⟩) n d3)/\u.cell? ⟨e2,t2+k,none⟩=some (.slice pe2 y.length ce2)) (by kernel_rfl) ?_;change wpAnyH _ _ _ _ _ _ _ _ (World.drew _);refine tk 0 (.pointer (some ⟨b1,o1,none⟩)) hS ?_;try simp only[zz]
   refine tk 1 (.pointer (some ⟨b1,o1,none⟩)) hS ?_;try simp only[zz]
   refine tk 2 (.pointer (some ⟨b1,o1+2,none⟩)) hS ?_;try simp only[zz]
   refine tk 3 (.slice (some ⟨e1,t1,none⟩) n c3) hS (hy:=fun _ ⟨⟨s0,s1⟩,s2,s3⟩=>by go_simp) ?_;try simp only[zz]
   refine tk 4 (.int .i64 (k:Int)) hS ?_;try simp only[zz]
   refine tk 5 (.pointer (some ⟨e1,t1+k,none⟩)) hS ?_;try simp only[zz]
   refine tk 6 (.pointer (some ⟨e1,t1+k,none⟩)) hS ?_;try simp only[zz]
   refine tk 7 (.slice pe y.length ce) hS (hy:=fun _ ⟨⟨s0,s1⟩,s2,s3⟩=>by go_simp) ?_;try simp only[zz]
   refine tk 8 (.pointer (some ⟨b2,o2,none⟩)) hS ?_;try simp only[zz]
   refine tk 9 (.pointer (some ⟨b2,o2,none⟩)) hS ?_;try simp only[zz]
   refine tk 10 (.pointer (some ⟨b2,o2+2,none⟩)) hS ?_;try simp only[zz]
   refine tk 11 (.slice (some ⟨e2,t2,none⟩) n d3) hS (hy:=fun _ ⟨⟨s0,s1⟩,s2,s3⟩=>by go_simp) ?_;try simp only[zz]
   refine tk 12 (.int .i64 (k:Int)) hS ?_;try simp only[zz]
   refine tk 13 (.pointer (some ⟨e2,t2+k,none⟩)) hS ?_;try simp only[zz]
   refine tk 14 (.pointer (some ⟨e2,t2+k,none⟩)) hS ?_;try simp only[zz]
   refine tk 15 (.slice pe2 y.length ce2) hS (hy:=fun _ ⟨⟨s0,s1⟩,s2,s3⟩=>by go_simp) ?_;try simp only[zz]
   refine Yfc (rs:=[16]) (by kernel_rfl) (by simp) (Ydr rfl (fun K' hK'=>?_) Ydu);go_simp;refine(CC.out _ HB.out.drew).mono ?_;rintro e w3 ⟨rfl,hb⟩;have B3:=Zaa (HB.out.trans ((Ydb _ wr).drew.trans hb |>.mono HB.out.size));refine hK'.out _ _ (HV.out _ B3.out) fun _=>?_;try simp only[zz]
   refine tk 17 (.bool true) (HV.out _ B3.out) ?_;try simp only[zz]
   refine Yfi (by kernel_rfl) ?_ _;clear hS hb k1 k2;go_wp2
   exact⟨⟨k+1,by omega,by go_num,B3.out⟩,by simp[intOf];omega⟩
  ·obtain rfl:k=n:=by omega
   go_wp2
   go_ret
   exact⟨rfl,HB.out⟩
end Go.P
namespace Go.P
variable {L:Nat}{w:World}
structure Chs (L:Nat) (w:World) (pb:Option Addr) (nb cb:Nat) (key:ByteArray) (py:Option Addr) (ny cy:Nat) (pd:Option Addr) (nd cd:Nat) (bs:List Bk) (ys:List ByteArray) (ds:List (Int×Int×ByteArray)):Prop where
 lt:L < w.heap.size
 b0:w.cell? ⟨L,0,none⟩=some (.slice pb nb cb)
 k0:w.cell? ⟨L,2,none⟩=some (.string key)
 y0:w.cell? ⟨L,4,none⟩=some (.slice py ny cy)
 d0:w.cell? ⟨L,6,none⟩=some (.slice pd nd cd)
 eb:bs.length=nb
 ey:ys.length=ny
 ed:ds.length=nd
 lb:nb<=65536
 ly:ny<=65536
 ld:nd<=65536
 hb:nb<=cb
 rb:Zan 3 (Zbx w.heap.size w 4) pb bs
 ry:Zan 1 (fun b o (y:ByteArray)=>b < w.heap.size/\w.cell? ⟨b,o,none⟩=some (.string y)) py ys
 rd:Zan 3 (fun b o (y:Int×Int×ByteArray)=>b < w.heap.size/\w.cell? ⟨b,o,none⟩=some (.int .i64 y.1)/\w.cell? ⟨b,o+1,none⟩=some (.int .i64 y.2.1)/\w.cell? ⟨b,o+2,none⟩=some (.string y.2.2)) pd ds
 gb: ∀ x,x∈bs-> ∃ t,Zcn t (Ze7 t)= .ok x
 gy: ∀ y,y∈ys->y.size<=65536
 gk:key.size<=65536
 gd: ∀ d,d∈ds->InI d.2.1
theorem Kp.chs {n:Nat}{u:World}(h:Kp L u n)(hn:n<=65536)(hb:Below u.heap.size u w): ∃ pb nb cb key py ny cy pd nd cd bs ys ds,Chs L w pb nb cb key py ny cy pd nd cd bs ys ds:=by
 obtain⟨vb,vp,vk,vc,vy,vr,vd,bs,ys,rs,ds,Fb,Fy,Fr,Fd,H0,_,⟨key,rfl⟩,_,l1,l2,l3,l4,l5,l6,l7,l8⟩:=h;have H:=H0.later hb;obtain⟨pb,cb,rfl,hcb,rb⟩:=Zag.rowOf (Q':=Zbx w.heap.size w 4) H.rb H.nb.lt fun _ _ _ _ _ hcc hbb hG q=>Zbj.at_ q hG hbb hcc;obtain⟨py,cy,rfl,_,ry⟩:=Zag.rowOf (Q':=fun b o (y:ByteArray)=>b < w.heap.size/\w.cell? ⟨b,o,none⟩=some (.string y)) H.ry H.ny.lt fun b o vs y _ hcc hbb _ q=>by
  obtain⟨_,rfl⟩:=q;exact⟨hbb,hcc 0 (by omega)⟩
 obtain⟨pd,cd,rfl,_,rd⟩:=Zag.rowOf (Q':=fun b o (y:Int×Int×ByteArray)=>b < w.heap.size/\w.cell? ⟨b,o,none⟩=some (.int .i64 y.1)/\w.cell? ⟨b,o+1,none⟩=some (.int .i64 y.2.1)/\w.cell? ⟨b,o+2,none⟩=some (.string y.2.2)) H.rd H.nd.lt fun b o vs y _ hcc hbb _ q=>by
  obtain⟨_,rfl⟩:=q;exact⟨hbb,hcc 0 (by omega),hcc 1 (by omega),hcc 2 (by omega)⟩
 exact⟨pb,_,cb,key,py,_,cy,pd,_,cd,bs,ys,ds,H.blk.lt,H.blk.cell 0,H.blk.cell 2,H.blk.cell 4,H.blk.cell 6,rfl,rfl,rfl,by omega,by omega,by omega,hcb,rb,ry,rd,l5,l6,l7,l8⟩
theorem Z0v (key:ByteArray)(x:Bk):(Zff key x).size < 1000000000:=by
 unfold Zff;split
 ·exact Ze0 false (by simp) (fun t ht=>by rw[List.mem_singleton.mp ht];exact Zc7 x) (Zar _)
 ·decide
theorem _root_.Go.W.Zan.tail {α:Type}{s:Nat}{Q:Nat->Nat->α->Prop}{b o:Nat}{x:α}{xs:List α}(h:Zan s Q (some ⟨b,o,none⟩) (x::xs)):Zan s Q (some ⟨b,o+s,none⟩) xs:=⟨by have:=h.len;simp at this;omega,fun i y hy=>by
 obtain⟨b',o',e,q⟩:=h.at_ (i+1) y (by simpa using hy);cases e;refine⟨b,o+s,rfl,?_⟩
 have:o+(i+1)*s=o+s+i*s:=by rw[Nat.add_mul];omega
 rw[<- this];exact q⟩
def Zof (key:ByteArray) (b:Bk) (bs:List Bk):Except Int ByteArray:=Zmq (bl (Zff key b)) bs
theorem Z0w (V:Zav)(CL:Zbh){a:Nat->Addr}{pb:Option Addr}{nb cb:Nat}{key:ByteArray}{bs:List Bk}(Z:Zao a w)(E:Zjs a w)(b0:w.cell? ⟨L,0,none⟩=some (.slice pb nb cb))(k0:w.cell? ⟨L,2,none⟩=some (.string key))(eb:bs.length=nb)(lb:nb<=65536)(hcb:nb<=cb)(rb:Zan 3 (Zbx w.heap.size w 4) pb bs)(gk:key.size<=65536):Calls prog 6 #[.pointer (some ⟨L,0,none⟩)] w fun e w'=>((bs=[]/\e= .returned (.tuple #[.string ⟨#[]⟩,.string ⟨#[]⟩,.bool false]))\/ ∃ x xs,bs=x::xs/\e= .returned (.tuple #[.string (Zff key x),.string (Zyu (Zof key x xs)),.bool (decide (Zg9 key x=0/\Zs1 (Zof key x xs)=0))]))/\Below w.heap.size w w':=by
 cases bs with
 | nil=>
  obtain rfl:nb=0:=eb.symm;clear Z E rb;go_in
  go_wp2
  refine Ye6 (by simp[results,results6,go_sem];try rfl) rfl ?_;exact⟨.inl ⟨trivial,rfl⟩,Ydb _ _⟩
 | cons x xs=>
  obtain⟨b,o,rfl,hx⟩:=rb.get 0 (by simp);rw[List.getElem_cons_zero]at hx;obtain⟨_,p1,c1,p2,c2,p3,c3,x0,x1,x2,hS⟩:=hx.vals;have hn0:0 < nb:=by rw[<- eb];simp
  have CU:=Zaa (fun u (hu:Below w.heap.size w u) p c (hr:Zan 3 (Zbx w.heap.size w 4) p xs)=>Zsh (c:=c) (D:=3) V CL (l:=bl (Zff key x)) (Z.below hu) (E.below hu) (by rw[Zcy];exact Z0v key x) lr (hr.carry fun _ _ _ h=>h.carry (Go.W.Below.carry hu hu.size) lr));have hxl:xs.length=nb - 1:=by rw[<- eb];simp
  rw[Zjw,hxl]at CU;have HR:=Zaa rb;suffices h:Calls prog 6 #[.pointer (some ⟨L,0,none⟩)] w fun e w'=>e= .returned (.tuple #[.string (Zff key x),.string (Zyu (Zof key x xs)),.bool (decide (Zg9 key x=0/\Zs1 (Zof key x xs)=0))])/\Below w.heap.size w w' from h.mono fun e w' h=>⟨.inr ⟨x,xs,rfl,h.1⟩,h.2⟩
  unfold Zof;have CM:=Zaa (fun u (hu:Below w.heap.size w u)=>Zup V (key:=key) (Z.below hu) (E.below hu) (by omega) hu.size (Zbd.carry hS (Za4 hu lr)));have D0:Box (Below w.heap.size w w.drew):=⟨(Ydb _ w).drew⟩;simp only[Yex,Yey]at x0 x1 x2;generalize Zs1 (Zmq (bl (Zff key x)) xs)=k at*;generalize Zyu (Zmq (bl (Zff key x)) xs)=u at*;generalize Zff key x=t at*;generalize Zg9 key x=m at*;go_in
  go_wp2_with fail
  have S0:=Yda b0 (Yda k0 (Yda x0 (Yda x1 x2)));go_region_held3 (fun u=>u.cell? ⟨L,0,none⟩=some (.slice (some ⟨b,o,none⟩) nb cb)/\u.cell? ⟨L,2,none⟩=some (.string key)/\u.cell? ⟨b,o,none⟩=some (.slice p1 x.facts.length c1)/\u.cell? ⟨b,o+1,none⟩=some (.slice p2 x.rules.length c2)/\u.cell? ⟨b,o+2,none⟩=some (.slice p3 x.checks.length c3)) (first | exact S2 | exact S0) (first
   | (go_at_call 17;refine(CM.out _ D0.out).mono ?_;rintro e w1 ⟨rfl,hb0⟩;have hb1:=D0.out.trans (hb0.mono D0.out.size);have S2:=Yda (Zab b0 hb1) (Yda (Zab k0 hb1) (Yda (Zab x0 hb1) (Yda (Zab x1 hb1) (Zab x2 hb1))))))
  have B1:=Zaa hb1;obtain⟨c0,c1',_⟩:=S2;clear S0 hb1 hb0 CM x0 x1 x2 c1';go_wp2_with fail
  ·refine(CU.out w1 B1.out _ _ ?_).mono ?_
   ·obtain rfl:xs=[]:=Yds (by omega);exact⟨by simp,fun i x hx=>by simp at hx⟩
   rintro e w2 ⟨rfl,hb2⟩;have B2:=tr B1 hb2;clear hb2 CU;go_wp2_with fail
   all_goals
    refine Ye6 (by simp[results,results6,go_sem];try rfl) rfl ?_;refine⟨?_,B2.out⟩;refine congrArg (fun v=>Ending.returned (.tuple #[.string t,.string u,.bool v])) ?_;first
    | (exact(Yfg fun h=>absurd h.1 (by assumption)).symm)
    | (simp only[show m=0 by assumption,true_and];rfl)
  ·refine(CU.out w1 B1.out _ _ HR.out.tail).mono ?_;rintro e w2 ⟨rfl,hb2⟩;have B2:=tr B1 hb2;clear hb2 CU;go_wp2_with fail
   all_goals
    refine Ye6 (by simp[results,results6,go_sem];try rfl) rfl ?_;refine⟨?_,B2.out⟩;refine congrArg (fun v=>Ending.returned (.tuple #[.string t,.string u,.bool v])) ?_;first
    | (exact(Yfg fun h=>absurd h.1 (by assumption)).symm)
    | (simp only[show m=0 by assumption,true_and];rfl)
end Go.P
