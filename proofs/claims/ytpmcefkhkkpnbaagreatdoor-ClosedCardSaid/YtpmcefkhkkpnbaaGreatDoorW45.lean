import Derived.Test.YtpmcefkhkkpnbaaGreatDoorW43
set_option linter.all false
set_option maxRecDepth 100000
set_option maxHeartbeats 8000000
open Go.Proofs Go.RowKit Go.W Tryz
namespace Go.W
def Yqj (D:Nat):Prop:= ∀ {B:Nat} {w:Bb} {p:Bp} {c:Nat} {x:T},B<=w.heap.size->x.t.size<1000000000->Gq x.k->Gq x.i->Ap 4 (He B w D) p x.l->Calls prog 117 #[.agg #[zo x.k,zo x.i,um x.t,sP p x.l.length c]] w fun e w'=> ∃ us F,e=uY (.agg us.toArray)/\BQ AV (D+1) w' us x F/\Ag w.heap.size w' F/\Bl w w'
theorem Yop (CL:Gg){D:Nat}(ih: ∀ E,E<D->Yqj E):Yqj D:=by
 intro B w p c x hB hz hk hi hr;have HR:=AC hr;have HK:=AC<|AJ hk<|AJ hi hz;have hl:=hr.len;clear hr;have CC:=AC CL;obtain⟨n,hn⟩:=cK (x.l.length);rw[hn.o]at hl⊢;go_in
 go_wp2_with fail
 have b1:=zv w<|.cells #[zo x.k,zo x.i,um x.t,sP p n c] 95;have m1:AO _ w.heap.size #[zo x.k,zo x.i,um x.t,sP p n c] 95:=AO.new w _ _;have s1:(w.alloc<|.cells #[zo x.k,zo x.i,um x.t,sP p n c] 95).heap.size=w.heap.size+1:=zw
 generalize w.alloc (.cells #[zo x.k,zo x.i,um x.t,sP p n c] 95)=W0 at*;have b2:=b1.alloc b1.size<|.cells #[zo 0,zo 0,.string ⟨#[]⟩,zn] 95;have m2:AO _ W0.heap.size #[zo 0,zo 0,.string ⟨#[]⟩,zn] 95:=AO.new W0 _ _;have m1:=m1.alloc<|.cells #[zo 0,zo 0,.string ⟨#[]⟩,zn] 95;have s2:(W0.alloc<|.cells #[zo 0,zo 0,.string ⟨#[]⟩,zn] 95).heap.size=w.heap.size+2:=by simp[s1]
 rw[s1]at m2;generalize W0.alloc (.cells #[zo 0,zo 0,.string ⟨#[]⟩,zn] 95)=W1 at*;have B1:=AC b2;have M1:=AC m1;have M2:=AC m2;have S2:=AC s2;clear b1 b2 m1 m2 s1 s2;go_loopw [3,9] (fun lv iv wr=> ∃ (k:Nat) (F:Cg),k<=n/\iv= zo (k:Int)/\AQ 95 4 (BQ AV D) wr lv (x.l.take k) F/\Ag W1.heap.size wr F/\Bl W1 wr) (fun _ iv _=>n-(intOf iv).toNat)
 .exact⟨0,[],Eg _,rfl,AQ.nil,Ag.nil _ _,AR _ _⟩
 .obtain⟨k,F,uA,rfl,hrow,Bi,Af⟩:=hrel;have HB:=AC Af;have HRW:=AC<|AJ hrow Bi;have hllen:=hrow.len;obtain⟨pa,ca,rfl⟩:=hrow.form;by_cases hlt:k<n
  .have QZ:k<x.l.length:=by rw[hn.o];exact hlt
   obtain⟨b3,o3,rfl,hat⟩:=HR.o.get k QZ;cases D with
   | zero=>exact hat.elim
   | succ E=>
    obtain⟨_,p1,c1,a0,a1,a2,a3,has⟩:=hat.vals;obtain⟨_,_,e,t1,t2,t3,_,t4⟩:=has;cases e;have HT:=AC<|AJ t1<|AJ t2<|AJ t3 t4;clear t1 t2 t3 t4;have bw:=B1.o.trans<|Af.mono B1.o.size;have CI:=AC fun u (hu:Bl w u)=>ih E (Nat.lt_succ_self _) (w:=u) (c:=c1) (Ab hB hu.size) HT.o.1 HT.o.2.1 HT.o.2.2.1 (HT.o.2.2.2.cy fun _ _ _ q=>q.cy (Bq hu hB) lr);have ET:AF (x.l.take (k+1)=x.l.take k++[x.l[k]]):=⟨wa QZ⟩;have a0:=Cb a0 bw;have a1:=Cb a1 bw;have a2:=Cb a2 bw;have a3:=Cb a3 bw;have HBW:=AC bw;have hlk:(x.l.take k).length<1000000000:=hllen;clear hat hrow Bi Af bw hllen;generalize x.l[k]=y at*;generalize x.l.take k=acc at*;generalize hla:acc.length=la at*;have HLA:=AC hla;clear hla;go_wp2_with fail
    have b4:=zv wr<|.cells #[zo y.k,zo y.i,um y.t,sP p1 y.l.length c1] 95;apply(CI.o _ (tr HBW b4).o).mono;rintro e w3 ⟨us,G,rfl,hx,bC,WI⟩;obtain⟨p5,c5,rfl⟩:=BQ.vals hx;have b3':Bl wr w3:=b4.trans<|WI.mono b4.size;have b5:=b3'.alloc b3'.size<|.cells #[zo y.k,zo y.i,um y.t,sP p5 y.l.length c5] 95;have b6:=zv w3<|.cells #[zo y.k,zo y.i,um y.t,sP p5 y.l.length c5] 95;have XW:wr.heap.size<=w3.heap.size:=b3'.size;have BI:W1.heap.size<=wr.heap.size:=HB.o.size;have VN: ∀ k,k∈G->wr.heap.size<=k:=fun k hk=>Ab b4.size (bC.ge k hk);have HZ:=AC<|AJ (AQ.sb (BQ.sb (ty:=AV)<|E+1) _ _ _ _ _ HRW.o.1 fun k hk=>b5.block k (HRW.o.2.lt k hk))<|AJ (HRW.o.2.la lr b5.size)<|AJ (show Ag W1.heap.size (w3.alloc<|.cells #[zo y.k,zo y.i,um y.t,sP p5 y.l.length c5] 95) (([([zo y.k,zo y.i,um y.t,sP p5 y.l.length c5],y,G)]:List (List Value×T×Cg)).map (·.2.2)).flatten by simpa using (⟨bC.once,fun k hk=>Ab BI (VN k hk),fun k hk=>BK (bC.lt k hk) b6.size⟩:Ag W1.heap.size (w3.alloc<|.cells #[zo y.k,zo y.i,um y.t,sP p5 y.l.length c5] 95) G))<|AJ (show ∀ k,k∈F->k∉(([([zo y.k,zo y.i,um y.t,sP p5 y.l.length c5],y,G)]:List (List Value×T×Cg)).map (·.2.2)).flatten from fun k h1 h2=>by
     have h2:k∈G:=by simpa using h2
     have:=VN k h2
     have:=HRW.o.2.lt k h1
     omega)<|AJ (show Lie 4 (BQ AV<|E+1) (w3.alloc<|.cells #[zo y.k,zo y.i,um y.t,sP p5 y.l.length c5] 95) (Qb w3.heap.size 0) [([zo y.k,zo y.i,um y.t,sP p5 y.l.length c5],y,G)]from fun i z hz=>by
     cases i with
     | succ i=>simp at hz
     | zero=>
      cases hz;refine⟨rfl,BQ.one hx,BQ.sb (ty:=AV) (E+1) _ _ _ _ _ hx fun k hk=>b6.block k (bC.lt k hk),w3.heap.size,0,rfl,fun j u hj=>?_⟩;rw[YC,Gx,(AO.new w3 #[zo y.k,zo y.i,um y.t,sP p5 y.l.length c5] 95).cell];simpa using hj)<|HB.o.trans<|b5.mono BI
    have hlen:acc.length+1<1000000000:=by
     have:=congrArg List.length ET.o
     rw[JS,wt,hn.o]at this;simp at this;omega
    clear hx bC WI b4 b3' b5 b6 CI VN a0 a1 a2 a3;go_wp2_with (at_builtin;go_must (refine Ym3 Zqi rfl (.tmp 13) (.tmp 16) rfl (BQ.sb (ty:=AV)<|E+1) W1.heap.size (sP pa la ca) acc F rfl HZ.o.1 (Qb w3.heap.size 0) 1 1 [([zo y.k,zo y.i,um y.t,sP p5 y.l.length c5],y,G)] rfl rfl HZ.o.2.2.2.2.1 hlen (Ab BI zc) HZ.o.2.1 HZ.o.2.2.1 HZ.o.2.2.2.1 ?_);intro p8 c8 w8 F8 hc8 hg8)
    refine⟨⟨k+1,F8,zx,by go_num,?_,hg8.new,HZ.o.2.2.2.2.2.trans<|hg8.be (Ab BI zc) HZ.o.2.1.ge⟩,zd⟩;rw[ET.o];try rw[HLA.o]
    have:=hg8.row
    rw[HLA.o]at this;simpa using this
  .obtain rfl:k=n:=zx
   have EM:AF (x.l.take k=x.l):=⟨U0 (by rw[hn.o];omega)⟩;rw[EM.o]at HRW⊢;have M3:=AC<|M1.o.of<|Af.block _ M1.o.lt;have M4:=AC<|M2.o.of<|Af.block _ M2.o.lt;obtain⟨m0,m1,m2,m3,_⟩:=M3.o.four;have CQ:=AC fun u=>CC.o x.t u HK.o.2.2;clear hrow Bi Af CC;have HC:AF (∀ u,Bl wr u->u.cell? (zm w.heap.size 0)=some (zo x.k)/\u.cell? (zm w.heap.size 1)=some (zo x.i)/\u.cell? (zm w.heap.size 2)=some (um x.t)):=⟨fun u hu=>⟨Cb m0 hu,Cb m1 hu,Cb m2 hu⟩⟩;go_wp2_with fail
   have B0:Bl wr wr.drew:=(AR _ wr).drew;have AY:=HC.o _ B0;clear m0 m1 m2 m3;refine Zwh ?_;refine Vj 9 (fun u=>u.cell? (zm w.heap.size 0)=some (zo x.k)/\u.cell? (zm w.heap.size 1)=some (zo x.i)/\u.cell? (zm w.heap.size 2)=some (um x.t)) zt ?_;refine z9 0 (zq w.heap.size 0) AY ?_
   refine z9 1 (zo x.k) AY ?_
   refine z9 2 (zq w.heap.size 1) AY ?_
   refine z9 3 (zo x.i) AY ?_
   refine z9 4 (zq w.heap.size 2) AY ?_
   refine z9 5 (um x.t) AY ?_
   refine z9 7 (sP pa x.l.length ca) AY ?_
   refine rz 6 (h:=fun K' hK'=>?_);go_simp;apply(CQ.o _).mono;rintro e w6 ⟨rfl,Gp⟩;have b6:Bl wr w6:=B0.trans Gp;have Sm:=HC.o _ b6;refine hK'.o _ _ Sm ?_;try simp only[zz]
   refine z9 8 (.agg #[zo x.k,zo x.i,um x.t,sP pa x.l.length ca]) Sm ?_
   have M6:=M4.o.of<|b6.block _ M4.o.lt;obtain⟨r0,r1,r2,r3,rs⟩:=M6.four;refine yq ?_;go_wp2_with fail
   obtain⟨z0,z1,z2,z3,_⟩:=(Yqi M6 (zo x.k) (zo x.i) (um x.t)<|sP pa x.l.length ca).four;refine Bg (by simp[results,results117,go_sem,z0,z1,z2,z3];try rfl) rfl ?_;have VN: ∀ q,q∈F->q≠w.heap.size+1:=fun q hq e=>jE (HRW.o.2.ge q hq) (S2.o)
   have hL:w.heap.size<=w.heap.size+1:=Ny _;have bb:=B1.o.trans<|(tr HB b6).o.mono B1.o.size;exact⟨_,F,rfl,⟨_,rfl,HK.o.1,HK.o.2.1,HK.o.2.2,AQ.sb (BQ.sb (ty:=AV) D) _ _ _ _ _ HRW.o.1 fun q hq=>(Aw _ _ _ _<|VN q hq).trans ((Aw _ _ _ _<|VN q hq).trans<|(Aw _ _ _ _<|VN q hq).trans<|(Aw _ _ _ _<|VN q hq).trans<|b6.block q<|HRW.o.2.lt q hq)⟩,HRW.o.2.la (fw (S2.o)) (by simp[World.setCell];exact b6.size),SA _ (SA _ (SA _ (SA _ bb hL 0 _) hL 1 _) hL 2 _) hL 3 _⟩
theorem Yo7 (CL:Gg)(D:Nat):Yqj D:=by
 induction D using Nat.strongRecOn with
 | _ D ih=>exact Yop CL @ih
variable {B D p:Nat}{w:Bb}{vs:List T}
def Yqk (w:Bb) (b o:Nat) (f:Fc):Prop:= ∀ j u,(Dq f)[j]?=some u->w.cell? (zm b (o+j))=some u
def Yqp (B:Nat) (w:Bb) (D b o:Nat) (x:T):Prop:= ∃ p c,w.cell? (zm b o)=some (zo x.k)/\w.cell? (zm b (o+1))=some (zo x.i)/\w.cell? (zm b (o+2))=some (um x.t)/\w.cell? (zm b (o+3))=some (sP p x.l.length c)/\Ap 4 (He B w D) p x.l
structure Yp9 (B:Nat) (w:Bb) (D p:Nat) (fs:List Fc) (vs:List T):Prop where
 fa: ∃ q c,w.cell? (zm p 0)=some (sP q fs.length c)/\Ap 8 (Yqk w) q fs
 vals: ∃ q c,w.cell? (zm p 2)=some (sP q vs.length c)/\Ap 4 (Yqp B w D) q vs
 ok: ∀ x,x∈vs->x.t.size<1000000000/\Gq x.k/\Gq x.i
theorem Yp9.la {u:Bb}{fs:List Fc}(h:Yp9 B w D p fs vs)(hB:B<=w.heap.size)(hu:Bl w u):Yp9 B u D p fs vs:=by
 obtain⟨⟨q,c,h1,h2⟩,⟨q',c',h3,h4⟩,h5⟩:=h;refine⟨⟨q,c,Cb h1 hu,h2.cy fun b o f h j u' hj=>Cb (h j u' hj) hu⟩,⟨q',c',Cb h3 hu,h4.cy fun b o x ⟨p,c,k0,k1,k2,k3,k4⟩=>⟨p,c,Cb k0 hu,Cb k1 hu,Cb k2 hu,Cb k3 hu,k4.cy fun _ _ _ q=>q.cy (Go.W.Bq hu hB) lr⟩⟩,h5⟩
theorem Ypo (CL:Gg){fs:List Fc}{f:Fc}{a:A}(hB:B<=w.heap.size)(h:Yp9 B w D p fs vs)(hf:AtF vs f a)(aW:f.1.size<=16)(h6:f.2.length<=6):Calls prog 56 #[zq p 0,.agg (Dq f).toArray] w fun e w'=> ∃ us F,e=uY (.agg us.toArray)/\Bz AV (D+1) w' us a F/\Ag w.heap.size w' F/\Bl w w':=by
 obtain⟨_,⟨qv,cv,hv,hvr⟩,Aq⟩:=h;have HV:=AC<|AJ hvr Aq;have CC:=AC CL;have HF:=AC hf;clear hvr hf Aq;obtain⟨nm,ks⟩:=f;obtain⟨n,hn⟩:=cK (ks.length);obtain⟨nv,RH⟩:=cK (vs.length);unfold Dq;simp only at aW h6⊢;rw[hn.o]at h6⊢;rw[RH.o]at hv;generalize hk0:ks[0]?.getD 0=k0;generalize AX:ks[1]?.getD 0=k1;generalize hk2:ks[2]?.getD 0=k2;generalize hk3:ks[3]?.getD 0=k3;generalize hk4:ks[4]?.getD 0=k4;generalize NS:ks[5]?.getD 0=k5;have HKS:=AC<|AJ hk0<|AJ AX<|AJ hk2<|AJ hk3<|AJ hk4 NS;clear hk0 AX hk2 hk3 hk4 NS;have CQ:=AC fun u=>CC.o nm u zx;go_in
 go_wp2_with fail
 have b1:=zv w<|.cells #[um nm,zo (n:Int),zo (k0:Int),zo (k1:Int),zo (k2:Int),zo (k3:Int),zo (k4:Int),zo (k5:Int)] 147;have m1:AO _ w.heap.size #[um nm,zo (n:Int),zo (k0:Int),zo (k1:Int),zo (k2:Int),zo (k3:Int),zo (k4:Int),zo (k5:Int)] 147:=AO.new w _ _;have s1:(w.alloc<|.cells #[um nm,zo (n:Int),zo (k0:Int),zo (k1:Int),zo (k2:Int),zo (k3:Int),zo (k4:Int),zo (k5:Int)] 147).heap.size=w.heap.size+1:=zw
 generalize w.alloc (.cells #[um nm,zo (n:Int),zo (k0:Int),zo (k1:Int),zo (k2:Int),zo (k3:Int),zo (k4:Int),zo (k5:Int)] 147)=W0 at*;have b2:=b1.alloc b1.size<|.cells #[sE,zn] 64;have m2:AO _ W0.heap.size #[sE,zn] 64:=AO.new W0 _ _;have m1:=m1.alloc<|.cells #[sE,zn] 64;have s2:(W0.alloc<|.cells #[sE,zn] 64).heap.size=w.heap.size+2:=by simp[s1]
 rw[s1]at m2;generalize W0.alloc (.cells #[sE,zn] 64)=W1 at*;apply(CQ.o _).mono;rintro e w1 ⟨rfl,hb1⟩;have B1:=AC<|b2.trans<|hb1.mono b2.size;have M1:=AC<|m1.of<|hb1.block _ m1.lt;have M2:=AC<|m2.of<|hb1.block _ m2.lt;have S2:AF (w.heap.size+2<=w1.heap.size):=⟨fw (hb1.size)⟩;clear b1 b2 m1 m2 s1 s2 hb1 CQ;have QU: ∀ (b o:Nat) (W:Bb),(Instr.sliceAt 145 (zq b o) none (some<|zo (n:Int)) none).run prog W= .ok (sP (Qb b o) n 6) W:=fun b o W=>by
  rw[run_sliceAt_array_h W _ _ underlying145 .i64 (n:Int) zx (by show(n:Int)<=6;omega)];go_simp
 have f1:=fun ob=>(M1.o.alloc ob).cell 1;simp only[Tu,List.getElem?_cons_succ,List.getElem?_cons_zero]at f1;go_wp2_with fail
 have HC:AF (∀ j (x:Nat),ks[j]?=some x->(#[um nm,zo (n:Int),zo (k0:Int),zo (k1:Int),zo (k2:Int),zo (k3:Int),zo (k4:Int),zo (k5:Int)]:Ca)[2+j]?=some (zo (x:Int))):=⟨fun j x hj=>by
  have hl:j<6:=by have:=(DW.1 hj).1;rw[hn.o]at this;omega
  have:=Z8s (nm,ks) j hl
  unfold Dq at this;simp only[hn.o,HKS.o.1,HKS.o.2.1,HKS.o.2.2.1,HKS.o.2.2.2.1,HKS.o.2.2.2.2.1,HKS.o.2.2.2.2.2,hj]at this;rw[Tu];exact this⟩
 have b3:=B1.o.alloc B1.o.size<|.cells #[um nm,zn] 64;have m3:AO _ w1.heap.size #[um nm,zn] 64:=AO.new w1 _ _;have M1':=AC<|M1.o.alloc<|.cells #[um nm,zn] 64;have M2':=AC<|M2.o.alloc<|.cells #[um nm,zn] 64;have s3:(w1.alloc<|.cells #[um nm,zn] 64).heap.size=w1.heap.size+1:=zw
 generalize w1.alloc (.cells #[um nm,zn] 64)=W2 at*;have LL:AF (w.heap.size+2<=w1.heap.size/\w1.heap.size+1=W2.heap.size):=⟨S2.o,s3.symm⟩;generalize w1.heap.size=L at*;have B2:=AC b3;have M3:=AC m3;clear b3 m3 s3 M1 M2 B1 S2 QU f1 HKS;go_loopw [17] (fun iv wr=> ∃ (j:Nat) (tv:Value) (F:Cg),j<=n/\iv= zo (j:Int)/\AO wr L #[um nm,tv] 64/\AO wr w.heap.size #[um nm,zo (n:Int),zo (k0:Int),zo (k1:Int),zo (k2:Int),zo (k3:Int),zo (k4:Int),zo (k5:Int)] 147/\AO wr (w.heap.size+1) #[sE,zn] 64/\AQ 95 4 (BQ AV<|D+1) wr tv (a.te.take j) F/\Ag W2.heap.size wr F/\Bl w wr/\W2.heap.size<=wr.heap.size) (fun iv _=>n-(intOf iv).toNat)
 .exact⟨0,_,[],Eg _,rfl,M3.o,M1'.o,M2'.o,AQ.nil,Ag.nil _ _,B2.o,EO _⟩
 .obtain⟨j,tv,F,hj,rfl,hbl,hbf,hbr,hrow,Bi,Af,hsz⟩:=hrel;clear B2 M3 M1' M2';have HR:=AC<|AJ hrow<|AJ Bi<|AJ hbl<|AJ hbf hbr;have HB:=AC Af;have Jq:=hrow.len;obtain⟨pt,ct,rfl⟩:=hrow.form;have KM:a.te.length=n:=by
   have:=congrArg List.length HF.o.2
   simp at this;rw[<- this,hn.o]
  by_cases hltj:j<n
  .have hja:j<a.te.length:=zx
   have hjk:j<ks.length:=by rw[hn.o];exact hltj
   have hvj:vs[ks[j]]?=some a.te[j]:=by
    have:=congrArg (fun l=>l[j]?) HF.o.2
    simpa[hja,hjk]using this
   have f2:=hbf.cell<|2+j;rw[HC.o j _<|A8 hjk]at f2;obtain⟨bv,ov,rfl,p1,c1,v0,v1,v2,v3,vr⟩:=HV.o.1.at_ _ _ hvj;have Aq:=HV.o.2 _<|Ej hvj;have hkv:ks[j]<nv:=by rw[<- RH.o];exact(DW.1 hvj).1
   have ET:AF (a.te.take (j+1)=a.te.take j++[a.te[j]]):=⟨wa hja⟩;have CI:=AC fun u (hu:Bl w u)=>Yo7 CC.o D (w:=u) (c:=c1) (Ab hB hu.size) Aq.1 Aq.2.1 Aq.2.2 (vr.cy fun _ _ _ q=>q.cy (Bq hu hB) lr);have HS:AF (∀ u,Bl w u->u.cell? (zm p 2)=some (sP (Qb bv ov) nv cv)/\u.cell? (zm bv (ov+ks[j]*4))=some (zo a.te[j].k)/\u.cell? (zm bv (ov+ks[j]*4+1))=some (zo a.te[j].i)/\u.cell? (zm bv (ov+ks[j]*4+2))=some (um a.te[j].t)/\u.cell? (zm bv (ov+ks[j]*4+3))=some (sP p1 a.te[j].l.length c1)):=⟨fun u hu=>⟨Cb hv hu,Cb v0 hu,Cb v1 hu,Cb v2 hu,Cb v3 hu⟩⟩;have hlk:(a.te.take j).length<=6:=zc
   clear vr v0 v1 v2 v3 hvj Aq hrow Bi hbl hbf hbr Af;generalize a.te[j]=y at*;generalize ks[j]=kj at*;generalize a.te.take j=acc at*;generalize hla:acc.length=la at*;have HLA:=AC hla;clear hla;go_wp2_with fail
   have Rf:=HR.o.2.2.1.two.2.1;have AY:(fun u:Bb=>u.cell? (zm L 1)=some (sP pt la ct)/\u.cell? (zm p 2)=some (sP (Qb bv ov) nv cv)/\u.cell? (zm bv (ov+kj*4))=some (zo y.k)/\u.cell? (zm bv (ov+kj*4+1))=some (zo y.i)/\u.cell? (zm bv (ov+kj*4+2))=some (um y.t)/\u.cell? (zm bv (ov+kj*4+3))=some (sP p1 y.l.length c1)) wr.drew:=⟨Rf,HS.o _ HB.o.drew⟩;refine Zwh ?_;refine Vj 13 (fun u=>u.cell? (zm L 1)=some (sP pt la ct)/\u.cell? (zm p 2)=some (sP (Qb bv ov) nv cv)/\u.cell? (zm bv (ov+kj*4))=some (zo y.k)/\u.cell? (zm bv (ov+kj*4+1))=some (zo y.i)/\u.cell? (zm bv (ov+kj*4+2))=some (um y.t)/\u.cell? (zm bv (ov+kj*4+3))=some (sP p1 y.l.length c1)) zt ?_;refine z9 0 (zq L 1) AY ?_
   refine z9 1 (sP pt la ct) AY ?_
   refine z9 2 (zq p 0) AY ?_
   refine z9 3 (zq p 0) AY ?_
   refine z9 4 (zq p 2) AY ?_
   refine z9 5 (sP (Qb bv ov) nv cv) AY ?_
   refine z9 6 (zo (kj:Int)) AY ?_
   refine z9 7 (zq bv<|ov+kj*4) AY ?_
   refine z9 8 (.agg #[zo y.k,zo y.i,um y.t,sP p1 y.l.length c1]) AY ?_
   refine rz 9 (h:=fun K' hK'=>?_);go_simp;apply(CI.o _ HB.o.drew).mono;rintro e w5 ⟨us,G,rfl,hx,bC,WI⟩;obtain⟨p5,c5,rfl⟩:=BQ.vals hx;have BX:Bl wr w5:=((AR wr.heap.size wr).drew).trans WI;have bC:Ag wr.heap.size w5 G:=bC;have bE:=HB.o.trans<|BX.mono HB.o.size;have K5:=HR.o.2.2.1.of<|BX.block _ HR.o.2.2.1.lt;refine hK'.o _ _ ⟨K5.two.2.1,HS.o _ bE⟩ ?_;try simp only[zz]
   refine rz 10 (h:=fun K' hK'=>?_);go_simp;obtain⟨W6,hW6⟩:=cK (w5.alloc (.cells #[zo y.k,zo y.i,um y.t,sP p5 y.l.length c5] 95));rw[hW6.o];have b6:Bl w5 W6:=hW6.o▸(AR _ w5).alloc lr _;have N6:W6.heap[w5.heap.size]?=some (.cells #[zo y.k,zo y.i,um y.t,sP p5 y.l.length c5] 95):=hW6.o▸Hw _ _;have K6:=K5.of<|b6.block _ K5.lt;have HB6:=bE.trans<|b6.mono bE.size;have h56:Bl wr W6:=BX.trans<|b6.mono BX.size;refine hK'.o _ _ ⟨K6.two.2.1,HS.o _ HB6⟩ ?_;try simp only[zz]
   have XW:=BX.size;have h6s:=b6.size;have LF:L∉F:=fun h=>jE (HR.o.2.1.ge _ h) (LL.o)
   refine rz 11 (h:=fun K' hK'=>?_);refine X3 Zqi rfl (.tmp 22) (.tmp 31) rfl (BQ.sb (ty:=AV)<|D+1) (fun _ _ _ _ h=>BQ.one h) W2.heap.size (sP pt la ct) acc F rfl (AQ.sb (BQ.sb (ty:=AV)<|D+1) _ _ _ _ _ HR.o.1 fun k hk=>h56.block k (HR.o.2.1.lt k hk)) w5.heap.size #[zo y.k,zo y.i,um y.t,sP p5 y.l.length c5] 95 (0,0) y G rfl N6 rfl (BQ.sb (ty:=AV) (D+1) _ _ _ _ _ hx fun k hk=>b6.block k (bC.lt k hk)) (by rw[HLA.o];omega) zx (HR.o.2.1.la lr zx) ⟨bC.once,fun k hk=>fw (bC.ge k hk),fun k hk=>fw (bC.lt k hk)⟩ (fun k h1 h2=>jE (HR.o.2.1.lt k h1) (bC.ge k h2)) ?_;intro g8 UU w8 F8 AM;rw[HLA.o];have K8:=K6.of<|AM.same _ K6.lt LF;have HB8:=HB6.trans<|(AM.be zx HR.o.2.1.ge).mono (fw (LL.o));have eH:(fun u:Bb=>u.cell? (zm L 1)=some (sP pt la ct)/\u.cell? (zm p 2)=some (sP (Qb bv ov) nv cv)/\u.cell? (zm bv (ov+kj*4))=some (zo y.k)/\u.cell? (zm bv (ov+kj*4+1))=some (zo y.i)/\u.cell? (zm bv (ov+kj*4+2))=some (um y.t)/\u.cell? (zm bv (ov+kj*4+3))=some (sP p1 y.l.length c1)) w8:=⟨K8.two.2.1,HS.o _ HB8⟩;refine hK'.o _ _ eH ?_;try simp only[zz]
   refine z9 12 (zq L 1) eH ?_
   obtain⟨_,z1,zs⟩:=K8.two;refine yq ?_;have kp: ∀ k,k<wr.heap.size->k∉F->k≠L->(w8.setCell (zm L 1)<|sP (Qb g8 0) (la+1) UU).heap[k]?=wr.heap[k]?:=fun k h1 h2 h3=>(Aw _ _ _ _ h3).trans ((AM.same k zx h2).trans<|h56.block k h1);have KF:=AC<|HR.o.2.2.2.1.of<|kp _ HR.o.2.2.2.1.lt (fun h=>jE (HR.o.2.1.ge _ h) (LL.o)) (fw (LL.o));have KR:=AC<|HR.o.2.2.2.2.of<|kp _ HR.o.2.2.2.2.lt (fun h=>jE (HR.o.2.1.ge _ h) (LL.o)) (fw (LL.o));have R8:=AC (AQ.sb (BQ.sb (ty:=AV)<|D+1) _ (w8.setCell (zm L 1)<|sP (Qb g8 0) (la+1) UU) _ _ _ AM.row fun k hk=>Aw _ _ _ _ (fun e=>by have e:k=L:=e;have:=AM.new.ge k hk;have:=LL.o;omega));have N8:=AC AM.new;have Z8:=AM.size;have KL:AF (AO (w8.setCell (zm L 1)<|sP (Qb g8 0) (la+1) UU) L #[um nm,sP (Qb g8 0) (la+1) UU] 64):=⟨by simpa using K8.set 1<|sP (Qb g8 0) (la+1) UU⟩;have B8:=AC<|SA _ HB8 (show w.heap.size<=L by have:=LL.o;omega) 1<|sP (Qb g8 0) (la+1) UU;rw[HLA.o]at R8;clear eH AY AM K8 K6 K5 hx bC WI kp HB8 HB6 bE BX h56 b6 N6 z1 zs CI HS;go_wp2
   exact⟨⟨j+1,_,F8,zx,by go_num,KL.o,KF.o,KR.o,by rw[ET.o];exact R8.o,N8.o.la lr (by simp[World.setCell]),B8.o,by simp[World.setCell];omega⟩,zd⟩
  .obtain rfl:j=n:=zx
   have EM:AF (a.te.take j=a.te):=⟨U0 zx⟩;rw[EM.o]at HR;obtain⟨l0,l1,ls⟩:=hbl.two;obtain⟨r0,r1,rs⟩:=hbr.two;have HBR:=AC hbr;clear hrow Bi hbl hbf hbr Af KM;rw[EM.o]at l1;have HN:AF (nm=a.name):=⟨HF.o.1⟩;go_wp2_with fail
   have M9:AO ((wr.setCell (zm (w.heap.size+1) 0)<|um nm).setCell (zm (w.heap.size+1) 1)<|sP pt a.te.length ct) (w.heap.size+1) #[um nm,sP pt a.te.length ct] 64:=by simpa using (HBR.o.set 0<|um nm).set 1<|sP pt a.te.length ct
   obtain⟨z0,z1,_⟩:=M9.two;refine Bg (by simp[results,results56,go_sem,z0,z1];try rfl) rfl ?_;have VN: ∀ q,q∈F->q≠w.heap.size+1:=fun q hq e=>jE (HR.o.2.1.ge q hq) (LL.o)
   have hL:w.heap.size<=w.heap.size+1:=Ny _;exact⟨_,F,rfl,⟨_,by rw[<- HN.o],by rw[<- HN.o];omega,AQ.sb (BQ.sb (ty:=AV)<|D+1) _ _ _ _ _ HR.o.1 fun q hq=>(Aw _ _ _ _<|VN q hq).trans (Aw _ _ _ _<|VN q hq)⟩,HR.o.2.1.la (fw (LL.o)) (by simp[World.setCell]),SA _ (SA _ HB.o hL 0 _) hL 1 _⟩
end Go.W
