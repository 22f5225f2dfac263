import Derived.Test.YtpmcefkhkkpnbaaGreatDoorW40
set_option linter.all false
set_option maxRecDepth 100000
set_option maxHeartbeats 8000000
open Go.Proofs Go.RowKit Go.W Tryz
namespace Go.W
variable {B d:Nat}{w0:Bb}
def IsQ (B:Nat) (w0:Bb) (d:Nat):Du (Ay×T):=fun _ vs x G=>G=[]/\ ∃ us,vs= um x.1::us/\x.1.size<1000000000/\Ed B w0 d us x.2
theorem Yp4:J3 prog 92 177 5 72:=by
 obtain⟨i0,hi,hz0,hz1,hz2⟩:=info_parts (by kernel_rfl:(prog.info? 177).map (fun i=>(i.zero,i.size,i.bytes))=some (some<|.agg #[sE,zo 0,zo 0,sE,zn],5,72));exact⟨i0,_,underlying92,hi,hz0,hz1,hz2,rfl,zu,zu⟩
theorem IsQ.sb:Ii (IsQ B w0 d):=fun _ _ _ _ _ h _=>h
theorem IsQ.one (w:Bb)(vs:Bu)(x:Ay×T)(F:Cg)(h:IsQ B w0 d w vs x F): ∀ u,u∈vs->u.oneCell'=true:=by
 obtain⟨_,us,rfl,_,p,c,rfl,_⟩:=h;intro u hu;simp at hu;rcases hu with rfl | rfl | rfl | rfl | rfl <;> rfl
def Yql (B d:Nat) (w:Bb) (r:Option bA) (e:Ending) (w':Bb):Prop:=Bl w w'/\match r with
 | none=>e= .returned (.tuple #[zn,.bool false])
 | some c=> ∃ p k,e= .returned (.tuple #[.slice p c.length k,.bool true])/\c.length<=k/\Ap 5 (Yo9 B w' d) p c
theorem Yoq {b1 o1 b2 o2:Nat}{w:Bb}{p:Bp}{c:Nat}{env:bA}{a f:A}(hB:B<=w.heap.size)(ha:Ep B w (d+1) b1 o1 a)(hf:Ynl B w d b2 o2 f)(hl:env.length<1000)(hp:Ap 5 (Yo9 B w d) p env)(h6:a.te.length<=6):Calls prog 32 #[zq b1 o1,zq b2 o2,sP p env.length c] w fun e w'=>Yql B d w (Yny a f env) e w':=by
 obtain⟨_,pa,ca,a0,a1,hsa⟩:=ha.vals;obtain⟨f0,fz,pf,cf,f1,f2,fr⟩:=hf;obtain⟨_,_,e,_,_,iZ⟩:=hsa;cases e;have HA:=AC iZ;have HF:=AC<|AJ f2 fr;have HP:=AC hp;have LB2:AF (b2<w.heap.size):=⟨Wx f0⟩;clear iZ f2 fr hp ha;obtain⟨z,hz⟩:=cK (Yny a f env);rw[hz.o];obtain⟨n,hn⟩:=cK (env.length);obtain⟨m,hm⟩:=cK (a.te.length);obtain⟨l,uD⟩:=cK (f.te.length);rw[hn.o]at hl⊢;rw[hm.o]at a1 h6;rw[uD.o]at f1;go_in
 go_wp2_with fail
 by_cases Dp:a.name=f.name
 rotate_left
 .have EN:AF (z=none):=⟨by rw[<- hz.o];unfold Yny;rw[xd fun q=>Dp q.1]⟩;have g1:(a.name.toList==f.name.toList)=false:=by rw[vo];simpa using Dp
  have g2:(a.name.toList != f.name.toList)=true:=by rw[bne,g1];rfl
  clear Dp;go_quiet (fail)
  go_wp2
  refine Bg (by simp[results,results32,go_sem];try rfl) rfl ?_;rw[EN.o];exact⟨(AR _ w).CY _,rfl⟩
 have g1:(a.name.toList==f.name.toList)=true:=by rw[Dp];simp
 have g2:(a.name.toList != f.name.toList)=false:=by rw[bne,g1];rfl
 by_cases VL:m=l
 rotate_left
 .have EN:AF (z=none):=⟨by rw[<- hz.o];unfold Yny;rw[xd fun q=>VL (by rw[<- hm.o,<- uD.o];exact q.2)]⟩;have g3:((m:Int)==(l:Int))=false:=zj
  have g4:((m:Int) != (l:Int))=true:=by rw[bne,g3];rfl
  clear Dp VL;go_quiet (fail)
  go_wp2
  refine Bg (by simp[results,results32,go_sem];try rfl) rfl ?_;rw[EN.o];exact⟨(AR _ w).CY _,rfl⟩
 have E:AF (z=Yoo env a.te f.te):=⟨by rw[<- hz.o];unfold Yny;rw[xj ⟨Dp,by rw[hm.o,uD.o];exact VL⟩]⟩;have g4:((m:Int) != (l:Int))=false:=by rw[bne_eq_false_iff_eq];omega
 have HML:=AC VL;clear Dp VL hz;go_quiet (fail)
 clear g1 g2 g4;obtain⟨W0,hW0⟩:=cK (w.drewN nq);have B0:AF (Bl w W0):=⟨hW0.o▸(AR _ w).CY nq⟩;rw[hW0.o];obtain⟨zs,z1,z2,z3,z4⟩:=Ap.lie (Q:=IsQ B w d) (w:=W0) HP.o fun b o x q=>by
  obtain⟨us,hs,hc⟩:=q.term;have hs':=hs;obtain⟨p1,c1,rfl,_⟩:=hs;refine⟨_,rfl,fun u hu=>?_,⟨rfl,_,rfl,q.size,hs'⟩,fun j u hj=>?_⟩
  .simp at hu;rcases hu with rfl | rfl | rfl | rfl | rfl <;> rfl
  .cases j with
   | zero=>cases hj;exact Cb q.name B0.o
   | succ j=>rw[show o+(j+1)=o+1+j by omega];exact Cb (hc j u hj) B0.o
 have HZ:=AC<|AJ z1<|AJ z2<|AJ z3 z4;clear z1 z2 z3 z4;go_wp2_with (at_builtin;go_must (refine Ym3 Yp4 rfl (.tmp 34) (.tmp 35) rfl IsQ.sb w.heap.size (zn) [] [] rfl AQ.nil p n c zs rfl (HZ.o.2.2.1.trans hn.o) HZ.o.2.2.2 zc B0.o.size (Ag.nil _ _) (by rw[HZ.o.2.1];exact Ag.nil _ _) (fun _ h=>by cases h) ?_);intro p1 c1 w1 F1 hc1 hg1)
 have hr1:=hg1.row;rw[HZ.o.1,JU]at hr1;have B1:=AC<|B0.o.trans (hg1.be B0.o.size fun _ h=>by cases h);have N1:=AC hg1.new;rw[JC,Gx]at hr1;have R1:=AC hr1;clear hr1 hg1 hc1 HZ hW0;go_loopw [8,9] (fun cv iv wr=> ∃ (k:Nat) (cj:bA) (F:Cg),k<=m/\iv= zo (k:Int)/\AQ 177 5 (IsQ B w d) wr cv cj F/\Ag w.heap.size wr F/\Bl w wr/\z=Yoo cj (a.te.drop k) (f.te.drop k)/\cj.length<=n+k) (fun _ iv _=>m-(intOf iv).toNat)
 .exact⟨0,env,F1,Eg _,rfl,R1.o,N1.o,B1.o,by rw[E.o];rfl,by rw[hn.o];omega⟩
 .obtain⟨k,cj,F,hk,rfl,hrow,Bi,Af,Ce,Ox⟩:=hrel;clear B1 N1 R1 B0;have a1:=Cb a1 Af;have f1:=Cb f1 Af;have HE:=AC Ce;have HR:=AC<|AJ hrow Bi;have HB:=AC Af;obtain⟨pj,cjp,rfl,hlc,hat⟩:=AQ.rowOf (B:=wr.heap.size) (Q':=Yo9 B wr d) hrow Bi.lt fun b o vs x G hc _ _ ⟨_,us,h1,h2,h3⟩=>by
   subst h1;refine⟨hc 0 zx,h2,us,Ed.cy h3<|Bq Af hB,fun j u hj=>?_⟩
   have:=hc (j+1) (by obtain⟨_,_,rfl,_⟩:=h3;have:=(DW.1 hj).1;simp at this;omega)
   rw[show o+1+j=o+(j+1)by omega,this];exact hj
  clear Ce hrow Bi Af;by_cases hlt:k<m
  .have hka:k<a.te.length:=by rw[hm.o];exact hlt
   have hkf:k<f.te.length:=by rw[uD.o,<- HML.o];exact hlt
   obtain⟨ba,oa,rfl,RE⟩:=HA.o.get k hka;obtain⟨_,pt,ct,t0,t1,t2,t3,H7⟩:=RE.vals;obtain⟨bf,of,rfl,htf⟩:=HF.o.2.get k hkf;obtain⟨pg,cg,u0,u1,u2,u3,hus⟩:=htf.vals;rw[xH hka,xH hkf,Yoo]at HE;generalize a.te[k]=t at*;generalize f.te[k]=g at*;have CV:=AC fun u (hu:Bl wr u)=>Ynh (w:=u) (c:=cjp) zx (hat.cy fun _ _ _ q=>q.la (Ab hB HB.o.size) hu) (Ed.cy H7<|Bq (tr HB hu).o hB);have HU:=AC hus;have LBF:AF (bf<w.heap.size):=⟨Wx u0⟩;have T:=AC<|AJ t0<|AJ t1<|AJ t2 t3;have U:=AC<|AJ u0<|AJ u1<|AJ u2 u3;have t0:=Cb t0 HB.o;have t1:=Cb t1 HB.o;have t2:=Cb t2 HB.o;have t3:=Cb t3 HB.o;clear RE H7 htf hus hat hka hkf hk u0 u1 u2 u3;generalize hnj:cj.length=nj at*;have HNJ:=AC hnj;clear hnj;go_wp2_with fail
   apply(CV.o _<|AR _ _).mono;rintro e w2 ⟨us,rfl,hx,hb2⟩;have HX:=AC<|Ed.cy hx<|Yo5 HB.o hB;obtain⟨pv,cv,rfl,hx1⟩:=hx;clear hx1;generalize BF cj t=v at*;have Ey:=tr HB hb2;have R2:AF (AQ 177 5 (IsQ B w d) w2 (sP pj nj cjp) cj F/\Ag w.heap.size w2 F):=⟨AQ.sb IsQ.sb _ _ _ _ _ HR.o.1 fun j hj=>hb2.block j (HR.o.2.lt j hj),HR.o.2.la lr hb2.size⟩;have f1:=Cb f1 hb2;have a1:=Cb a1 hb2;have u0:=Cb U.o.1 Ey.o;have u1:=Cb U.o.2.1 Ey.o;have u2:=Cb U.o.2.2.1 Ey.o;have u3:=Cb U.o.2.2.2 Ey.o;clear hb2 CV HR HB t0 t1 t2 t3 U T;by_cases hv:v.k=1
   .have g1:(v.k==1)=true:=by rw[hv];rfl
    have EV:AF (z=Yoo (cj++[(v.t,g)]) (a.te.drop<|k+1) (f.te.drop<|k+1)):=⟨by rw[HE.o,xj hv]⟩;go_wp2_with fail
    have b3:=zv w2<|.cells #[zo 1,zo v.i,um v.t,sP pv v.l.length cv] 95;have m3:AO _ w2.heap.size #[zo 1,zo v.i,um v.t,sP pv v.l.length cv] 95:=AO.new w2 _ _;generalize w2.alloc (.cells #[zo 1,zo v.i,um v.t,sP pv v.l.length cv] 95)=W3 at*;have x2:=m3.four.2.2.1;have NLV:AF (w2.heap.size∉F):=⟨fun h=>fw (R2.o.2.lt _ h)⟩;generalize w2.heap.size=LV at x2 m3 NLV⊢;have HS:AF (∀ u,Bl W3 u->u.cell? (zm LV 2)=some (um v.t)/\u.cell? (zm b2 (o2+1))=some (sP (Qb bf of) l cf)/\u.cell? (zm bf (of+k*4))=some (zo g.k)/\u.cell? (zm bf (of+k*4+1))=some (zo g.i)/\u.cell? (zm bf (of+k*4+2))=some (um g.t)/\u.cell? (zm bf (of+k*4+3))=some (sP pg g.l.length cg)):=⟨fun u hu=>⟨Cb x2 hu,Cb (Cb f1 b3) hu,Cb (Cb u0 b3) hu,Cb (Cb u1 b3) hu,Cb (Cb u2 b3) hu,Cb (Cb u3 b3) hu⟩⟩;have R3:AF (AQ 177 5 (IsQ B w d) W3 (sP pj nj cjp) cj F/\Ag w.heap.size W3 F):=⟨AQ.sb IsQ.sb _ _ _ _ _ R2.o.1 fun j hj=>b3.block j (R2.o.2.lt j hj),R2.o.2.la lr b3.size⟩;have UA:=tr Ey b3;have QZ:k<l:=by rw[<- HML.o];exact hlt
    clear b3 R2 u0 u1 u2 u3 f1 a1 m3 x2 hv HE;have AY:=HS.o _ (AR W3.heap.size W3).drew;refine Zwh ?_;refine Vj 13 (fun u=>u.cell? (zm LV 2)=some (um v.t)/\u.cell? (zm b2 (o2+1))=some (sP (Qb bf of) l cf)/\u.cell? (zm bf (of+k*4))=some (zo g.k)/\u.cell? (zm bf (of+k*4+1))=some (zo g.i)/\u.cell? (zm bf (of+k*4+2))=some (um g.t)/\u.cell? (zm bf (of+k*4+3))=some (sP pg g.l.length cg)) zt ?_;refine z9 0 (sP pj nj cjp) AY ?_
    refine z9 1 (zq LV 2) AY ?_
    refine z9 2 (um v.t) AY ?_
    refine z9 3 (zq b2 o2) AY ?_
    refine z9 4 (zq b2 o2) AY ?_
    refine z9 5 (zq b2<|o2+1) AY ?_
    refine z9 6 (sP (Qb bf of) l cf) AY ?_
    refine z9 7 (zo (k:Int)) AY ?_
    refine z9 8 (zq bf<|of+k*4) AY ?_
    refine z9 9 (.agg #[zo g.k,zo g.i,um g.t,sP pg g.l.length cg]) AY ?_
    refine z9 10 (.agg #[um v.t,zo g.k,zo g.i,um g.t,sP pg g.l.length cg]) AY ?_
    refine rz 11 (h:=fun K' hK'=>?_);go_simp;obtain⟨W4,Eh⟩:=cK ((W3.alloc<|.cells #[um v.t,zo g.k,zo g.i,um g.t,sP pg g.l.length cg] 177).drew);have B4:Bl W3 W4:=Eh.o▸((AR _ W3).alloc lr _).drew;have N4:W4.heap[W3.heap.size]?=some (.cells #[um v.t,zo g.k,zo g.i,um g.t,sP pg g.l.length cg] 177):=Eh.o▸Hw _ _;have R4:AQ 177 5 (IsQ B w d) W4 (sP pj nj cjp) cj F:=AQ.sb IsQ.sb _ _ _ _ _ R3.o.1 fun j hj=>B4.block j (R3.o.2.lt j hj);have lF: ∀ j,j∈F->j<W3.heap.size:=R3.o.2.lt;have hc3:=UA.o.size;rw[Eh.o];refine hK'.o _ _ (HS.o _ B4) ?_;try simp only[zz]
    refine rz 12 (h:=fun K' hK'=>?_);refine X3 Yp4 rfl (.tmp 58) (.tmp 69) rfl IsQ.sb IsQ.one w.heap.size (sP pj nj cjp) cj F rfl R4 W3.heap.size #[um v.t,zo g.k,zo g.i,um g.t,sP pg g.l.length cg] 177 (0,0) (v.t,g) [] rfl N4 rfl ⟨rfl,_,rfl,(by obtain⟨_,_,_,q,_⟩:=HX.o;exact q),HU.o⟩ (by rw[HNJ.o];omega) (Ab hc3 B4.size) (R3.o.2.la lr B4.size) (Ag.nil _ _) (fun _ _ h=>by cases h) ?_;intro g6 Cm w6 F6 AM;rw[HNJ.o];have JZ:(fun u:Bb=>u.cell? (zm LV 2)=some (um v.t)/\u.cell? (zm b2 (o2+1))=some (sP (Qb bf of) l cf)/\u.cell? (zm bf (of+k*4))=some (zo g.k)/\u.cell? (zm bf (of+k*4+1))=some (zo g.i)/\u.cell? (zm bf (of+k*4+2))=some (um g.t)/\u.cell? (zm bf (of+k*4+3))=some (sP pg g.l.length cg)) w6:=by
     obtain⟨q0,q1,q2,q3,q4,q5⟩:=HS.o _ B4;have hn: ∀ j,j<w.heap.size->j∉F:=fun j hj h=>fw (R3.o.2.ge j h)
     have kp: ∀ (j o:Nat) (x:Value),j∉F->W4.cell? (zm j o)=some x->w6.cell? (zm j o)=some x:=fun j o x hj h=>(A9 (a:=(zm j o))<|AM.same j (Wx h) hj).trans h;exact⟨kp _ _ _ NLV.o q0,kp _ _ _ (hn _ LB2.o) q1,kp _ _ _ (hn _ LBF.o) q2,kp _ _ _ (hn _ LBF.o) q3,kp _ _ _ (hn _ LBF.o) q4,kp _ _ _ (hn _ LBF.o) q5⟩
    refine hK'.o _ _ JZ ?_;try simp only[zz]
    refine yq ?_;have R6:=AC AM.row;have N6:=AC AM.new;have B6:AF (Bl w w6):=⟨(UA.o.trans<|B4.mono hc3).trans<|AM.be (Ab hc3 B4.size) R3.o.2.ge⟩;rw[HNJ.o]at R6;clear AM JZ AY HS R4 N4 B4 Eh;go_wp2
    exact⟨⟨k+1,_,F6,zx,by go_num,R6.o,N6.o,B6.o,EV.o,by rw[JS,HNJ.o];simp;omega⟩,zd⟩
   .have g1:(v.k==1)=false:=by simpa using hv
    go_wp2_with fail
    have b3:=zv w2<|.cells #[zo v.k,zo v.i,um v.t,sP pv v.l.length cv] 95;have m3:AO _ w2.heap.size #[zo v.k,zo v.i,um v.t,sP pv v.l.length cv] 95:=AO.new w2 _ _;generalize w2.alloc (.cells #[zo v.k,zo v.i,um v.t,sP pv v.l.length cv] 95)=W3 at*;obtain⟨x0,x1,x2,x3,_⟩:=m3.four;generalize w2.heap.size=LV at x0 x1 x2 x3 m3⊢;have HS:AF (∀ u,Bl W3 u->u.cell? (zm LV 0)=some (zo v.k)/\u.cell? (zm LV 1)=some (zo v.i)/\u.cell? (zm LV 2)=some (um v.t)/\u.cell? (zm LV 3)=some (sP pv v.l.length cv)/\u.cell? (zm b2 (o2+1))=some (sP (Qb bf of) l cf)/\u.cell? (zm bf (of+k*4))=some (zo g.k)/\u.cell? (zm bf (of+k*4+1))=some (zo g.i)/\u.cell? (zm bf (of+k*4+2))=some (um g.t)/\u.cell? (zm bf (of+k*4+3))=some (sP pg g.l.length cg)):=⟨fun u hu=>⟨Cb x0 hu,Cb x1 hu,Cb x2 hu,Cb x3 hu,Cb (Cb f1 b3) hu,Cb (Cb u0 b3) hu,Cb (Cb u1 b3) hu,Cb (Cb u2 b3) hu,Cb (Cb u3 b3) hu⟩⟩;have UA:=tr Ey b3;have R3:AF (AQ 177 5 (IsQ B w d) W3 (sP pj nj cjp) cj F/\Ag w.heap.size W3 F):=⟨AQ.sb IsQ.sb _ _ _ _ _ R2.o.1 fun j hj=>b3.block j (R2.o.2.lt j hj),R2.o.2.la lr b3.size⟩;have QZ:k<l:=by rw[<- HML.o];exact hlt
    have CC:AF (∀ u g1 g2,Bl W3 u->AO u g1 #[zo v.k,zo v.i,um v.t,sP pv v.l.length cv] 95->AO u g2 #[zo g.k,zo g.i,um g.t,sP pg g.l.length cg] 95->Calls prog 68 #[sP (Qb g1 0) 1 1,sP (Qb g2 0) 1 1] u fun e w'=> ∃ r:Bool,e=uY (.bool r)/\(r=true↔v=g)/\Bl u w'):=⟨fun u g1 g2 hu h1 h2=>by
     have bu:=UA.o.trans<|hu.mono UA.o.size;have tx:He u.heap.size u (d+1) g1 0 v:=kC.at (Ab hB bu.size) ⟨_,Ed.cy HX.o<|Go.W.Bq bu hB,fun j u hj=>by rw[Gx,h1.cell];simpa using hj⟩;have ty:He u.heap.size u (d+1) g2 0 g:=kC.at (Ab hB bu.size) ⟨_,Ed.cy HU.o<|Go.W.Bq bu hB,fun j u hj=>by rw[Gx,h2.cell];simpa using hj⟩;exact(Ym6 (d+1) (c:=1) (c':=1) lr (Ynz tx)<|Ynz ty).mono fun e w' ⟨r,h3,h4,h5⟩=>⟨r,h3,h4.trans ⟨fun e=>(List.cons.inj e).1,fun e=>by rw[e]⟩,h5⟩⟩
    have ET:AF (v=g->z=Yoo cj (a.te.drop<|k+1) (f.te.drop<|k+1)):=⟨fun q=>by rw[HE.o,xd hv,xj q]⟩;have EF:AF (v≠g->z=none):=⟨fun q=>by rw[HE.o,xd hv,xd q]⟩;clear b3 R2 u0 u1 u2 u3 f1 a1 m3 x0 x1 x2 x3 hv HE;have B0:Bl W3 W3.drew:=(AR _ W3).drew;have AY:=HS.o _ B0;refine Zwh ?_;refine Zh (S:=fun u=>u.cell? (zm LV 0)=some (zo v.k)/\u.cell? (zm LV 1)=some (zo v.i)/\u.cell? (zm LV 2)=some (um v.t)/\u.cell? (zm LV 3)=some (sP pv v.l.length cv)/\u.cell? (zm b2 (o2+1))=some (sP (Qb bf of) l cf)/\u.cell? (zm bf (of+k*4))=some (zo g.k)/\u.cell? (zm bf (of+k*4+1))=some (zo g.i)/\u.cell? (zm bf (of+k*4+2))=some (um g.t)/\u.cell? (zm bf (of+k*4+3))=some (sP pg g.l.length cg)) zt ?_;change wpAnyH _ _ _ _ _ _ _ _ (World.drew _);refine zE 0 (.agg #[zo v.k,zo v.i,um v.t,sP pv v.l.length cv]) AY ?_
    refine zE 2 (zq b2 o2) AY ?_
    refine zE 3 (zq b2 o2) AY ?_
    refine zE 4 (zq b2<|o2+1) AY ?_
    refine zE 5 (sP (Qb bf of) l cf) AY ?_
    refine zE 6 (zo (k:Int)) AY ?_
    refine zE 7 (zq bf<|of+k*4) AY ?_
    refine zE 8 (.agg #[zo g.k,zo g.i,um g.t,sP pg g.l.length cg]) AY ?_
    clear AY;obtain⟨W0,hW0⟩:=cK (W3.drew);rw[hW0.o]at B0⊢;refine MZ (rs:=[1,9]) zt zw<|ND rfl (fun K' hK'=>?_)<|ND rfl (fun K' hK'=>?_) M8
    .skip
     go_simp;have b4:=B0.alloc B0.size<|.cells #[zo v.k,zo v.i,um v.t,sP pv v.l.length cv] 95;have m4:=AO.new W0 #[zo v.k,zo v.i,um v.t,sP pv v.l.length cv] 95;refine hK'.o _ _ (HS.o _ b4) fun _=>?_;try simp only[zz]
     refine yr 9 fun K' hK'=>?_;go_simp;have b5:=b4.alloc b4.size<|.cells #[zo g.k,zo g.i,um g.t,sP pg g.l.length cg] 95;have m5:=AO.new (W0.alloc<|.cells #[zo v.k,zo v.i,um v.t,sP pv v.l.length cv] 95) #[zo g.k,zo g.i,um g.t,sP pg g.l.length cg] 95;have m4:=m4.alloc<|.cells #[zo g.k,zo g.i,um g.t,sP pg g.l.length cg] 95;rw[show(W0.alloc<|.cells #[zo v.k,zo v.i,um v.t,sP pv v.l.length cv] 95).heap.size=W0.heap.size+1 by simp]at m5;have CQ:=CC.o ((W0.alloc<|.cells #[zo v.k,zo v.i,um v.t,sP pv v.l.length cv] 95).alloc<|.cells #[zo g.k,zo g.i,um g.t,sP pg g.l.length cg] 95) W0.heap.size (W0.heap.size+1) b5 m4 m5;refine hK'.o _ _ (HS.o _ b5) fun _=>?_;try simp only[zz]
     refine yr 10 fun K' hK'=>?_;go_simp;apply CQ.mono;rintro e w6 ⟨r,rfl,hr,Gp⟩;have b6:=b5.trans<|Gp.mono b5.size;refine hK'.o _ _ (HS.o _ b6) fun _=>?_;try simp only[zz]
     refine yr 11 fun K' hK'=>?_;go_simp;refine hK'.o _ _ (HS.o _ b6) fun _=>?_;try simp only[zz]
     refine Uy zt ?_ _;have HB6:=tr UA b6;have R6:AF (AQ 177 5 (IsQ B w d) w6 (sP pj nj cjp) cj F/\Ag w.heap.size w6 F):=⟨AQ.sb IsQ.sb _ _ _ _ _ R3.o.1 fun j hj=>b6.block j (R3.o.2.lt j hj),R3.o.2.la lr b6.size⟩;clear CQ b4 b5 b6 m4 m5 Gp CC HS B0 hW0 R3;cases r with
     | true=>
      have EV:=AC<|ET.o<|hr.1 rfl;clear hr ET EF;go_wp2
      exact⟨⟨k+1,cj,F,zx,by go_num,R6.o.1,R6.o.2,HB6.o,EV.o,by rw[HNJ.o];omega⟩,zd⟩
     | false=>
      have EV:=AC (EF.o fun q=>by have:=hr.2 q;cases this);clear hr ET EF;go_wp2
      refine Bg (by simp[results,results32,go_sem];try rfl) rfl ?_;rw[EV.o];exact⟨HB6.o,rfl⟩
    .skip
     go_simp;have b4:=B0.alloc B0.size<|.cells #[zo g.k,zo g.i,um g.t,sP pg g.l.length cg] 95;have m4:=AO.new W0 #[zo g.k,zo g.i,um g.t,sP pg g.l.length cg] 95;refine hK'.o _ _ (HS.o _ b4) fun _=>?_;try simp only[zz]
     refine yr 1 fun K' hK'=>?_;go_simp;have b5:=b4.alloc b4.size<|.cells #[zo v.k,zo v.i,um v.t,sP pv v.l.length cv] 95;have m5:=AO.new (W0.alloc<|.cells #[zo g.k,zo g.i,um g.t,sP pg g.l.length cg] 95) #[zo v.k,zo v.i,um v.t,sP pv v.l.length cv] 95;have m4:=m4.alloc<|.cells #[zo v.k,zo v.i,um v.t,sP pv v.l.length cv] 95;rw[show(W0.alloc<|.cells #[zo g.k,zo g.i,um g.t,sP pg g.l.length cg] 95).heap.size=W0.heap.size+1 by simp]at m5;have CQ:=CC.o ((W0.alloc<|.cells #[zo g.k,zo g.i,um g.t,sP pg g.l.length cg] 95).alloc<|.cells #[zo v.k,zo v.i,um v.t,sP pv v.l.length cv] 95) (W0.heap.size+1) W0.heap.size b5 m5 m4;refine hK'.o _ _ (HS.o _ b5) fun _=>?_;try simp only[zz]
     refine yr 10 fun K' hK'=>?_;go_simp;apply CQ.mono;rintro e w6 ⟨r,rfl,hr,Gp⟩;have b6:=b5.trans<|Gp.mono b5.size;refine hK'.o _ _ (HS.o _ b6) fun _=>?_;try simp only[zz]
     refine yr 11 fun K' hK'=>?_;go_simp;refine hK'.o _ _ (HS.o _ b6) fun _=>?_;try simp only[zz]
     refine Uy zt ?_ _;have HB6:=tr UA b6;have R6:AF (AQ 177 5 (IsQ B w d) w6 (sP pj nj cjp) cj F/\Ag w.heap.size w6 F):=⟨AQ.sb IsQ.sb _ _ _ _ _ R3.o.1 fun j hj=>b6.block j (R3.o.2.lt j hj),R3.o.2.la lr b6.size⟩;clear CQ b4 b5 b6 m4 m5 Gp CC HS B0 hW0 R3;cases r with
     | true=>
      have EV:=AC<|ET.o<|hr.1 rfl;clear hr ET EF;go_wp2
      exact⟨⟨k+1,cj,F,zx,by go_num,R6.o.1,R6.o.2,HB6.o,EV.o,by rw[HNJ.o];omega⟩,zd⟩
     | false=>
      have EV:=AC (EF.o fun q=>by have:=hr.2 q;cases this);clear hr ET EF;go_wp2
      refine Bg (by simp[results,results32,go_sem];try rfl) rfl ?_;rw[EV.o];exact⟨HB6.o,rfl⟩
  .obtain rfl:k=m:=zx
   have EN:AF (z=some cj):=⟨by
    rw[HE.o,List.drop_eq_nil_of_le (by rw[hm.o];omega)];cases f.te.drop k <;> rfl⟩
   go_wp2
   refine Bg (by simp[results,results32,go_sem];try rfl) rfl ?_;rw[EN.o];exact⟨HB.o,_,_,rfl,hlc,hat⟩
end Go.W
