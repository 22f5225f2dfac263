import Derived.Test.YtpmcefkhkkpnbaaGreatDoorW34
import Derived.Test.YtpmcefkhkkpnbaaGreatDoorW35
set_option linter.all false
set_option maxRecDepth 100000
set_option maxHeartbeats 8000000
open Go.Proofs Go.RowKit Go.W Tryz
namespace Go.W
variable {s N D:Nat}{w:Bb}
def ak {α:Type}{Q:Nat->Nat->α->Prop}{p:Bp}:Ap s Q p []:=⟨zw,fun i x hx=>by simp at hx⟩
def wW {α:Type}{Q:Nat->Nat->α->Prop}{b o:Nat}{x:α}(h:Q b o x):Ap s Q (Qb b o) [x]:=⟨zw,fun i y hy=>by
 cases i with
 | zero=>
  injection hy with hy;subst hy;exact⟨b,o,rfl,by simpa using h⟩
 | succ i=>simp at hy⟩
structure YK where
 pf:Bp
 cf:Nat
 pr:Bp
 cr:Nat
 lo:Nat
 hi:Nat
 x:Sd
def YK.cells (h:YK):Bu:=[sP h.pf h.x.1.length h.cf,sP h.pr h.x.2.length h.cr,zn]
def XH:Du YK:=fun _ vs h F=>F=[]/\vs=h.cells
def XH.sb:Ii XH:=fun _ _ _ _ _ h _=>h
def XH.one {vs:Bu}{x:YK}{F:Cg}(h:XH w vs x F): ∀ u,u∈vs->u.oneCell'=true:=by
 obtain⟨_,rfl⟩:=h;intro u hu;simp[YK.cells]at hu;rcases hu with rfl | rfl | rfl <;> rfl
structure XG (N D:Nat) (w:Bb) (h:YK):Prop where
 hi:h.hi<=w.heap.size
 rows: ∀ v:Bb,w.heap.size<=v.heap.size->(∀ j,j<N\/(h.lo<=j/\j<h.hi)->v.heap[j]?=w.heap[j]?)->Ap 2 (Ep v.heap.size v<|D+2) h.pf h.x.1/\Ap 4 (FJ v.heap.size v<|D+2) h.pr h.x.2
def XG.of {u:Bb}{h:YK}(k:XG N D w h)(hs:w.heap.size<=u.heap.size)(hb: ∀ j,j<N\/(h.lo<=j/\j<h.hi)->u.heap[j]?=w.heap[j]?):XG N D u h:=⟨Ab k.hi hs,fun v h1 h2=>k.rows v (Ab hs h1) fun j hj=>(h2 j hj).trans (hb j hj)⟩
def XG.mono {M:Nat}{h:YK}(k:XG N D w h)(hn:N<=M):XG M D w h:=⟨k.hi,fun v h1 h2=>k.rows v h1 fun j hj=>h2 j (hj.imp (fun q=>BK q hn) id)⟩
def AQ.yJ {α:Type}{e:TypeId}{Q:Du α}{g:Nat}{cs:Bu}{x:α}(hb:w.heap[g]?=some (.cells cs.toArray e))(hs:cs.length=s)(hq:Q w cs x []):AQ e s Q w (sP (Qb g 0) 1 1) [x] [g]:=
 ⟨[(cs,x,[])],⟨by simp[hs],.inr ⟨g,1,cs.toArray,rfl,Eg _,hb,EO _,zu,by simp[hs],by subst hs;simp⟩⟩,fun z hz=>by rw[Bh.1 hz];exact⟨hs,hq⟩,rfl,by simp[Value.ownBlock],zw⟩
variable {Aa:Int}
def Ygw {B D:Nat}{u:Bb}{g t:Nat}(hk:Gq Aa)(hg:g<B)(ht:t<B)(h1:AO u g #[.string ⟨#[116,105,109,101]⟩,sP (Qb t 0) 1 1] 64)(h2:AO u t #[zo 5,zo Aa,sE,zn] 95):Ep B u (D+2) g 0 (rF Aa):=
 ⟨hg,h1.two.1,by show 4<1000000000;decide,_,h1.two.2.1,_,_,rfl,EO _,wW ⟨⟨ht,trivial⟩,_,h2.four.1,h2.four.2.1,h2.four.2.2.1,h2.four.2.2.2.1,rfl,rfl,rfl,⟨by show(-9223372036854775808:Int)<=5;decide,by show(5:Int)<=9223372036854775807;decide⟩,hk,by show 0<1000000000;decide,_,_,rfl,EO _,ak⟩⟩
def Ybz:J3 prog 213 80 1 8:=by
 obtain⟨i0,hi,hz0,hz1,hz2⟩:=info_parts (by kernel_rfl:(prog.info? 80).map (fun i=>(i.zero,i.size,i.bytes))=some (some<|.pointer none,1,8));exact⟨i0,_,underlying213,hi,hz0,hz1,hz2,rfl,zu,zu⟩
def Ygx (Aa:Int):Rz (rF Aa):=by
 refine⟨by show 4<=16;decide,fun x hx=>?_,by show 1<=6;decide,rfl⟩;have hx:x= .mk 5 Aa ⟨#[]⟩ []:=by simpa[rF]using hx
 subst hx;rfl
structure kY (x:Bk):Prop where
 fl:x.fa.length<=24
 fo: ∀ y,y∈x.fa->Rz y
 rl:x.ru.length<=24
 ro: ∀ y,y∈x.ru->Jj y
 cl:x.ck.length<=24
 co: ∀ y,y∈x.ck->y.length<=4/\ ∀ r,r∈y->Jj r
def kY.of {x:Bk}(h:IU x=0):kY x:=by
 obtain⟨h1,h2⟩:=NI (fun q=>q) h;obtain⟨h3,h4⟩:=NI (fun q=>q) h2;obtain⟨f1,f2⟩:=MX (by omega:Ei Ul 24 x.fa=0);obtain⟨r1,r2⟩:=MX (by omega:Ei TZ 24 x.ru=0);obtain⟨c1,c2⟩:=MX h4;refine⟨f1,fun y q=>Rz.fact (f2 y q),r1,fun y q=>Jj.rule (r2 y q),c1,fun y q=>?_⟩;obtain⟨_,k2⟩:=NI (fun _=>zu)<|c2 y q;obtain⟨e1,e2⟩:=MX k2;exact⟨e1,fun r hr=>Jj.bare (e2 r hr)⟩
def Ygq {b0:Bk}{bs:List Bk}(h: ∀ x,x∈b0::bs->kY x){y:Sd}(hy:y∈JL Aa (b0::bs)):(∀ x,x∈y.1->Rz x)/\y.1.length<=60/\(∀ r,r∈y.2->Jj r)/\y.2.length<=100:=by
 have h0:=h b0 zw;have f0: ∀ x,x∈(Ec Aa b0).1->Rz x:=fun x hx=>by
  rcases Ak.1 hx with rfl | hx
  .exact Ygx Aa
  .exact h0.fo x hx
 have l0:(Ec Aa b0).1.length=b0.fa.length+1:=rfl;have l1:(Ec Aa b0).2=b0.ru:=rfl
 have:=h0.fl
 have:=h0.rl
 rcases Ak.1 hy with rfl | hy
 .exact⟨f0,zx,h0.ro,by rw[l1];omega⟩
 .obtain⟨c,hc,rfl⟩:=List.mem_map.1 hy;have hc:=h c (by simp[hc])
  have:=hc.fl
  have:=hc.rl
  refine⟨fun x hx=>?_,by show((Ec Aa b0).1++c.fa).length<=60;rw[JS];omega,fun x hx=>?_,by show((Ec Aa b0).2++c.ru).length<=100;rw[JS,l1];omega⟩
  .rcases Aj.1 hx with hx | hx
   .exact f0 x hx
   .exact hc.fo x hx
  .rcases Aj.1 hx with hx | hx
   .exact h0.ro x hx
   .exact hc.ro x hx
section
variable {a:Nat->Addr}{B p:Nat}{vs:List T}{F:Cg}{w:Bb}
structure WS where
 p:Nat
 fs:List Fc
 vs:List T
 F:Cg
structure ZG (a:Nat->Addr) (B:Nat) (X:Cg) (l:List WS) (w:Bb):Prop where
 each: ∀ s,s∈l->GA a B s.p s.fs s.vs s.F w
 apart:l.Pairwise fun x y=> ∀ j,j∈x.F->j∉y.F
 rest: ∀ j,j∈X->j<w.heap.size/\24<=j/\ ∀ s,s∈l->j∉s.F
def Ye8 (s:WS) (y:Sd):Prop:=(∀ x,x∈s.fs↔Uc y.1 y.2 x)/\s.vs=(Vb y.1 y.2).1/\s.vs.length<=5000
def GA.off {fs:List Fc}{G:Cg}{w':Bb}(h:GA a B p fs vs F w)(ho:Off G w w')(hd: ∀ j,j∈F->j∉G)(hg: ∀ j,j∈G->24<=j):GA a B p fs vs F w':=⟨h.wd.off ho hd,h.gl.of ho hg,h.hF,Ab h.hB ho.size,h.hFB,h.PR,h.inn⟩
def GA.less {C:Nat}{fs:List Fc}(h:GA a B p fs vs F w)(hc:C<=B):GA a C p fs vs F w:=⟨h.wd,h.gl,h.hF,Ab hc h.hB,fun i hi=>Ab hc (h.hFB i hi),h.PR,h.inn⟩
def Yeb (N D:Nat) (Aa:Int) (b0:Bk) (bs:List Bk) (w7:Bb) (k:Nat) (sv:Value) (wr:Bb):Prop:= ∃ hs Fs,AQ 38 3 XH wr sv hs Fs/\Ag N wr Fs/\hs.map (·.x)=JL Aa (b0::bs.take k)/\(∀ h,h∈hs->XG N D wr h/\ ∀ j,j∈Fs-> ¬ (h.lo<=j/\j<h.hi))/\Below N w7 wr
def Yee (a:Nat->Addr) (B:Nat) (ys:List Sd) (w8:Bb) (k:Nat) (wv:Value) (wr:Bb):Prop:= ∃ l Fw,AQ 80 1 Jf wr wv (l.map (·.p)) Fw/\Ag w8.heap.size wr Fw/\ZG a B Fw l wr/\l.length=k/\(∀ (i:Nat) s,l[i]?=some s-> ∃ y,ys[i]?=some y/\Ye8 s y)/\(∀ (i:Nat) y,i<k->ys[i]?=some y->kR y.1 y.2)/\Bl w8 wr/\ ∀ s,s∈l-> ∀ j,j∈s.F->w8.heap.size<=j
def Yj8 (a:Nat->Addr) (B:Nat) (Aa:Int) (bs:List Bk) (w:Bb) (e:Ending) (w':Bb):Prop:=Bl w w'/\((¬ ZH Aa bs/\e=uY (.tuple #[zn,.bool false]))\/(ZH Aa bs/\ ∃ v l Fw,e=uY (.tuple #[v,.bool true])/\AQ 80 1 Jf w' v (l.map (·.p)) Fw/\ZG a B Fw l w'/\l.length=bs.length/\(∀ (i:Nat) s,l[i]?=some s-> ∃ y,(JL Aa bs)[i]?=some y/\Ye8 s y)/\ ∀ s,s∈l-> ∀ j,j∈s.F->w.heap.size<=j))
attribute [local go_sem] Me
def Zzc (hG:Oq a w){D b o c:Nat}(hB:B<=w.heap.size){Aa:Int}(hk:Gq Aa){b0:Bk}{bs:List Bk}(hr:Ap 3 (Iz B w<|D+3) (Qb b o) (b0::bs))(hc:bs.length+1<=c)(Aq: ∀ x,x∈b0::bs->kY x)(VK:bs.length<=8){pq:Bp}{nq cq:Nat}:
  Calls prog 100 #[sP (Qb b o) (b0::bs).length c,.agg #[zo Aa,zn,sP pq nq cq]] w fun e w'=>Yj8 a B Aa (b0::bs) w e w':=by
 obtain⟨b1,o1,e1,hb0⟩:=hr.at_ 0 b0 rfl;injection e1 with e1;injection e1 with e1 e2;subst e1;subst e2;simp only[YC,Qs]at hb0;obtain⟨VO,fb,MH,rb,KN,kb,WV,k0,k1,k2,hS0'⟩:=hb0.vals;obtain⟨_,_,_,_,_,_,e,_,jD,_,Jo,_,_⟩:=hS0';simp only[List.cons.injEq,Value.slice.injEq,true_and,and_true]at e;obtain⟨⟨rfl,rfl⟩,⟨rfl,rfl⟩,rfl,rfl⟩:=e;have hb0:=Aq b0 zw;have H1:AF (∀ u g t,g<w.heap.size+5->t<w.heap.size+5->w.heap.size+5<=u.heap.size->Bl w u->AO u g #[.string ⟨#[116,105,109,101]⟩,sP (Qb t 0) 1 1] 64->AO u t #[zo 5,zo Aa,.string ⟨#[]⟩,zn] 95->Calls prog 156 #[.agg #[sP (Qb g 0) 1 1,zn,zn],.agg #[sP fb b0.fa.length MH,sP rb b0.ru.length KN,sP kb b0.ck.length WV]] u fun e w'=> ∃ pf cf pr cr,e=uY (.agg #[sP pf (Ec Aa b0).1.length cf,sP pr (Ec Aa b0).2.length cr,zn])/\XG (w.heap.size+5) (D+1) w' ⟨pf,cf,pr,cr,u.heap.size,w'.heap.size,Ec Aa b0⟩/\Bl u w'):=⟨fun u g t hg ht hu hb q1 q2=>by
  have hcr:=Go.W.Below.cy (hb.mono hB) (B':=w.heap.size+5) zx;refine(Zr0 (ra:=none) (xs:=[rF Aa]) (rs:=[]) hu (wW<|Ygw hk hg ht q1 q2) (jD.cy fun _ _ _ q=>q.cy hcr lr) ak (Jo.cy fun _ _ _ q=>q.cy hcr lr) (by have:=hb0.fl;have:=hb0.rl;simp;omega)).mono ?_;rintro e w' ⟨pf,cf,pr,cr,rfl,hv,hb'⟩;exact⟨pf,cf,pr,cr,rfl,⟨EO _,fun v h1 h2=>hv v h1 (fun j hj=>h2 j (.inl hj)) fun j hj Am=>h2 j (.inr ⟨hj,Am⟩)⟩,hb'⟩⟩
 have lb:=Wx k0;obtain⟨n,hn⟩:=cK (bs.length);rw[DU,hn.o];rw[hn.o]at hc VK;have HR:=AC hr;have sD:=AC Aq;have HG:=AC hG;clear hr Aq jD Jo hb0 hG;refine X9 func100 rfl ?_;simp only[ntmps100,GN,DU,JC,Nat.reduceAdd,Nat.reduceSub,Qu,Qv,Qr,Qt,JU,EC];go_wp2_with fail
 obtain⟨W5,hW5⟩:=cK (((((w.alloc<|.cells #[zo Aa,zn,sP pq nq cq] 55).alloc<|.cells #[zo 5,zo Aa,.string ⟨#[]⟩,zn] 95).alloc<|.cells #[.string ⟨#[116,105,109,101]⟩,sP (Qb (w.heap.size+1) 0) 1 1] 64).alloc<|.cells #[.string ⟨#[116,105,109,101]⟩,sP (Qb (w.heap.size+1) 0) 1 1] 64).alloc (.cells #[sP (Qb (w.heap.size+1+1+1) 0) 1 1,zn,zn] 38));rw[hW5.o];have B5:Bl w W5:=hW5.o▸(((((AR _ w).alloc lr _).alloc zw _).alloc zc _).alloc zc _).alloc zc _;have Z5:AF (W5.heap.size=w.heap.size+5):=⟨by rw[<- hW5.o];simp⟩;have N1:AO W5 (w.heap.size+1) #[zo 5,zo Aa,.string ⟨#[]⟩,zn] 95:=hW5.o▸(((Ur w _ _ _).alloc _).alloc _).alloc _;have N3:AO W5 (w.heap.size+1+1+1) #[.string ⟨#[116,105,109,101]⟩,sP (Qb (w.heap.size+1) 0) 1 1] 64:=by
  rw[<- hW5.o];refine AO.alloc ?_ _
  have:=AO.new (((w.alloc<|.cells #[zo Aa,zn,sP pq nq cq] 55).alloc<|.cells #[zo 5,zo Aa,.string ⟨#[]⟩,zn] 95).alloc<|.cells #[.string ⟨#[116,105,109,101]⟩,sP (Qb (w.heap.size+1) 0) 1 1] 64) #[.string ⟨#[116,105,109,101]⟩,sP (Qb (w.heap.size+1) 0) 1 1] 64
  simpa using this
 have N4:AO W5 (w.heap.size+1+1+1+1) #[sP (Qb (w.heap.size+1+1+1) 0) 1 1,zn,zn] 38:=by
  rw[<- hW5.o]
  have:=AO.new ((((w.alloc<|.cells #[zo Aa,zn,sP pq nq cq] 55).alloc<|.cells #[zo 5,zo Aa,.string ⟨#[]⟩,zn] 95).alloc<|.cells #[.string ⟨#[116,105,109,101]⟩,sP (Qb (w.heap.size+1) 0) 1 1] 64).alloc<|.cells #[.string ⟨#[116,105,109,101]⟩,sP (Qb (w.heap.size+1) 0) 1 1] 64) #[sP (Qb (w.heap.size+1+1+1) 0) 1 1,zn,zn] 38
  simpa using this
 have HS:AF (∀ u,Bl W5 u->u.cell? (zm (w.heap.size+1+1+1+1) 0)=some (sP (Qb (w.heap.size+1+1+1) 0) 1 1)/\u.cell? (zm (w.heap.size+1+1+1+1) 1)=some (zn)/\u.cell? (zm (w.heap.size+1+1+1+1) 2)=some (zn)/\u.cell? (zm b o)=some (sP fb b0.fa.length MH)/\u.cell? (zm b (o+1))=some (sP rb b0.ru.length KN)/\u.cell? (zm b (o+2))=some (sP kb b0.ck.length WV)):=⟨fun u hu=>by
  have e:=(N4.of<|hu.block _ N4.lt).three;have hb':u.heap[b]?=w.heap[b]?:=(hu.block b (fw (Z5.o))).trans<|B5.block b lb;exact⟨e.1,e.2.1,e.2.2.1,(A9 (a:=(zm b o)) hb').trans k0,(A9 (a:=(zm b (o+1))) hb').trans k1,(A9 (a:=(zm b (o+2))) hb').trans k2⟩⟩
 have AY:=HS.o W5.drew (AR _ W5).drew;clear k0 k1 k2;refine Ya9 (fun a' w'=> ∃ pK pf cf pr cr lo hi,a'={tmps:=#[sP (Qb b o) (n+1) c,.agg #[zo Aa,zn,sP pq nq cq],undef,zq w.heap.size 0,zn,.bool false,zq (w.heap.size+1+1) 0,zq (w.heap.size+1+1+1+1) 0,zq pK 0,undef,undef,undef,undef,undef,undef,undef,undef,zq w.heap.size 0,zo Aa,.agg #[zo 5,zo Aa,.string ⟨#[]⟩,zn],sP (Qb (w.heap.size+1) 0) 1 1,.agg #[.string ⟨#[116,105,109,101]⟩,sP (Qb (w.heap.size+1) 0) 1 1],.agg #[.string ⟨#[116,105,109,101]⟩,sP (Qb (w.heap.size+1) 0) 1 1],sP (Qb (w.heap.size+1+1+1) 0) 1 1,zq w.heap.size 1,zn,sP (Qb (w.heap.size+1+1+1) 0) 1 1,.agg #[sP (Qb (w.heap.size+1+1+1) 0) 1 1,zn,zn],.agg #[sP (Qb (w.heap.size+1+1+1) 0) 1 1,zn,zn],sP (Qb b o) (n+1) c,zq b o,.agg #[sP fb b0.fa.length MH,sP rb b0.ru.length KN,sP kb b0.ck.length WV],.agg #[sP pf (Ec Aa b0).1.length cf,sP pr (Ec Aa b0).2.length cr,zn],undef,undef,undef,undef,undef,undef,undef,undef,undef,undef,undef,undef,undef,undef,undef,undef,undef,undef,undef,undef,undef,undef,undef,undef,undef,undef,undef,undef,undef,undef,undef,undef,undef,undef,undef,undef,undef,undef],defers:=[]}/\XG (w.heap.size+5) (D+1) w' ⟨pf,cf,pr,cr,lo,hi,Ec Aa b0⟩/\Bl W5 w'/\AO w' pK #[sP pf (Ec Aa b0).1.length cf,sP pr (Ec Aa b0).2.length cr,zn] 38/\W5.heap.size<=pK) ?_ ?_;refine Vj 6 (fun u=>u.cell? (zm (w.heap.size+1+1+1+1) 0)=some (sP (Qb (w.heap.size+1+1+1) 0) 1 1)/\u.cell? (zm (w.heap.size+1+1+1+1) 1)=some (zn)/\u.cell? (zm (w.heap.size+1+1+1+1) 2)=some (zn)/\u.cell? (zm b o)=some (sP fb b0.fa.length MH)/\u.cell? (zm b (o+1))=some (sP rb b0.ru.length KN)/\u.cell? (zm b (o+2))=some (sP kb b0.ck.length WV)) zt ?_;refine z9 0 (.agg #[sP (Qb (w.heap.size+1+1+1) 0) 1 1,zn,zn]) AY ?_
 refine z9 1 (sP (Qb b o) (n+1) c) AY ?_
 refine z9 2 (zq b o) AY ?_
 refine z9 3 (.agg #[sP fb b0.fa.length MH,sP rb b0.ru.length KN,sP kb b0.ck.length WV]) AY ?_
 refine lU 4 5 (h:=fun K' hK'=>?_) (h':=fun K' hK'=>?_)
 .go_simp;apply(H1.o W5.drew (w.heap.size+1+1+1) (w.heap.size+1) zx zx (Nat.le_of_eq Z5.o.symm) B5.drew (N3.of rfl)<|N1.of rfl).mono;rintro e w6 ⟨pf,cf,pr,cr,rfl,j1,Gp⟩;have B6:Bl W5 w6:=(AR _ W5).drew.trans Gp;refine hK'.o _ _ (HS.o _ B6) ?_;try simp only[zz]
  refine rz 5 (h:=fun K' hK'=>?_);go_simp;refine hK'.o _ _ (HS.o _<|B6.alloc B6.size _) ?_;try simp only[zz]
  refine yq ?_;exact⟨w6.heap.size,pf,cf,pr,cr,_,_,rfl,j1.of zw fun j hj=>Ah _ _ _ (by have h1:=B6.size;have h2:=Z5.o;have h3:j<w.heap.size+5\/(_<=j/\j<w6.heap.size):=hj;omega),B6.alloc B6.size _,AO.new w6 _ _,B6.size⟩
 .go_simp;refine hK'.o _ _ (HS.o _<|(AR _ W5).drew.alloc lr _) ?_;try simp only[zz]
  refine rz 4 (h:=fun K' hK'=>?_);go_simp;obtain⟨W6,hW6⟩:=cK ((W5.alloc<|.cells #[zn,zn,zn] 38).drew);rw[hW6.o];have B6:Bl W5 W6:=hW6.o▸((AR _ W5).alloc lr _).drew;have N6:AO W6 W5.heap.size #[zn,zn,zn] 38:=hW6.o▸(AO.new W5 _ _).of rfl;apply(H1.o W6 (w.heap.size+1+1+1) (w.heap.size+1) zx zx (jE (B6.size) (Z5.o)) (B5.trans<|B6.mono B5.size) (N3.of<|B6.block _ N3.lt)<|N1.of<|B6.block _ N1.lt).mono;rintro e w7 ⟨pf,cf,pr,cr,rfl,j1,G6⟩;have B7:Bl W5 w7:=B6.trans<|G6.mono B6.size;have N7:=N6.of<|G6.block _ N6.lt;obtain⟨y0,y1,y2,ys⟩:=N7.three;refine hK'.o _ _ (HS.o _ B7) ?_;try simp only[zz]
  refine yq ?_;have e3: ∀ j,j≠W5.heap.size->(((w7.setCell (zm W5.heap.size 0)<|sP pf (Ec Aa b0).1.length cf).setCell (zm W5.heap.size 1)<|sP pr (Ec Aa b0).2.length cr).setCell (zm W5.heap.size 2)<|zn).heap[j]?=w7.heap[j]?:=fun j hj=>(Aw _ _ _ _ hj).trans ((Aw _ _ _ _ hj).trans<|Aw _ _ _ _ hj);have N9:=((N7.set 0<|sP pf (Ec Aa b0).1.length cf).set 1<|sP pr (Ec Aa b0).2.length cr).set 2<|zn;exact⟨W5.heap.size,pf,cf,pr,cr,_,_,rfl,j1.of (by simp[World.setCell]) fun j hj=>e3 j (by have h2:=Z5.o;have h4:=N6.lt;have h3:j<w.heap.size+5\/(W6.heap.size<=j/\j<w7.heap.size):=hj;omega),SA _ (SA _ (SA _ B7 lr 0 _) lr 1 _) lr 2 _,by simpa using N9,EO _⟩
 rintro a' w7 ⟨pK,pf,cf,pr,cr,lo,hi,rfl,j1,B7,hF,lf⟩;dsimp only;have HJ1:AF (XG w7.heap.size (D+1) w7 ⟨pf,cf,pr,cr,lo,hi,Ec Aa b0⟩):=⟨j1.mono (jE (Z5.o) (B7.size))⟩;have b7:Bl w w7:=B5.trans<|B7.mono B5.size;have Zw:=AC b7;have z7:=b7.size;have hfN:=hF.lt;have HF:=AC hF;obtain⟨f0,f1,f2,fs⟩:=hF.three;have S0:AF (Yeb w7.heap.size (D+1) Aa b0 bs w7 0 (sP (Qb w7.heap.size 0) 1 1)<|w7.alloc<|.cells #[sP pf (Ec Aa b0).1.length cf,sP pr (Ec Aa b0).2.length cr,zn] 38):=by
  refine⟨[⟨pf,cf,pr,cr,lo,hi,Ec Aa b0⟩],[w7.heap.size],AQ.yJ (World.alloc_heap_new w7 _) rfl ⟨rfl,rfl⟩,⟨zw,fun k hk=>by simp at hk;omega,fun k hk=>by simp at hk;simp;omega⟩,rfl,fun h hh=>?_,(AR _ w7).alloc lr _⟩;rw[Bh.1 hh];have hh':hi<=w7.heap.size:=HJ1.o.hi;refine⟨HJ1.o.of zw fun j hj=>Ah _ _ _ (hj.elim id fun q=>by have q:lo<=j/\j<hi:=q;omega),fun j hj q=>?_⟩;have q:lo<=j/\j<hi:=q;simp at hj;omega
 clear j1 B7 hF N1 N3 N4 AY b7 B5 hW5 Z5 HS H1;go_wp2_with fail
 all_goals
  go_loopw [38,9] (fun iv sv wr=> ∃ k:Nat,k<=n/\iv= zo (k:Int)/\Yeb w7.heap.size (D+1) Aa b0 bs w7 k sv wr) (fun iv _ _=>n-(intOf iv).toNat)
  .exact⟨0,Eg _,rfl,S0.o⟩
  .obtain⟨k,hk,rfl,hs,Fs,hrow,Bi,hmap,II,JY⟩:=hrel;have iX:=JY.size;obtain⟨ps,Ja,rfl⟩:=AQ.form hrow;have Yc:hs.length<=9:=by
    have h1:=congrArg List.length hmap;have h2:(bs.take k).length<=bs.length:=List.length_take_le' k bs;have h3:=hn.o;simp only[Dj,JL,DU]at h1;omega
   by_cases hlt:k<n
   .first
    |exfalso
     omega
    |have g:(k:Int)<(n:Int):=zx
     obtain⟨x,GR⟩: ∃ x,bs[k]?=some x:=⟨_,A8 (fw (hn.o))⟩;have Ou:=sD.o x (by simp[Ej GR]);obtain⟨b',o',e1,hA⟩:=HR.o.at_ (k+1) x (by simpa using GR);injection e1 with e1;injection e1 with e1 e2;subst e1;subst e2;rw[show o+(k+1)*3=o+3+k*3 by omega]at hA;have hcw:EG B B w wr:=Go.W.Below.cy ((Zw.o.mono hB).trans<|JY.mono zx) lr;obtain⟨VO,fc,cfc,rc,crc,kc,jP,z0,z1,z2,hSx⟩:=(Iz.cy hcw lr hA).vals;obtain⟨_,_,_,_,_,_,e,_,OQ,_,hrx,_,_⟩:=hSx;simp only[List.cons.injEq,Value.slice.injEq,true_and,and_true]at e;obtain⟨⟨rfl,rfl⟩,⟨rfl,rfl⟩,rfl,rfl⟩:=e;have uQ:=HF.o.of<|JY.block pK hfN;have y0:=fun ob=>(uQ.alloc ob).three.1;have y1:=fun ob=>(uQ.alloc ob).three.2.1;have y2:=fun ob=>(uQ.alloc ob).three.2.2.1;have CU:AF (∀ u,Bl wr u->Calls prog 156 #[.agg #[sP pf (Ec Aa b0).1.length cf,sP pr (Ec Aa b0).2.length cr,zn],.agg #[sP fc x.fa.length cfc,sP rc x.ru.length crc,sP kc x.ck.length jP]] u fun e w'=> ∃ h:YK,e=uY (.agg h.cells.toArray)/\h.x=rY (Ec Aa b0) x/\h.lo=u.heap.size/\h.hi=w'.heap.size/\XG w7.heap.size (D+1) w' h/\Bl u w'):=⟨fun u hu=>by
      obtain⟨r1,r2⟩:=HJ1.o.rows w7 lr fun _ _=>rfl;have c1:EG w7.heap.size w7.heap.size w7 u:=Go.W.Below.cy (JY.trans<|hu.mono iX) lr;have c2:EG B w7.heap.size wr u:=Go.W.Below.cy (hu.mono zx) zx;have hb0:=sD.o b0 zw;refine(Zr0 (B:=w7.heap.size) (xs:=(Ec Aa b0).1) (rs:=(Ec Aa b0).2) (fw (hu.size)) (r1.cy fun _ _ _ q=>q.cy c1 lr) (OQ.cy fun _ _ _ q=>q.cy c2 lr) (r2.cy fun _ _ _ q=>q.cy c1 lr) (hrx.cy fun _ _ _ q=>q.cy c2 lr) (by have:=hb0.fl;have:=hb0.rl;have:=Ou.fl;have:=Ou.rl;have l0:(Ec Aa b0).1.length=b0.fa.length+1:=rfl;have l1:(Ec Aa b0).2.length=b0.ru.length:=rfl;omega)).mono ?_;rintro e w' ⟨pf',cf',pr',cr',rfl,hv,hb'⟩;exact⟨⟨pf',cf',pr',cr',u.heap.size,w'.heap.size,rY (Ec Aa b0) x⟩,rfl,rfl,rfl,rfl,⟨EO _,fun v h1 h2=>hv v h1 (fun j hj=>h2 j (.inl hj)) fun j hj Am=>h2 j (.inr ⟨hj,Am⟩)⟩,hb'⟩⟩
     have HX:=AC<|AJ hrow<|AJ Bi<|AJ hmap<|AJ II<|AJ JY GR;generalize hnh:hs.length=nh at*;have HNH:=AC hnh;clear hnh;clear hA OQ hrx hrow Bi hmap II JY hcw GR Ou uQ f0 f1 f2 fs;go_wp2_with fail
     apply(CU.o _<|(AR _ wr).alloc lr _).mono;rintro e w1 ⟨h,rfl,hx,Xc,aK,aB,hb1⟩;have BI:wr.heap.size+1<=w1.heap.size:=by have:=hb1.size;simpa using this
     have nN:wr.heap.size+1=h.lo:=by rw[Xc];simp
     have UB: ∀ j,j<wr.heap.size->w1.heap[j]?=wr.heap[j]?:=fun j hj=>(hb1.block j zc).trans (Ah _ _ _ hj);have R1:AF (AQ 38 3 XH w1 (sP ps nh Ja) hs Fs):=⟨AQ.sb XH.sb _ _ _ _ _ HX.o.1 fun j hj=>UB j (HX.o.2.1.lt j hj)⟩;have N1:AF (Ag w7.heap.size w1 Fs):=⟨HX.o.2.1.la lr zx⟩;have HY:=AC<|AJ hx<|AJ nN<|AJ aK<|AJ aB<|AJ hb1 UB;have Ox:h.cells=[sP h.pf h.x.1.length h.cf,sP h.pr h.x.2.length h.cr,zn]:=rfl;rw[Ox];clear hx Xc nN aK aB hb1 UB CU y0 y1 y2 z0 z1 z2 Ox;generalize NM:h.x.1.length=n1 at*;generalize Hl:h.x.2.length=n2 at*;have HN:=AC<|AJ NM Hl;clear NM Hl;go_wp2_with (at_builtin;go_must (refine Nu Zu7 rfl (.tmp 42) (.tmp 46) rfl XH.sb (fun _ _ _ _ h=>XH.one h) w7.heap.size (sP ps nh Ja) hs Fs rfl (AQ.sb XH.sb _ _ _ _ _ R1.o fun j hj=>Ah _ _ _ (N1.o.lt j hj)) w1.heap.size #[sP h.pf n1 h.cf,sP h.pr n2 h.cr,zn] 38 (0,0) h [] rfl (Hw _ _) rfl ⟨rfl,by rw[YK.cells,HN.o.1,HN.o.2]⟩ (by rw[HNH.o];omega) zc (N1.o.la lr zw) (Ag.nil _ _) (fun _ _ h=>by cases h) ?_);intro g1 UV w2 Fs2 AM;have IZ:=AC AM)
     clear AM;have hz2:w1.heap.size+1<=w2.heap.size:=by have:=IZ.o.size;simpa using this
     have Gy: ∀ j,j<w1.heap.size->j∉Fs->w2.heap[j]?=w1.heap[j]?:=fun j hj hn=>(IZ.o.same j zc hn).trans (Ah _ _ _ hj);obtain⟨hx,Xc,aK,aB,hb1,UB⟩:=HY.o;obtain⟨hrow,Bi,hmap,II,JY,GR⟩:=HX.o;have UC: ∀ j,j∈Fs2->j∈Fs\/w1.heap.size+1<=j:=fun j hj=>by
      rcases IZ.o.sub j hj with q | q | q
      .exact .inl q
      .cases q
      .exact .inr (by simpa using q)
     have B12:Below w7.heap.size wr w2:=⟨IZ.o.os.trans<|hb1.os.trans rfl,IZ.o.tape.trans<|hb1.tape.trans rfl,IZ.o.output.trans<|hb1.output.trans rfl,zx,fun j hj=>(Gy j zx fun q=>fw (Bi.ge j q)).trans (UB j zx)⟩;refine⟨⟨k+1,zx,zw,hs++[h],Fs2,IZ.o.row,IZ.o.new,?_,fun h' hh=>?_,JY.trans B12⟩,zd⟩
     .rw[wb,hmap,xp,List.map_nil,hx,PM,GR];simp[JL]
     .rcases Aj.1 hh with hh | hh
      .obtain⟨q1,q2⟩:=II h' hh;have nW:=q1.hi;refine⟨q1.of zx fun j hj=>?_,fun j hj q=>?_⟩
       .rcases hj with hj | hj
        .exact(Gy j zx fun q=>fw (Bi.ge j q)).trans<|UB j zx
        .exact(Gy j zx fun q=>q2 j q hj).trans<|UB j zx
       .rcases UC j hj with r | r
        .exact q2 j r q
        .omega
      .rw[Bh.1 hh];refine⟨aB.of zx fun j hj=>?_,fun j hj q=>?_⟩
       .rcases hj with hj | hj
        .exact Gy j zx fun q=>fw (Bi.ge j q)
        .exact Gy j zx fun q=>fw (Bi.lt j q)
       .rcases UC j hj with r | r
        .have:=Bi.lt j r;omega
        .omega
   .obtain rfl:k=n:=zx
    rw[U0 (fw (hn.o))]at hmap;obtain⟨W8,hW8⟩: ∃ W8,W8=wr:=⟨_,rfl⟩;subst hW8;have HX:=AC<|AJ hrow<|AJ hmap<|AJ II<|AJ JY Bi;have hlk:hs.length=k+1:=by
     have h1:=congrArg List.length hmap;have h3:=hn.o;simp only[Dj,JL,DU]at h1;omega
    rw[hlk];have HLK:=AC hlk;have W0:AF (Yee a B (JL Aa<|b0::bs) W8 0 (zn) W8):=⟨[],[],AQ.nil,Ag.nil _ _,⟨fun _ h=>(by cases h),List.Pairwise.nil,fun _ h=>(by cases h)⟩,rfl,fun i s h=>by simp at h,fun i y h=>zx,AR _ _,fun _ h=>by cases h⟩;clear hrow Bi hmap II hlk f0 f1 f2 fs;go_wp2
    go_loopw [51,12] (fun iv wv wr=> ∃ i:Nat,i<=k+1/\iv= zo (i:Int)/\Yee a B (JL Aa<|b0::bs) W8 i wv wr) (fun iv _ _=>k+1-(intOf iv).toNat)
    .exact⟨0,Eg _,rfl,W0.o⟩
    .obtain⟨i,hi,rfl,l,Fw,YU,YY,DX,Jq,FZ,hroom,GV,Yh⟩:=hrel;have HGF:=AC Yh;clear Yh;have iW:=GV.size;obtain⟨pw,cw,rfl⟩:=AQ.form YU;have tZ:(l.map (·.p)).length=i:=by rw[Dj,Jq]
     rw[tZ]at YU⊢;have HLW:=AC tZ;clear tZ;by_cases hlt:i<k+1
     .have g2:(i:Int)<(k:Int)+1:=zx
      obtain⟨hrow,hmap,II,JY,Bi⟩:=HX.o;obtain⟨h,aK⟩: ∃ h,hs[i]?=some h:=⟨_,A8 (fw (HLK.o))⟩;obtain⟨gs,cgs,cs,G,ev,hgs,⟨_,rfl⟩,key⟩:=AQ.nth (AQ.sb XH.sb _ wr _ _ _ hrow fun j hj=>GV.block j (Bi.lt j hj)) i h aK;injection ev with ev1 ev2 ev3;subst ev1;have y0:=key 0 _ rfl;have y1:=key 1 _ rfl;have y2:=key 2 _ rfl;rw[Qs]at y0;have hy:(JL Aa<|b0::bs)[i]?=some h.x:=by rw[<- hmap,FK,aK];rfl
      obtain⟨ao,al,ro,rl⟩:=Ygq sD.o<|Ej hy;obtain⟨aB,_⟩:=II h<|Ej aK;have hi8:=aB.hi;have CW:AF (∀ u,Bl wr u->Calls prog 25 #[sP h.pf h.x.1.length h.cf,sP h.pr h.x.2.length h.cr] u fun e w'=>CwP a u.heap.size h.x.1 h.x.2 u e w'):=⟨fun u hu=>by
       have bu:Bl w u:=(Zw.o.trans<|JY.mono z7).trans<|(GV.mono zx).trans<|hu.mono zx;obtain⟨r1,r2⟩:=aB.rows u (fw (hu.size)) fun j hj=>(hu.block j zx).trans (GV.block j zx);exact Zqb (HG.o.of (F:=[]) (Off.of bu) fun _ h=>(by cases h)) lr r1 ao al r2 ro rl⟩
      have HW:=AC<|AJ YU<|AJ YY<|AJ DX<|AJ Jq<|AJ FZ<|AJ hroom<|AJ GV hy;generalize NM:h.x.1.length=n1 at*;generalize Hl:h.x.2.length=n2 at*;clear hrow hmap II JY Bi aK key YU YY DX Jq FZ hroom GV hy ao al ro rl aB NM Hl ev2 ev3;go_wp2_with fail
      apply(CW.o _<|(AR _ wr).alloc lr _).mono;rintro e w1 ⟨p,r,fs',F1,rfl,E6,OQ,Ci,hb1,VN,JE⟩;have BI:wr.heap.size+1<=w1.heap.size:=by have:=hb1.size;simpa using this
      have UB: ∀ j,j<wr.heap.size->w1.heap[j]?=wr.heap[j]?:=fun j hj=>(hb1.block j zc).trans (Ah _ _ _ hj);have MB: ∀ j,j∈F1->wr.heap.size+1<=j:=fun j hj=>by have:=VN j hj;simpa using this
      have HY:=AC<|AJ E6<|AJ OQ<|AJ Ci<|AJ hb1<|AJ MB<|AJ JE UB;have R1:AF (AQ 80 1 Jf w1 (sP pw i cw) (l.map (·.p)) Fw):=⟨AQ.sb Jf.sb _ _ _ _ _ HW.o.1 fun j hj=>UB j (HW.o.2.1.lt j hj)⟩;have N1:AF (Ag W8.heap.size w1 Fw):=⟨HW.o.2.1.la lr zx⟩;have BW:AF (∀ u,Bl wr u->Bl w u):=⟨fun u hu=>(Zw.o.trans<|HX.o.2.2.2.1.mono z7).trans ((HW.o.2.2.2.2.2.2.1.mono zx).trans<|hu.mono zx)⟩;clear E6 OQ Ci hb1 VN MB JE UB CW y0 y1 y2;cases r with
      | false=>
       go_wp2
       go_ret2
       obtain⟨E6,_,_,hb1,_⟩:=HY.o;refine⟨BW.o _<|((AR _ wr).alloc lr _).trans<|hb1.mono zw,.inl ⟨fun q=>?_,rfl⟩⟩
       have:=E6.2<|q _<|Ej HW.o.2.2.2.2.2.2.2
       cases this
      | true=>
       go_wp2_with (at_builtin;go_must (refine Nu Ybz rfl (.tmp 65) (.tmp 67) rfl Jf.sb (fun _ _ _ _ h=>Jf.one h) W8.heap.size (sP pw i cw) (l.map (·.p)) Fw rfl (AQ.sb Jf.sb _ _ _ _ _ R1.o fun j hj=>Ah _ _ _ (N1.o.lt j hj)) w1.heap.size #[zq p 0] 80 (0,0) p [] rfl (Hw _ _) rfl ⟨rfl,rfl⟩ (by rw[HLW.o];omega) zc (N1.o.la lr zw) (Ag.nil _ _) (fun _ _ h=>by cases h) ?_);intro g1 UV w2 Fw2 AM;have IZ:=AC AM)
       clear AM;have hz2:w1.heap.size+1<=w2.heap.size:=by have:=IZ.o.size;simpa using this
       have Gy: ∀ j,j<w1.heap.size->j∉Fw->w2.heap[j]?=w1.heap[j]?:=fun j hj hn=>(IZ.o.same j zc hn).trans (Ah _ _ _ hj);have O2:Off Fw w1 w2:=⟨IZ.o.os,IZ.o.tape,IZ.o.output,zx,Gy⟩;obtain⟨E6,OQ,Ci,hb1,MB,JE,UB⟩:=HY.o;obtain⟨YU,YY,DX,Jq,FZ,hroom,GV,hy⟩:=HW.o;have uB:=HG.o.most;have hwz:=(BW.o wr<|AR _ _).size;have h78:=HX.o.2.2.2.1.size;have b1:Bl wr w1:=((AR _ wr).alloc lr _).trans<|hb1.mono zw;have UC: ∀ j,j∈Fw2->j∈Fw\/w1.heap.size+1<=j:=fun j hj=>by
        rcases IZ.o.sub j hj with q | q | q
        .exact .inl q
        .cases q
        .exact .inr (by simpa using q)
       have gFw: ∀ j,j∈Fw->24<=j:=fun j hj=>(DX.rest j hj).2.1;have sF1:=Ci.wd.lt;refine⟨⟨i+1,zx,zw,l++[⟨p,fs',(Vb h.x.1 h.x.2).1,F1⟩],Fw2,?_,IZ.o.new,⟨fun s hs=>?_,?_,fun j hj=>⟨IZ.o.new.lt j hj,?_,fun s hs q=>?_⟩⟩,by simp[Jq],fun j s hj=>?_,fun j y hj Lx=>?_,GV.trans ⟨O2.os.trans b1.os,O2.tape.trans b1.tape,O2.output.trans b1.output,zx,fun j hj=>(Gy j zx fun q=>fw (YY.ge j q)).trans (UB j zx)⟩,fun s hs j hj=>?_⟩,zd⟩
       .have:=IZ.o.row
        rw[Dj]at this;rw[wb];exact this
       .rcases Aj.1 hs with hs | hs
        .exact((DX.each s hs).be b1).off O2 (fun j hj q=>(DX.rest j q).2.2 s hs hj) gFw
        .rw[Bh.1 hs];exact(Ci.less zc).off O2 (fun j hj q=>jE (MB j hj) (YY.lt j q)) gFw
       .rw[List.pairwise_append];refine⟨DX.apart,zw,fun x hx y hy j hj q=>?_⟩;rw[Bh.1 hy]at q;have h1:=(DX.each x hx).wd.lt j hj;have h2:=MB j q;omega
       .rcases UC j hj with q | q
        .exact gFw j q
        .omega
       .rcases Aj.1 hs with hs | hs
        .rcases UC j hj with r | r
         .exact(DX.rest j r).2.2 s hs q
         .have:=(DX.each s hs).wd.lt j q;omega
        .rw[Bh.1 hs]at q;have h1:=MB j q;have h2:=sF1 j q;rcases UC j hj with r | r
         .have:=YY.lt j r;omega
         .omega
       .by_cases Il:j<i
        .rw[PK zx]at hj;exact FZ j s hj
        .rw[PL zx]at hj;have hj0:j-l.length=0:=by
          have:=(DW.1 hj).1
          simp at this;omega
         rw[hj0]at hj;injection hj with hj;subst hj
         have:j=i:=zx
         subst this;exact⟨h.x,hy,(OQ (by trivial)).2,rfl,JE⟩
       .by_cases Il:j<i
        .exact hroom j y Il Lx
        .have:j=i:=zx
         subst this;rw[hy]at Lx;injection Lx with Lx;subst Lx;exact E6.1 (by trivial)
       .rcases Aj.1 hs with hs | hs
        .exact HGF.o s hs j hj
        .rw[Bh.1 hs]at hj
         have:=MB j hj
         omega
     .obtain rfl:i=k+1:=zx
      have HW:=AC<|AJ YU<|AJ YY<|AJ DX<|AJ Jq<|AJ FZ<|AJ hroom GV;clear YU YY DX Jq FZ hroom GV;go_wp2
      go_ret2
      obtain⟨YU,YY,DX,Jq,FZ,hroom,GV⟩:=HW.o;have h78:=HX.o.2.2.2.1.size;refine⟨(Zw.o.trans<|HX.o.2.2.2.1.mono z7).trans<|GV.mono zx,.inr ⟨fun y hy=>?_,_,l,Fw,rfl,YU,DX,by rw[Jq,DU,hn.o],FZ,fun s hs j hj=>fw (HGF.o s hs j hj)⟩⟩;obtain⟨j,hj⟩:=List.mem_iff_getElem?.1 hy;refine hroom j y ?_ hj;have h1:=(DW.1 hj).1;have h3:=hn.o;simp only[JL,DU,Dj]at h1;omega
end
variable {bs:List Bk}{ps:List Dk}
def Z8l (h: ¬ ZH Aa bs):Ux Aa bs ps=4:=xd h
def Zxd (h:ZH Aa bs)(k: ¬ (fG Aa bs/\jY Aa bs ps)):Ux Aa bs ps=5:=(xj h).trans<|xd k
structure xA (ps:List Dk):Prop where
 len:ps.length<=24
 ok: ∀ x,x∈ps->x.either.length<=4/\ ∀ r,r∈x.either->Jj r
def xA.of (h:gD ps=0):xA ps:=by
 obtain⟨h1,h2⟩:=MX h;refine⟨h1,fun x q=>?_⟩;obtain⟨_,k2⟩:=NI (fun _=>zu)<|h2 x q;obtain⟨e1,e2⟩:=MX k2;exact⟨e1,fun r hr=>Jj.bare (e2 r hr)⟩
section
variable {a:Nat->Addr}{B:Nat}{X:Cg}{w w':Bb}
attribute [local go_sem] Me
def ZG.be {l:List WS}(h:ZG a B X l w)(hb:Bl w w'):ZG a B X l w':=⟨fun s hs=>(h.each s hs).be hb,h.apart,fun j hj=>⟨BK (h.rest j hj).1 hb.size,(h.rest j hj).2⟩⟩
def ZG.step {l1 l2:List WS}{s s':WS}(h:ZG a B X (l1++s::l2) w)(hs:GA a B s'.p s'.fs s'.vs s'.F w')(hm:Mv s.F s'.F w w'):ZG a B X (l1++s'::l2) w':=by
 have h0:=h.each s zw;have hap:=h.apart;rw[List.pairwise_append,List.pairwise_cons]at hap;obtain⟨p1,⟨p2,p3⟩,p4⟩:=hap;have two: ∀ t,t∈l1\/t∈l2-> ∀ j,j∈s.F->j∉t.F:=fun t ht j hj q=>ht.elim (fun ht=>p4 t ht s zw j q hj) fun ht=>p2 t ht j hj q;have mem: ∀ t,t∈l1\/t∈l2->t∈l1++s::l2:=fun t ht=>by simp only[Aj,Ak];exact ht.imp id .inr
 have new: ∀ t,t∈l1\/t∈l2-> ∀ j,j∈s'.F->j∉t.F:=fun t ht j hj q=>by
  rcases hm.2 j hj with r | r
  .exact two t ht j r q
  .have:=(h.each t<|mem t ht).wd.lt j q;omega
 refine⟨fun t ht=>?_,?_,fun j hj=>⟨BK (h.rest j hj).1 hm.1.size,(h.rest j hj).2.1,fun t ht q=>?_⟩⟩
 .simp only[Aj,Ak]at ht;rcases ht with ht | rfl | ht
  .exact(h.each t<|mem t<|.inl ht).off hm.1 (fun j hj q=>two t (.inl ht) j q hj) h0.hF
  .exact hs
  .exact(h.each t<|mem t<|.inr ht).off hm.1 (fun j hj q=>two t (.inr ht) j q hj) h0.hF
 .rw[List.pairwise_append,List.pairwise_cons];refine⟨p1,⟨fun t ht=>new t (.inr ht),p3⟩,fun t ht u hu j hj q=>?_⟩;rcases Ak.1 hu with rfl | hu
  .exact new t (.inl ht) j q hj
  .exact p4 t ht u (by simp[hu]) j hj q
 .simp only[Aj,Ak]at ht;rcases ht with ht | rfl | ht
  .exact(h.rest j hj).2.2 t (mem t<|.inl ht) q
  .rcases hm.2 j q with r | r
   .exact(h.rest j hj).2.2 s zw r
   .have:=(h.rest j hj).1;omega
  .exact(h.rest j hj).2.2 t (mem t<|.inr ht) q
def Ydo {α:Type}{l:List α}{i:Nat}{s:α}(h:l[i]?=some s): ∃ l1 l2,l=l1++s::l2/\l1.length=i:=by
 obtain⟨hi,e⟩:=DW.1 h;refine⟨l.take i,l.drop<|i+1,?_,by rw[wt];omega⟩;rw[<- e,<- xH hi,List.take_append_drop]
structure Yd6 (a:Nat->Addr) (B:Nat) (Aa:Int) (bs:List Bk) (v:Value) (w:Bb) (i:Nat) (l:List WS) (Fw:Cg) (wr:Bb):Prop where
 row:AQ 80 1 Jf wr v (l.map (·.p)) Fw
 team:ZG a B Fw l wr
 len:l.length=bs.length
 says: ∀ (j:Nat) s,i<=j->l[j]?=some s-> ∃ y,(JL Aa bs)[j]?=some y/\Ye8 s y
 first: ∀ s y b,l[0]?=some s->(JL Aa bs)[0]?=some y->bs[0]?=some b->0<i->(∀ x,x∈s.fs↔Uc y.1 y.2 x)/\s.vs=(okW y b.ck).2/\s.vs.length<=10000
 pass: ∀ (j:Nat) y b,j<i->(JL Aa bs)[j]?=some y->bs[j]?=some b->(okW y b.ck).1=true
 bel:Bl w wr
 ge: ∀ s,s∈l-> ∀ j,j∈s.F->w.heap.size<=j
def Zz9 (hG:Oq a w){D b o c:Nat}(hB:B<=w.heap.size){Aa:Int}(hk:Gq Aa){b0:Bk}{bs:List Bk}(hr:Ap 3 (Iz B w<|D+3) (Qb b o) (b0::bs))(hc:bs.length+1<=c)(Aq: ∀ x,x∈b0::bs->kY x)(VK:bs.length<=8){pq pp:Bp}{nq cq cp:Nat}{ps:List Dk}(hp:Ap 2 (Jh B w<|D+3) pp ps)(XZ:xA ps):
  Calls prog 46 #[sP (Qb b o) (b0::bs).length c,.agg #[zo Aa,zn,sP pq nq cq],sP pp ps.length cp] w fun e w'=>e=uY (.int .i64<|Ux Aa (b0::bs) ps)/\Bl w w':=by
 have CW:AF (∀ u,Bl w u->Calls prog 100 #[sP (Qb b o) (b0::bs).length c,.agg #[zo Aa,zn,sP pq nq cq]] u fun e w'=>Yj8 a B Aa (b0::bs) u e w'):=⟨fun u hu=>Zzc (hG.of (F:=[]) (Off.of hu) fun _ h=>(by cases h)) (Ab hB hu.size) hk (hr.cy fun _ _ _ q=>Iz.cy (Bq hu hB) lr q) hc Aq VK⟩;obtain⟨n,hn⟩:=cK ((b0::bs).length);rw[hn.o]at CW⊢;have QY:0<n/\n<=9:=by have:=hn.o;rw[DU]at this;omega
 obtain⟨np,tQ⟩:=cK (ps.length);rw[tQ.o];have HR:=AC hr;have sD:=AC Aq;have HPR:=AC hp;have HPO:=AC XZ;have HG:=AC hG;clear hr Aq hp XZ hG hc VK;obtain⟨dv,hdv⟩:=cK (Ux Aa (b0::bs) ps);rw[hdv.o];go_in
 go_wp2_with fail
 apply(CW.o _<|(AR _ w).alloc lr _).mono;rintro e w1 ⟨hb1,⟨tN,rfl⟩ | ⟨hrm,v,l,Fw,rfl,hrow,DX,Jq,FZ,hFw⟩⟩
 .have Vv:=AC<|(zv w _).trans<|hb1.mono zw;have HD:=AC<|hdv.o.symm.trans<|Z8l tN;clear hb1 tN;go_wp2
  go_ret
  exact⟨by rw[HD.o];rfl,Vv.o⟩
 have oM:=(zv w<|.cells #[zo Aa,zn,sP pq nq cq] 55).trans<|hb1.mono zw;have R0:AF (Yd6 a B Aa (b0::bs) v w 0 l Fw w1):=⟨hrow,DX,Jq,fun j s _ h=>FZ j s h,fun s y b _ _ _ h=>absurd h (Nat.lt_irrefl 0),fun j y b h=>zx,oM,fun s hs j hj=>by have:=hFw s hs j hj;simp at this;omega⟩;have HRM:=AC hrm;obtain⟨pv,cv,rfl⟩:=AQ.form hrow;have hlm:(l.map (·.p)).length=n:=by rw[Dj,Jq,hn.o]
 rw[hlm]at R0⊢;clear hrm hrow DX Jq FZ hFw hb1 oM hlm CW;go_wp2
 go_loopw [21] (fun iv wr=> ∃ (i:Nat) (l:List WS) (Fw:Cg),i<=n/\iv= zo (i:Int)/\Yd6 a B Aa (b0::bs) (sP pv n cv) w i l Fw wr) (fun iv _=>n-(intOf iv).toNat)
 .exact⟨0,l,Fw,Eg _,rfl,R0.o⟩
 .obtain⟨i,l,Fw,hi,rfl,hD⟩:=hrel;by_cases hlt:i<n
  .have g:(i:Int)<(n:Int):=zx
   obtain⟨x,Z9⟩: ∃ x,(b0::bs)[i]?=some x:=⟨_,A8 (by rw[hn.o];omega)⟩;have Ou:=sD.o x<|Ej Z9;obtain⟨b',o',e1,hA⟩:=HR.o.at_ i x Z9;injection e1 with e1;injection e1 with e1 e2;subst e1;subst e2;obtain⟨VO,fc,cfc,rc,crc,kc,jP,z0,z1,z2,hSx⟩:=(Iz.cy (Go.W.Below.cy (hD.bel.mono hB) lr) lr hA).vals;obtain⟨_,_,_,_,_,_,e,_,_,_,_,_,hcx⟩:=hSx;simp only[List.cons.injEq,Value.slice.injEq,true_and,and_true]at e;obtain⟨⟨rfl,rfl⟩,⟨rfl,rfl⟩,rfl,rfl⟩:=e;obtain⟨s,VF⟩: ∃ s,l[i]?=some s:=⟨_,A8 (by rw[hD.len,hn.o];omega)⟩;obtain⟨l1,l2,rfl,GU⟩:=Ydo VF;obtain⟨gr,cr,ev,y0⟩:=Jf.at_ hD.row i s.p (by rw[FK,VF];rfl);injection ev with ev1 ev2 ev3;subst ev1;obtain⟨y,hy,aA,iY,QU⟩:=hD.says i s lr VF;have hP:(fun x=>x∈s.fs)=Uc y.1 y.2:=funext fun x=>propext (aA x);have XW:=hD.team.each s zw;have CP:AF (∀ u,Bl wr u->Calls prog 101 #[zq s.p 0,sP kc x.ck.length jP] u fun e w'=>e=uY (.bool (okW y x.ck).1)/\ ∃ F',GA a B s.p s.fs (okW y x.ck).2 F' w'/\Mv s.F F' u w'/\(okW y x.ck).2.length<=10000):=⟨fun u hu=>by
    have:=Z55 (c:=jP) (XW.be hu) (hcx.cy fun _ _ _ q=>Go.W.Rw.cy (Bq hu XW.hB) lr q) Ou.co Ou.cl zx
    rw[hP,iY]at this;refine this.mono fun e w'=>?_;rintro⟨q1,F',q2,q3,q4⟩;refine⟨q1,F',q2,q3,?_⟩;rw[iY]at QU;show(Su _ _ _).2.length<=_
    omega⟩
   have XY:gr<wr.heap.size:=Wx y0;have HS:=AC<|AJ hD<|AJ Z9<|AJ hy<|AJ aA<|AJ GU VF;have hgr:gr∉s.F:=fun q=>by
    obtain⟨g',c',cs',G',ev',Yi,_⟩:=AQ.nth hD.row i s.p (by rw[FK,VF];rfl);injection ev' with ev1 _ _;injection ev1 with ev1;injection ev1 with ev1 _;subst ev1;exact(hD.team.rest _ Yi).2.2 s zw q
   have yQ:wr.heap.size∉s.F:=fun q=>fw (XW.wd.lt _ q)
   have B1:=fun ob=>zv wr ob;have lJ:=fun ob=>(A9 (a:=(zm gr i))<|(B1 ob).block gr XY).trans y0;generalize tV:x.ck.length=nk at*;generalize hnf:x.fa.length=nf at*;generalize tN:x.ru.length=nr at*;clear hA hcx hD Z9 Ou VF hy aA iY QU hP XW ev2 ev3 y0 tV hnf tN GU;have k1:=fun u=>((AO.new wr #[sP fc nf cfc,sP rc nr crc,sP kc nk jP] 38).of (w':=u) ·|>.three.2.2.1);have k0:=k1 _ rfl;go_wp2
   go_region_held3 (fun u=>u.cell? (zm gr i)=some (zq s.p 0)/\u.cell? (zm wr.heap.size 2)=some (sP kc nk jP)) (first | exact⟨lJ _,k0⟩ | exact⟨y3,k3⟩) (first
    | (go_at_call 101;apply(CP.o _ (B1 _).drew).mono;rintro e w2 ⟨rfl,F2,hw2,Jp,hl2⟩;have y3:=(A9 (a:=(zm gr i))<|Jp.1.block gr zc hgr).trans<|lJ _;have k3:=k1 _<|Jp.1.block wr.heap.size zw yQ))
   have H2:=AC<|AJ hw2<|AJ Jp hl2;have lH:AF (Bl w w2):=⟨by
    have hD:=HS.o.1;have hz:=hD.bel.size;exact(hD.bel.trans<|(B1 _).drew.mono hz).trans<|Jp.1.be (fun j hj=>hD.ge s zw j hj) zc⟩
   generalize G4:(okW y x.ck).1=bb at*;have HBB:=AC G4;clear hw2 Jp hl2 CP k0 k1 k3 y3 lJ z0 z1 z2 G4;cases bb with
   | false=>
    have HD:AF (dv=5):=⟨hdv.o.symm.trans (Zxd HRM.o fun q=>by
     have:=q.1 (y,x)<|List.mem_iff_getElem?.2 ⟨i,List.getElem?_zip_eq_some.2 ⟨HS.o.2.2.1,HS.o.2.1⟩⟩
     rw[HBB.o]at this;cases this)⟩
    go_wp2
    go_ret
    exact⟨by rw[HD.o];rfl,lH.o⟩
   | true=>
    go_wp2
    go_roundw
    case measure=>simp[intOf];omega
    obtain⟨hD,Z9,hy,aA,GU,VF⟩:=HS.o;obtain⟨hw2,Jp,hl2⟩:=H2.o;have hz:=hD.bel.size;have DL: ∀ j,i<j->(l1++⟨s.p,s.fs,(okW y x.ck).2,F2⟩::l2)[j]?=(l1++s::l2)[j]?:=fun j hj=>by
     rw[PL zx,PL zx,show j-l1.length=(j-l1.length-1)+1 by omega,List.getElem?_cons_succ,List.getElem?_cons_succ]
    refine⟨i+1,l1++⟨s.p,s.fs,(okW y x.ck).2,F2⟩::l2,Fw,zx,zw,⟨?_,(hD.team.be (B1 _).drew).step hw2 Jp,?_,fun j t hj ht=>?_,fun t y' b' ht Lx hb' _=>?_,fun j y' b' hj Lx hb'=>?_,lH.o,fun t ht j hj=>?_⟩⟩
    .have e:(l1++⟨s.p,s.fs,(okW y x.ck).2,F2⟩::l2).map (·.p)=(l1++s::l2).map (·.p):=zw
     rw[e];exact AQ.sb Jf.sb _ _ _ _ _ hD.row fun j hj=>(Jp.1.block j (by have:=(hD.team.rest j hj).1;simp;omega) fun q=>(hD.team.rest j hj).2.2 s zw q).trans (Ah _ _ _ (hD.team.rest j hj).1)
    .rw[<- hD.len];simp
    .rw[DL j zx]at ht;exact hD.says j t zx ht
    .by_cases Xd:i=0
     .subst Xd;have hl0:l1=[]:=List.length_eq_zero_iff.1 GU;subst hl0;rw[hy]at Lx;rw[Z9]at hb';injection Lx with Lx;injection hb' with hb';injection ht with ht;subst Lx;subst hb';subst ht;exact⟨aA,rfl,hl2⟩
     .rw[PK zx]at ht;exact hD.first t y' b' (by rw[PK zx];exact ht) Lx hb' zx
    .by_cases Il:j<i
     .exact hD.pass j y' b' Il Lx hb'
     .obtain rfl:j=i:=zx
      rw[hy]at Lx;rw[Z9]at hb';injection Lx with Lx;injection hb' with hb';subst Lx;subst hb';exact HBB.o
    .simp only[Aj,Ak]at ht;rcases ht with ht | rfl | ht
     .exact hD.ge t (by simp[ht]) j hj
     .rcases Jp.2 j hj with q | q
      .exact hD.ge s zw j q
      .simp at q;omega
     .exact hD.ge t (by simp[ht]) j hj
  .obtain rfl:i=n:=zx
   obtain⟨s,VF⟩: ∃ s,l[0]?=some s:=⟨_,A8 (by rw[hD.len,hn.o];omega)⟩;obtain⟨gr,cr,ev,y0⟩:=Jf.at_ hD.row 0 s.p (by rw[FK,VF];rfl);injection ev with ev1 ev2 ev3;subst ev1;have hsm:s∈l:=Ej VF;obtain⟨aA,iY,QU⟩:=hD.first s (Ec Aa b0) b0 VF rfl rfl zx;have hP:(fun x=>x∈s.fs)=Uc (Ec Aa b0).1 (Ec Aa b0).2:=funext fun x=>propext (aA x);have XW:=hD.team.each s hsm;have CA:AF (Calls prog 102 #[zq s.p 0,sP pp np cp] wr fun e w'=>e=uY (.bool<|pR (Ec Aa b0) b0.ck ps)/\Bl w w'):=⟨by
    have:=Z4g (c:=cp) XW (HPR.o.cy fun _ _ _ q=>Jh.cy (Go.W.Below.cy (hD.bel.mono hB) lr) lr q) HPO.o.ok HPO.o.len zx
    rw[hP,iY,tQ.o]at this;refine this.mono fun e w'=>?_;rintro⟨q1,F',q3⟩;exact⟨q1,hD.bel.trans<|q3.1.be (fun j hj=>hD.ge s hsm j hj) hD.bel.size⟩⟩
   have HPL:AF (fG Aa<|b0::bs):=⟨fun z hz=>by
    obtain⟨j,hj⟩:=List.mem_iff_getElem?.1 hz;obtain⟨q1,q2⟩:=List.getElem?_zip_eq_some.1 hj;refine hD.pass j z.1 z.2 ?_ q1 q2
    have:=(DW.1 q2).1
    have:=hn.o
    omega⟩
   clear hD VF hsm aA iY QU hP XW ev2 ev3;generalize KM:pR (Ec Aa b0) b0.ck ps=ba at*;have HAL:=AC KM;clear KM;have Ov:=QY.1;go_wp2_with fail
   apply mq CA.o;rintro w2 hb2;have Ey:=AC hb2;clear hb2 CA y0;cases ba with
   | false=>
    have HD:AF (dv=5):=⟨hdv.o.symm.trans (Zxd HRM.o fun q=>by
     obtain⟨b',l',e,q2⟩:=q.2;injection e with e1 _;subst e1;rw[HAL.o]at q2;cases q2)⟩
    go_wp2
    go_ret
    exact⟨by rw[HD.o];rfl,Ey.o⟩
   | true=>
    have HD:AF (dv=6):=⟨hdv.o.symm.trans<|wG.2 ⟨HRM.o,HPL.o,b0,bs,rfl,HAL.o⟩⟩;go_wp2
    go_ret
    exact⟨by rw[HD.o];rfl,Ey.o⟩
end
end Go.W
