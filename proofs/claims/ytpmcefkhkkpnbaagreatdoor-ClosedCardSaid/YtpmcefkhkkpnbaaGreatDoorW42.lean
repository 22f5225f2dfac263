import Derived.Test.YtpmcefkhkkpnbaaGreatDoorW34
import Derived.Test.YtpmcefkhkkpnbaaGreatDoorW41
set_option linter.all false
set_option maxRecDepth 100000
set_option maxHeartbeats 8000000
open Go.Proofs Go.RowKit Go.W Tryz
namespace Go.W
variable {B d:Nat}{w0 w:Bb}
def Ym9 (B:Nat) (w0:Bb) (d:Nat):Du T:=fun _ vs x F=>F=[]/\Ed B w0 d vs x
def Ym9.sb:Ii (Ym9 B w0 d):=fun _ _ _ _ _ h _=>h
def Ym9.one (w:Bb)(vs:Bu)(x:T)(F:Cg)(h:Ym9 B w0 d w vs x F): ∀ u,u∈vs->u.oneCell'=true:=by
 obtain⟨_,p,c,rfl,_⟩:=h;intro u hu;simp at hu;rcases hu with rfl | rfl | rfl | rfl <;> rfl
def Yni (B:Nat) (w0:Bb) (d:Nat):Du A:=fun w vs x F=> ∃ tv,vs=[um x.name,tv]/\x.name.size<1000000000/\AQ 95 4 (Ym9 B w0 d) w tv x.te F
def Yni.sb:Ii (Yni B w0 d):=fun _ _ _ _ _ ⟨tv,h1,h2,h3⟩ hb=>⟨tv,h1,h2,AQ.sb Ym9.sb _ _ _ _ _ h3 hb⟩
def Yni.one (w:Bb)(vs:Bu)(x:A)(F:Cg)(h:Yni B w0 d w vs x F): ∀ u,u∈vs->u.oneCell'=true:=by
 obtain⟨tv,rfl,_,h⟩:=h;intro u hu;simp at hu;rcases hu with rfl | rfl
 .rfl
 .exact h.one
def AQ.lit {α:Type}{e:TypeId}{s:Nat}{Q:Du α}{g:Nat}{cs:Bu}{x:α}{G:Cg}(hb:w.heap[g]?=some (.cells cs.toArray e))(hs:cs.length=s)(hq:Q w cs x G):AQ e s Q w (sP (Qb g 0) 1 1) [x] (g::G):=
 ⟨[(cs,x,G)],⟨by simp[hs],.inr ⟨g,1,cs.toArray,rfl,Eg _,hb,EO _,zu,by simp[hs],by subst hs;simp⟩⟩,fun z hz=>by rw[Bh.1 hz];exact⟨hs,hq⟩,rfl,by simp[Value.ownBlock],zw⟩
def Yqa (B:Nat) (w0:Bb) (d:Nat) (w:Bb) (l:List A) (e:Ending) (w':Bb):Prop:= ∃ v F,e=uY v/\AQ 64 2 (Yni B w0 d) w' v l F/\Ag w.heap.size w' F/\Bl w w'
def Ypf {br or_:Nat}{pf p:Bp}{cf c:Nat}{K:List A}{env:bA}{r:R}(hB:B<=w.heap.size)(h0:EG B B w w0)(hr:FJ B w (d+1) br or_ r)(ho:Jj r)(hl:env.length<1000)(hp:Ap 5 (Yo9 B w d) p env):Calls prog 18 #[sP pf K.length cf,zq br or_,zo (r.body.length:Int),sP p env.length c] w fun e w'=>Yqa B w0 d w (Ynq K r [] env) e w':=by
 obtain⟨_,ph,ch,pb,cb,pg,cg,r0,r1,r2,r3,hrs⟩:=hr.vals;obtain⟨_,_,_,_,_,e,⟨_,_,rfl,hsz,_,hrt⟩,_,_,_,hrg⟩:=hrs;cases e;have HH:=AC<|AJ hsz hrt;have h0':=h0;have HG:=AC hrg;have HP:=AC hp;have G7:=AC ho.gt;have h6:=ho.h6;have g4:=ho.g4;have R1:AF (w.cell? (zm br (or_+1))=some (sP ph r.head.te.length ch)):=⟨r1⟩;clear hrt hrg hp ho;obtain⟨z,hz⟩:=cK (Ynq K r [] env);rw[hz.o];obtain⟨n,hn⟩:=cK (env.length);obtain⟨m,hm⟩:=cK (r.head.te.length);obtain⟨q,hq⟩:=cK (r.gu.length);obtain⟨i,hi⟩:=cK (r.body.length);obtain⟨nk,tV⟩:=cK (K.length);rw[hn.o]at hl⊢;rw[hm.o]at r1 h6 R1;rw[hq.o]at r3 g4;rw[hi.o]at r2⊢;rw[tV.o];have gi:((i:Int)==(i:Int))=true:=zw
 go_in
 go_wp2_with fail
 clear gi;go_loopw [9] (fun iv wr=> ∃ k:Nat,k<=q/\iv= zo (k:Int)/\Bl w wr/\(r.gu.take k).all (fun g=>Ynm g.op (BF env g.a) (BF env g.b))=true) (fun iv _=>q-(intOf iv).toNat)
 .exact⟨0,Eg _,rfl,AR _ _,rfl⟩
 .obtain⟨k,hk,rfl,Af,hall⟩:=hrel;have HB:=AC Af;have HA:=AC hall;have r0:=Cb r0 Af;have r1:=Cb r1 Af;have r3:=Cb r3 Af;clear hall;by_cases hlt:k<q
  .have hkq:k<r.gu.length:=by rw[hq.o];exact hlt
   obtain⟨bg,og,rfl,hg⟩:=HG.o.get k hkq;obtain⟨_,p1,k1,p2,k2,g0,g1,g2,g3,g5,g6,g7,g8,g9,hgs⟩:=hg.vals;have CH:=AC fun u (hu:Bl wr u)=>Ypw (w:=u) (c:=c) (Ab hB<|Ab Af.size hu.size) (show env.length<1000000000 by rw[hn.o];omega) (HP.o.cy fun _ _ _ q=>q.la hB (Af.trans<|hu.mono Af.size)) (TQ.cy hgs<|Bq (Af.trans<|hu.mono Af.size) hB) (G7.o _<|QO hkq).2.2;have g0:=Cb g0 Af;have g1:=Cb g1 Af;have g2:=Cb g2 Af;have g3:=Cb g3 Af;have g5:=Cb g5 Af;have g6:=Cb g6 Af;have g7:=Cb g7 Af;have g8:=Cb g8 Af;have g9:=Cb g9 Af;have ET:AF (Ynm r.gu[k].op (BF env r.gu[k].a) (BF env r.gu[k].b)=true->(r.gu.take<|k+1).all (fun g=>Ynm g.op (BF env g.a) (BF env g.b))=true):=⟨fun h=>by
    rw[wa hkq,List.all_append,HA.o];simpa using h⟩
   have EF:AF (Ynm r.gu[k].op (BF env r.gu[k].a) (BF env r.gu[k].b)=false->z=[]):=⟨fun h=>by
    rw[<- hz.o,Ynq,xd];unfold Ype;rw[SI];intro q;rw[q _<|QO hkq]at h;cases h⟩
   clear hg hgs Af;rw[hn.o]at CH;generalize Ynm r.gu[k].op (BF env r.gu[k].a) (BF env r.gu[k].b)=h at*;generalize r.gu[k]=g at*;go_wp2_with fail
   apply(CH.o _<|AR _ _).mono;rintro e w2 ⟨rfl,hb2⟩;have Ey:=tr HB hb2;clear CH hb2;cases h with
   | true=>
    have E:=AC<|ET.o rfl;go_wp2
    exact⟨⟨k+1,zx,by go_num,Ey.o,E.o⟩,zd⟩
   | false=>
    have E:=AC<|EF.o rfl;go_wp2
    go_ret
    exact⟨_,[],rfl,by rw[E.o];exact AQ.nil,Ag.nil _ _,Ey.o⟩
  .obtain rfl:k=q:=zx
   have E:AF (z=[hdE r env]):=⟨by
    have:=HA.o
    rw[U0 (by rw[hq.o];omega)]at this;rw[<- hz.o,Ynq,xj (show Ype r env=true from this)]⟩
   clear Af;go_wp2_with fail
   have b1:=HB.o.trans<|(zv wr<|.cells #[um r.head.name,zn] 64).mono HB.o.size;have m1:AO _ wr.heap.size #[um r.head.name,zn] 64:=AO.new wr _ _;have s1:(wr.alloc<|.cells #[um r.head.name,zn] 64).heap.size=wr.heap.size+1:=zw
   generalize wr.alloc (.cells #[um r.head.name,zn] 64)=W1 at*;have LL:AF (w.heap.size<=wr.heap.size/\wr.heap.size<W1.heap.size):=⟨HB.o.size,zx⟩;generalize wr.heap.size=L at*;have B1:=AC b1;have M1:=AC m1;clear b1 m1 s1 r3 HA HG G7 HB;go_loopw [12] (fun iv w2=> ∃ (j:Nat) (tv:Value) (F:Cg),j<=m/\iv= zo (j:Int)/\AO w2 L #[um r.head.name,tv] 64/\AQ 95 4 (Ym9 B w0 d) w2 tv ((r.head.te.take j).map<|BF env) F/\Ag W1.heap.size w2 F/\Bl w w2/\W1.heap.size<=w2.heap.size) (fun iv _=>m-(intOf iv).toNat)
   .exact⟨0,_,[],Eg _,rfl,M1.o,AQ.nil,Ag.nil _ _,B1.o,EO _⟩
   .obtain⟨j,tv,F,hj,rfl,hbl,hrow,Bi,Af,hsz⟩:=hrel;clear B1 M1;have HB:=AC Af;have HR:=AC<|AJ hrow<|AJ Bi hbl;obtain⟨h0,h1,hs⟩:=hbl.two;have r1:=Cb (x:= sP ph m ch) R1.o Af;obtain⟨pt,ct,rfl⟩:=hrow.form;have Jq:=hrow.len;by_cases hlt:j<m
    .have hjm:j<r.head.te.length:=by rw[hm.o];exact hlt
     obtain⟨bt,ot,rfl,ht⟩:=HH.o.2.get j hjm;obtain⟨_,p1,c1,t0,t1,t2,t3,H7⟩:=ht.vals;have CV:=AC fun u (hu:Bl w u)=>Ynh (w:=u) (c:=c) (show env.length<1000000000 by rw[hn.o];omega) (HP.o.cy fun _ _ _ q=>q.la hB hu) (Ed.cy H7<|Bq hu hB);rw[hn.o]at CV;have ET:AF ((r.head.te.take<|j+1).map (BF env)=(r.head.te.take j).map (BF env)++[BF env r.head.te[j]]):=⟨by rw[wa hjm,wb];rfl⟩;have t0:=Cb t0 Af;have t1:=Cb t1 Af;have t2:=Cb t2 Af;have t3:=Cb t3 Af;clear ht H7 hrow Bi hbl Af;generalize r.head.te[j]=t at*;have hlj:((r.head.te.take j).map<|BF env).length<=6:=zc
     generalize (r.head.te.take j).map (BF env)=acc at*;generalize hla:acc.length=la at*;have HLA:=AC hla;clear hla;go_wp2_with fail
     apply(CV.o _ HB.o).mono;rintro e w3 ⟨us,rfl,hx,hb3⟩;have HX:=AC<|Ed.cy (Ed.cy hx<|Yo5 HB.o hB) h0';obtain⟨pv,cv,rfl,hx1⟩:=hx;clear hx1 CV t0 t1 t2 t3 h1;generalize BF env t=v at*;have UA:=tr HB hb3;have hz3:=hb3.size;have M3:=AC<|HR.o.2.2.of<|hb3.block _ HR.o.2.2.lt;have R3:AF (AQ 95 4 (Ym9 B w0 d) w3 (sP pt la ct) acc F/\Ag W1.heap.size w3 F):=⟨AQ.sb Ym9.sb _ _ _ _ _ HR.o.1 fun k hk=>hb3.block k (HR.o.2.1.lt k hk),HR.o.2.1.la lr hz3⟩;have LF:AF (L∉F):=⟨fun h=>jE (R3.o.2.ge _ h) (LL.o.2)⟩;have q1:=fun ob=>(M3.o.alloc ob).two.2.1;have nP:=M3.o.lt;clear hb3 HR HB hs;go_wp2_with (at_builtin;go_must (refine Nu Zqi rfl (.tmp 73) (.tmp 75) rfl Ym9.sb Ym9.one W1.heap.size (sP pt la ct) acc F rfl (AQ.sb Ym9.sb _ _ _ _ _ R3.o.1 fun k hk=>(Ah _ _ _ (by have:=R3.o.2.lt k hk;simp;omega)).trans (Ah _ _ _<|R3.o.2.lt k hk)) (w3.heap.size+1) #[zo v.k,zo v.i,um v.t,sP pv v.l.length cv] 95 (0,0) v [] rfl (by have:=Hw (w3.alloc<|.cells #[zo v.k,zo v.i,um v.t,sP pv v.l.length cv] 95)<|.cells #[zo v.k,zo v.i,um v.t,sP pv v.l.length cv] 95;simpa using this) rfl ⟨rfl,HX.o⟩ (by rw[HLA.o];omega) zc (R3.o.2.la lr zc) (Ag.nil _ _) (fun _ _ h=>by cases h) ?_);intro g6 Cm w6 F6 AM;have K6:=((M3.o.alloc<|.cells #[zo v.k,zo v.i,um v.t,sP pv v.l.length cv] 95).alloc<|.cells #[zo v.k,zo v.i,um v.t,sP pv v.l.length cv] 95).of<|AM.same L zc LF.o;obtain⟨_,k1,ks⟩:=K6.two)
     have R7:=AQ.sb Ym9.sb _ (w6.setCell (zm L 1)<|sP (Qb g6 0) (acc.length+1) Cm) _ _ _ AM.row fun k hk=>Aw _ _ _ _ (fun e=>by have e:k=L:=e;have:=AM.new.ge k hk;have:=LL.o.2;omega);have N7:=AM.new;have Z7:=AM.size;have B7:Bl w w6:=(((UA.o.alloc UA.o.size _).alloc (by simp;have:=UA.o.size;omega) _)).trans<|(AM.be zc R3.o.2.ge).mono (fw (LL.o));rw[<- ET.o,HLA.o]at R7;simp at Z7;try rw[HLA.o]
     exact⟨⟨j+1,_,F6,zx,by go_num,by simpa using K6.set 1<|sP (Qb g6 0) (la+1) Cm,R7,N7.la lr (by simp[World.setCell]),SA _ B7 LL.o.1 1 _,by simp[World.setCell];omega⟩,zd⟩
    .obtain rfl:j=m:=zx
     have EM:AF ((r.head.te.take j).map (BF env)=(hdE r env).te):=⟨by rw[U0 (by rw[hm.o];omega)];rfl⟩;have NM:AF (r.head.name=(hdE r env).name):=⟨rfl⟩;clear hrow Bi hbl Af;rw[EM.o]at HR h1;generalize hdE r env=h at*;go_wp2
     go_ret
     have NM':=NM.o;refine⟨_,wr.heap.size::F,rfl,?_,?_,HB.o.alloc HB.o.size _⟩
     .rw[E.o,NM'];exact AQ.lit (cs:=[um h.name,sP pt h.te.length ct]) (Hw _ _) rfl ⟨_,rfl,NM'▸HH.o.1,AQ.sb Ym9.sb _ _ _ _ _ HR.o.1 fun k hk=>Ah _ _ _ (HR.o.2.1.lt k hk)⟩
     .refine⟨List.nodup_cons.2 ⟨fun h=>fw (HR.o.2.1.lt _ h),HR.o.2.1.once⟩,fun k hk=>?_,fun k hk=>?_⟩
      .rcases Ak.1 hk with rfl | hk
       .exact HB.o.size
       .have:=HR.o.2.1.ge k hk;have:=LL.o;omega
      .rcases Ak.1 hk with rfl | hk
       .simp
       .have:=HR.o.2.1.lt k hk;simp;omega
def Yn6: ∀ (ts fs:List T) (c c':bA),Yoo c ts fs=some c'->c'.length<=c.length+ts.length
 | [],fs,c,c',h=>by
  rw[Yoo]at h
  ·cases h;simp
  ·simp
 | t::ts,[],c,c',h=>by
  rw[Yoo]at h
  ·cases h;simp
  ·simp
 | t::ts,f::fs,c,c',h=>by
  rw[Yoo]at h;split at h
  ·have:=Yn6 ts fs _ _ h
   simp at this⊢;omega
  ·split at h
   ·have:=Yn6 ts fs _ _ h
    simp at this⊢;omega
   ·cases h
def Ypy {a f:A}{c c':bA}(h:Yny a f c=some c'):c'.length<=c.length+a.te.length:=by
 unfold Yny at h;split at h
 .exact Yn6 _ _ _ _ h
 .cases h
noncomputable def Ypa (K:List A) (r:R) (a:A) (l:List A) (b:bA) (f:A):List A:=match Yny a f b with
 | none=>[]
 | some c=>Ynq K r l c
def Ypd {α β:Type}(g:α->List β)(M:Nat): ∀ (l:List α),(∀ x,x∈l->(g x).length<=M)->(l.flatMap g).length<=l.length*M
 | [],_=>zw
 | x::l,h=>by
  rw[List.flatMap_cons,JS,DU,Nat.succ_mul];have h1:=h x zw;have h2:=Ypd g M l fun y hy=>h y (by simp[hy]);omega
def Yo1 {K:List A}{r:R}(hK:K.length<=100): ∀ (l:List A) (b:bA),(Ynq K r l b).length<=100 ^ l.length
 | [],b=>by
  rw[Ynq];split <;> simp
 | a::l,b=>by
  rw[Ynq];refine Ab (Ypd _ (100 ^ l.length) K fun f _=>?_) ?_
  ·split
   ·simp
   ·exact Yo1 hK l _
  ·rw[DU,Nat.pow_succ,Nat.mul_comm];exact Nat.mul_le_mul_left _ hK
variable {br or_ cf:Nat}{pf:Bp}{K:List A}{r:R}
def Ypv {i:Nat}{w:Bb}{p:Bp}{c:Nat}{env:bA}{a:A}{l:List A}(hB:B<=w.heap.size)(hr:FJ B w (d+1) br or_ r)(ho:Jj r)(hK:K.length<=100)(hf:Ap 2 (Ynl B w d) pf K)(hi:r.body.drop i=a::l)(hl:env.length+6*(l.length+1)<100)(hp:Ap 5 (Yo9 B w d) p env)
  (C: ∀ (u:Bb) (env':bA) (p':Bp) (c':Nat),Bl w u->env'.length+6*l.length<100->Ap 5 (Yo9 B u d) p' env'->Calls prog 18 #[sP pf K.length cf,zq br or_,.int .i64<|(i:Int)+1,sP p' env'.length c'] u fun e w'=>Yqa B w0 d u (Ynq K r l env') e w'):
  Calls prog 18 #[sP pf K.length cf,zq br or_,zo (i:Int),sP p env.length c] w fun e w'=>Yqa B w0 d w (Ynq K r (a::l) env) e w':=by
 have Ye:i<r.body.length:=by
  rcases Qp i r.body.length with h | h
  .exact h
  .rw[List.drop_eq_nil_of_le h]at hi;cases hi
 have hai:r.body[i]?=some a:=by
  have:=congrArg List.head? hi
  rwa [List.head?_drop]at this
 have h4:l.length<=3:=by
  have h1:=congrArg List.length hi;have h2:=ho.b4;rw[List.length_drop]at h1;simp at h1;omega
 have hi4:i<4:=BK Ye ho.b4;have h6:=(ho.bt a<|Ej hai).2;obtain⟨_,ph,ch,pb,cb,pg,cg,r0,r1,r2,r3,hrs⟩:=hr.vals;obtain⟨_,_,_,_,_,e,⟨_,_,rfl,_⟩,_,aC,_⟩:=hrs;cases e;obtain⟨bb,ob,rfl,hba⟩:=aC.at_ i a hai;have HA:=AC hba;have HF:=AC hf;have HP:=AC hp;have CH:=AC C;have HM:AF (∀ u,Bl w u-> ∀ k f,K[k]?=some f-> ∃ bf of,pf=some (zm bf of)/\Calls prog 32 #[zq bb<|ob+i*2,zq bf<|of+k*2,sP p env.length c] u fun e w'=>Yql B d u (Yny a f env) e w'):=⟨fun u hu k f hkf=>by
  obtain⟨bf,of,rfl,hfa⟩:=HF.o.at_ k f hkf;exact⟨bf,of,rfl,Yoq (w:=u) (Ab hB hu.size) (HA.o.cy (Bq hu hB) lr) (hfa.la hB hu) zx (HP.o.cy fun _ _ _ q=>q.la hB hu) h6⟩⟩
 have HLB:AF (∀ c',Yny a r.head env=some c'->True):=⟨fun _ _=>trivial⟩;clear HLB hba hf hp C aC hr ho hai;obtain⟨z,hz⟩:=cK (Ynq K r (a::l) env);rw[hz.o];have EZ:AF (z=K.flatMap (Ypa K r a l env)):=⟨by rw[<- hz.o,Ynq];rfl⟩;obtain⟨M,hM⟩: ∃ M,AF (M=1000000):=⟨_,⟨rfl⟩⟩;have HLE:AF (∀ f,(Ypa K r a l env f).length<=M):=⟨fun f=>by
  rw[hM.o];unfold Ypa;split
  .simp
  .refine Ab (Yo1 hK l _)<|Ab (wi zx h4) zu⟩
 obtain⟨n,hn⟩:=cK (env.length);obtain⟨q,hq⟩:=cK (r.body.length);obtain⟨nk,tV⟩:=cK (K.length);rw[hn.o]at hl HM⊢;rw[hq.o]at r2 Ye;rw[tV.o]at hK CH⊢;have gi:((i:Int)==(q:Int))=false:=zj
 clear hi;go_in
 go_wp2_with fail
 clear gi;go_loopw [14,15] (fun ov iv wr=> ∃ (k:Nat) (F:Cg),k<=nk/\iv= zo (k:Int)/\AQ 64 2 (Yni B w0 d) wr ov ((K.take k).flatMap<|Ypa K r a l env) F/\Ag w.heap.size wr F/\Bl w wr/\((K.take k).flatMap<|Ypa K r a l env).length<=k*M) (fun _ iv _=>nk-(intOf iv).toNat)
 .exact⟨0,[],Eg _,rfl,AQ.nil,Ag.nil _ _,AR _ _,zw⟩
 .obtain⟨k,F,hk,rfl,hrow,Bi,Af,hlen⟩:=hrel;have HB:=AC Af;have HR:=AC<|AJ hrow Bi;have HL:=AC hlen;obtain⟨po,co,rfl⟩:=hrow.form;by_cases hlt:k<nk
  .have hkK:k<K.length:=by rw[tV.o];exact hlt
   have hkf:K[k]?=some K[k]:=A8 hkK;have ES:AF ((K.take<|k+1).flatMap (Ypa K r a l env)=(K.take k).flatMap (Ypa K r a l env)++Ypa K r a l env K[k]):=⟨by rw[wa hkK,List.flatMap_append];simp⟩;have HLF:=AC<|HLE.o K[k];have HAL:AF (∀ c',Yny a K[k] env=some c'->c'.length+6*l.length<100):=⟨fun c' h=>by have:=Ypy h;rw[hn.o]at this;omega⟩;obtain⟨bf,of,rfl,_⟩:=HM.o _ (AR _ _) k _ hkf;have CM:AF (∀ u,Bl w u->Calls prog 32 #[zq bb<|ob+i*2,zq bf<|of+k*2,sP p n c] u fun e w'=>Yql B d u (Yny a K[k] env) e w'):=⟨fun u hu=>by
    obtain⟨bf',of',e,h⟩:=HM.o u hu k _ hkf;cases e;exact h⟩
   have HS:AF (∀ u,Bl w u->u.cell? (zm br (or_+2))=some (sP (Qb bb ob) q cb)):=⟨fun u hu=>Cb r2 hu⟩;clear hrow Bi Af hlen hkf;have EH:AF (Ypa K r a l env K[k]=match Yny a K[k] env with | none=>[] | some c=>Ynq K r l c):=⟨rfl⟩;generalize Ypa K r a l env K[k]=hf at*;generalize hacc:(K.take k).flatMap (Ypa K r a l env)=acc at*;generalize nK:acc.length=na at*;have HNA:=AC nK;clear nK;generalize Yny a K[k] env=mo at*;go_wp2_with fail
   have AY:=HS.o _ HB.o.drew;refine Zwh ?_;refine Vj 15 (fun u=>u.cell? (zm br (or_+2))=some (sP (Qb bb ob) q cb)) zt ?_;refine z9 0 (zq br or_) AY ?_
   refine z9 1 (zq br or_) AY ?_
   refine z9 2 (zq br<|or_+2) AY ?_
   refine z9 3 (sP (Qb bb ob) q cb) AY (hy:=fun _ s0=>by go_simp) ?_
   refine z9 4 (zo (i:Int)) AY ?_
   refine z9 5 (zq bb<|ob+i*2) AY ?_
   refine z9 6 (sP (Qb bf of) nk cf) AY ?_
   refine z9 7 (zo (k:Int)) AY ?_
   refine z9 8 (zq bf<|of+k*2) AY ?_
   refine z9 9 (sP p n c) AY ?_
   refine rz 10 (h:=fun K' hK'=>?_);go_simp;apply(CM.o _ HB.o.drew).mono;rintro e w2 ⟨hb2,Jp⟩;have Ey:=AC<|HB.o.drew.trans<|hb2.mono HB.o.drew.size;have R2:AF (AQ 64 2 (Yni B w0 d) w2 (sP po na co) acc F/\Ag w.heap.size w2 F):=⟨AQ.sb Yni.sb _ _ _ _ _ HR.o.1 fun k hk=>hb2.block k (HR.o.2.lt k hk),HR.o.2.la lr hb2.size⟩;clear hb2 HR CM;cases mo with
   | none=>
    subst Jp;have EF:AF (hf=[]):=⟨EH.o⟩;have Kw:=HS.o _ Ey.o;refine hK'.o _ _ Kw ?_;try simp only[zz]
    refine z9 11 (.tuple #[zn,.bool false]) Kw ?_
    refine z9 12 (zn) Kw ?_
    refine z9 13 (.bool false) Kw ?_
    refine z9 14 (zn) Kw ?_
    refine yq ?_;clear AY Kw hK';go_wp2
    exact⟨⟨k+1,F,zx,by go_num,by rw[ES.o,EF.o,List.append_nil];exact R2.o.1,R2.o.2,Ey.o,by rw[ES.o,EF.o,List.append_nil,HNA.o,Nat.succ_mul];exact Ab HL.o<|Nat.le_add_right _ _⟩,zd⟩
   | some c'=>
    obtain⟨p2,c2,rfl,hc2,hr2⟩:=Jp;have EF:AF (hf=Ynq K r l c'):=⟨EH.o⟩;have CQ:=AC<|CH.o _ c' p2 c2 Ey.o (HAL.o c' rfl) hr2;rw[<- EF.o]at CQ;generalize c'.length=nc at*;clear hr2 HAL CH;have Kw:=HS.o _ Ey.o;refine hK'.o _ _ Kw ?_;try simp only[zz]
    refine z9 11 (.tuple #[sP p2 nc c2,.bool true]) Kw ?_
    refine z9 12 (sP p2 nc c2) Kw ?_
    refine z9 13 (.bool true) Kw ?_
    refine z9 14 (sP p2 nc c2) Kw ?_
    refine yq ?_;clear AY Kw hK';go_wp2_with fail
    apply CQ.o.mono;rintro e w3 ⟨v,G,rfl,hrG,bC,WI⟩;have R3:=AQ.sb Yni.sb _ w3 _ _ _ R2.o.1 fun k hk=>WI.block k (R2.o.2.lt k hk);have N3:=R2.o.2.la lr WI.size;have UA:=tr Ey WI;obtain⟨pl,cl,zs,rfl,z1,z2,z3,z4,z5⟩:=AQ.lie Yni.one hrG;have NG:Ag w.heap.size w3 (zs.map (·.2.2)).flatten:=⟨z3 bC.once,fun k hk=>Ab Ey.o.size (bC.ge k<|z2 k hk),fun k hk=>bC.lt k (z2 k hk)⟩;have HD: ∀ k,k∈F->k∉(zs.map (·.2.2)).flatten:=fun k h1 h2=>jE (R2.o.2.lt k h1) (bC.ge k<|z2 k h2)
    have KJ:acc.length+hf.length<1000000000:=by
     rw[HNA.o];have h1:=HL.o;have h2:=HLF.o;have h3:k*M<=100*M:=Nat.mul_le_mul_right _ zx;rw[hM.o]at h1 h2 h3;omega
    have HZ:=AC<|AJ R3<|AJ N3<|AJ NG<|AJ HD<|AJ KJ<|AJ z4<|AJ z5 z1;clear R3 N3 NG HD KJ z1 z2 z3 z4 z5 hrG bC WI CQ;generalize hnf:hf.length=nf at*;have IW:=AC hnf;clear hnf;go_wp2_with (at_builtin;go_must (refine Ym3 Zxi rfl (.tmp 107) (.tmp 108) rfl Yni.sb w.heap.size (sP po na co) acc F rfl HZ.o.1 pl nf cl zs rfl HZ.o.2.2.2.2.2.1 HZ.o.2.2.2.2.2.2.1 HZ.o.2.2.2.2.1 UA.o.size HZ.o.2.1 HZ.o.2.2.1 HZ.o.2.2.2.1 ?_);intro p4 c4 w4 F4 hc4 hg4)
    exact⟨⟨k+1,F4,zx,by go_num,by rw[ES.o,<- HZ.o.2.2.2.2.2.2.2];exact hg4.row,hg4.new,UA.o.trans<|hg4.be UA.o.size HZ.o.2.1.ge,by rw[ES.o,JS,HNA.o,IW.o,Nat.succ_mul];exact Nat.add_le_add HL.o HLF.o⟩,zd⟩
  .obtain rfl:k=nk:=zx
   have EN:AF ((K.take k).flatMap (Ypa K r a l env)=z):=⟨by rw[EZ.o,U0 (by rw[tV.o];omega)]⟩;rw[EN.o]at HR⊢;clear hrow Bi Af hlen;go_wp2
   go_ret
   exact⟨_,F,rfl,HR.o.1,HR.o.2,HB.o⟩
def Yof (ho:Jj r)(hK:K.length<=100): ∀ (l:List A) (i:Nat) (w:Bb) (env:bA) (p:Bp) (c:Nat),B<=w.heap.size->EG B B w w0->FJ B w (d+1) br or_ r->Ap 2 (Ynl B w d) pf K->r.body.drop i=l->i<=r.body.length->env.length+6*l.length<100->Ap 5 (Yo9 B w d) p env->Calls prog 18 #[sP pf K.length cf,zq br or_,zo (i:Int),sP p env.length c] w fun e w'=>Yqa B w0 d w (Ynq K r l env) e w'
 | [],i,w,env,p,c,hB,h0,hr,hf,hi,hle,hl,hp=>by
  obtain rfl:i=r.body.length:=fw (List.drop_eq_nil_iff.1 hi)
  exact Ypf hB h0 hr ho zx hp
 | a::l,i,w,env,p,c,hB,h0,hr,hf,hi,hle,hl,hp=>by
  refine Ypv hB hr ho hK hf hi (by simpa using hl) hp fun u env' p' c' hu hl' yo=>?_;have hd:r.body.drop (i+1)=l:=by rw[<- List.drop_drop,hi];rfl
  refine Yof ho hK l (i+1) u env' p' c' (Ab hB hu.size) ⟨EO _,fun b o hb=>(h0.cell b o hb).trans ((Yo5 hu hB).cell b o hb)⟩ (hr.cy (Bq hu hB) lr) (hf.cy fun _ _ _ q=>q.la hB hu) hd ?_ hl' yo;rcases Qp i r.body.length with h | h
  .exact h
  .rw[List.drop_eq_nil_of_le h]at hi;cases hi
end Go.W
