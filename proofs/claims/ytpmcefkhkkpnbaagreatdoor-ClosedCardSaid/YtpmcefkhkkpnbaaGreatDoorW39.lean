import Derived.Test.YtpmcefkhkkpnbaaGreatDoorW36
import Derived.Test.YtpmcefkhkkpnbaaGreatDoorW38
set_option linter.all false
set_option maxRecDepth 100000
set_option maxHeartbeats 8000000
open Go.Proofs Go.RowKit Go.W Tryz
namespace Go.W
variable {a:Nat->Addr}{w u:Bb}{B cq:Nat}{Aa:Int}{key:Ay}{pq:Bp}{xs:List Bk}{v1 v2:Value}{ts:List Ay}
def Oq.be (h:Oq a w)(hb:Bl w u):Oq a u:=h.of (F:=[]) (Off.of hb) fun _ h=>by cases h
def Eu (key:Ay):List Ay->List Ay
 | []=>[]
 | t::ts=>(Bt key [t]::Ju (Bt key [t]) ts).map fun t=>⟨(Ez [⟨t.toArray⟩]).toArray⟩
def gG (key t:Ay)(ts:List Ay):Eu key (t::ts)=(Bt key [t]::Ju (Bt key [t]) ts).map fun t=>⟨(Ez [⟨t.toArray⟩]).toArray⟩:=rfl
noncomputable def IQ (rv ids:List Ay) (Aa:Int) (xs:List Bk) (ps:List Dk):Int:=if Kz rv ids=true then 3 else Ux Aa xs ps
def EZ.at {B' d b o:Nat}{w':Bb}{vs:Bu}{x:Bk}(h:EZ B w d vs x)(c:EG B B' w w')(hb:b<B')(hv: ∀ j,j<3->w'.cell? (zm b (o+j))=vs[j]?):Iz B' w' (d+1) b o x:=by
 obtain⟨p,k,p1,k1,p2,k2,rfl,h2,h3,h4,h5,h6,h7⟩:=EZ.cy h c;exact⟨hb,⟨_,hv 0 zx,_,_,rfl,h2,h3⟩,⟨_,hv 1 zx,_,_,rfl,h4,h5⟩,_,hv 2 zx,_,_,rfl,h6,h7⟩
def Zwz {v:Int}{text:Ay}{pl:Value}{nq:Nat}{rv:Bool}{J:Value->Value->Bb->Prop}(Z:AZ a w)
  (CB: ∀ u,Bl w u->Calls prog 24 #[.agg #[zn,zn,zn]] u (FT a 0 u))
  (CP: ∀ u,Bl w u->Calls prog 43 #[pl] u (FT a 0 u))
  (CV: ∀ u,Bl w u->Calls prog 44 #[um key,um text] u fun e w'=> ∃ v1 v2,e=uY (.tuple #[v1,v2,.nilIface])/\J v1 v2 w'/\Bl u w')
  (CR: ∀ v1 v2 u,J v1 v2 u->Bl w u->Calls prog 45 #[v2,sP pq nq cq] u fun e w'=>e=uY (.bool rv)/\J v1 v2 w'/\Bl u w')
  (CD: ∀ v1 v2 u,J v1 v2 u->Bl w u->Calls prog 46 #[v1,.agg #[zo Aa,zn,sP pq nq cq],pl] u fun e w'=>e=uY (zo v)/\Bl u w'):
  Calls prog 23 #[um key,um text,.agg #[zo Aa,zn,sP pq nq cq],pl] w fun e w'=>e=uY (.tuple #[zo (if rv=true then 3 else v),.nilIface])/\Bl w w':=by
 have HB:=AC CB;have HP:=AC CP;have HV:=AC CV;have HR:=AC CR;have HD:=AC CD;have HZ:=AC Z;clear CB CP CV CR CD Z;go_in
 go_wp2_with fail
 obtain⟨W2,hW2⟩:=cK ((w.alloc<|.cells #[zo Aa,zn,sP pq nq cq] 55).alloc (.cells #[zn,zn,zn] 38));rw[hW2.o];have B2:Bl w W2:=hW2.o▸((AR _ w).alloc lr _).alloc zw _;have NQ:AO W2 w.heap.size #[zo Aa,zn,sP pq nq cq] 55:=hW2.o▸(AO.new w _ _).alloc _;have HQ:AF (∀ u,Bl W2 u->u.cell? (zm w.heap.size 0)=some (zo Aa)/\u.cell? (zm w.heap.size 1)=some (zn)/\u.cell? (zm w.heap.size 2)=some (sP pq nq cq)/\Bl w u):=⟨fun u hu=>by
  have q:=(NQ.of<|hu.block _ NQ.lt).three;exact⟨q.1,q.2.1,q.2.2.1,B2.trans<|hu.mono B2.size⟩⟩
 clear hW2 NQ;apply(HB.o _ B2).mono;rintro e w3 ⟨rfl,hb3⟩;have B3:=AC hb3;clear hb3 B2;rw[JR];go_wp2_with fail
 apply(HP.o _ (HQ.o _ B3.o).2.2.2).mono;rintro e w4 ⟨rfl,hb4⟩;have B4:=tr B3 hb4;clear hb4 B3;rw[JR];go_wp2_with fail
 apply(HV.o _ (HQ.o _ B4.o).2.2.2).mono;rintro e w5 ⟨v1,v2,rfl,j5,BX⟩;have B5:=tr B4 BX;have HJ:=AC j5;have z10:=(HZ.o.be (HQ.o _ B5.o).2.2.2).c10;rw[BU _ zu]at z10;have HI:=fun(t:TypeId) (v:Value)=>Yil t v w5;obtain⟨q0,q1,q2,_⟩:=HQ.o _ B5.o;clear BX B4 j5;go_wp2_with fail
 apply(HI _ _).mono;rintro e w6 ⟨rfl,rfl⟩;go_wp2_with fail
 apply(HR.o _ _ _ HJ.o (HQ.o _ B5.o).2.2.2).mono;rintro e w7 ⟨rfl,j7,G6⟩;have B7:=tr B5 G6;have HJ7:=AC j7;obtain⟨r0,r1,r2,_⟩:=HQ.o _ B7.o;clear G6 j7 q0 q1 q2 z10 B5 HJ;cases rv with
 | true=>
  go_wp2
  go_ret2
  exact⟨rfl,(HQ.o _ B7.o).2.2.2⟩
 | false=>
  go_wp2_with fail
  apply(HD.o _ _ _ HJ7.o (HQ.o _ B7.o).2.2.2).mono;rintro e w8 ⟨rfl,GV⟩;have B8:=tr B7 GV;clear GV;go_wp2
  go_ret2
  exact⟨rfl,(HQ.o _ B8.o).2.2.2⟩
def fE (w:Bb) (xs:List Bk) (ids:List Ay) (v1 v2:Value) (u:Bb):Prop:=(∃ F1 W0,Bl w W0/\Bl W0 u/\AQ 38 3 (Rt W0 3) u v1 xs F1/\ ∀ k,k∈F1->k<u.heap.size)/\ ∃ F2,AQ 9 1 GD u v2 ids F2/\ ∀ k,k∈F2->k<u.heap.size
def fE.be {ids:List Ay}{u':Bb}(h:fE w xs ids v1 v2 u)(hw:Bl u u'):fE w xs ids v1 v2 u':=by
 obtain⟨⟨F1,W0,h1,h2,h3,uU⟩,F2,h4,h5⟩:=h;exact⟨⟨F1,W0,h1,h2.trans<|hw.mono h2.size,AQ.sb (Rt.sb _ _) _ _ _ _ _ h3 fun j hj=>hw.block j (uU j hj),fun k hk=>BK (uU k hk) hw.size⟩,F2,AQ.sb GD.sb _ _ _ _ _ h4 fun j hj=>hw.block j (h5 j hj),fun k hk=>BK (h5 k hk) hw.size⟩
def AQ.OG {e:TypeId}{v:Value}{F:Cg}(h:AQ e 1 GD w v ts F)(hF: ∀ k,k∈F->k<w.heap.size)(hz: ∀ t,t∈ts->t.size<1000000000): ∃ p c,v= sP p ts.length c/\IV w p ts/\ts.length<1000000000:=by
 obtain⟨p,c,rfl,_,hr⟩:=AQ.rowOf (Q':=fun b o x=>b<w.heap.size/\w.cell? (zm b o)=some (um x)) h hF fun b o vs x G hc hb _ q=>⟨hb,by have:=hc 0 zx;rw[q.2]at this;exact this⟩;refine⟨p,c,rfl,fun i t hi=>?_,hr.len⟩;obtain⟨b,o,e,h1,h2⟩:=hr.at_ i t hi;rw[Nat.mul_one]at h2;exact⟨hz t<|Ej hi,b,o,e,h1,h2⟩
def fE.ids (h:fE w xs (Eu key ts) v1 v2 u): ∃ p c,v2= sP p (Eu key ts).length c/\IV u p (Eu key ts)/\(Eu key ts).length<1000000000:=by
 obtain⟨_,F2,h4,h5⟩:=h;refine AQ.OG h4 h5 fun t ht=>?_;cases ts with
 | nil=>cases ht
 | cons t0 ts=>
  obtain⟨s,_,rfl⟩:=List.mem_map.1 ht;show(Ez [⟨s.toArray⟩]).toArray.size<_;rw[GN,KZ];omega
def Z18 (V:D9)(CL:Gg)(hG:Oq a w)(hB:B<=w.heap.size){l:By}{S:Bool}{y0:Ay×Bk}{ys:List (Ay×Bk)}(hk:O9 key=true)(hl:l.length<1000000000)(hch:GZ Hu l= .ok ⟨S,y0::ys,Yz S<|JF (Bt key [y0.1])<|ys.map (·.1)⟩)(hn:ys.length<8)(Aq: ∀ x,x∈(y0::ys).map (·.2)->IU x=0)(hc:Gq Aa){pp:Bp}{cp:Nat}{rv:List Ay}(hq:IV w pq rv)(Ea:rv.length<1000000000){ps:List Dk}(hp:Ap 2 (Jh B w 4) pp ps)(XZ:gD ps=0):
  Calls prog 23 #[um key,.string<|ba l,.agg #[zo Aa,zn,sP pq rv.length cq],sP pp ps.length cp] w fun e w'=>e=uY (.tuple #[.int .i64<|IQ rv (Eu key<|(y0::ys).map (·.1)) Aa ((y0::ys).map (·.2)) ps,.nilIface])/\Bl w w':=by
 have Z:=hG.sent;have hid:=gG key y0.1<|ys.map (·.1);rw[xp (f:=fun y:Ay×Bk=>y.1)];have HT: ∀ v1 v2 u,fE w ((y0::ys).map (·.2)) (Eu key<|y0.1::ys.map (·.1)) v1 v2 u-> ∃ p c,v2= sP p (Eu key<|y0.1::ys.map (·.1)).length c/\IV u p (Eu key<|y0.1::ys.map (·.1))/\(Eu key<|y0.1::ys.map (·.1)).length<1000000000:=fun v1 v2 u h=>h.ids;generalize Eu key (y0.1::ys.map (·.1))=ids at*;refine Zwz (rv:=Kz rv ids) (J:=fun v1 v2 u=>fE w ((y0::ys).map (·.2)) ids v1 v2 u) Z ?_ ?_ ?_ ?_ ?_
 .intro u hu;exact Zhn V (B:=u.heap.size) (D:=3) (x:=⟨[],[],[]⟩) (Z.be hu) lr ⟨_,_,_,_,_,_,rfl,EO _,ak,EO _,ak,EO _,ak⟩
 .intro u hu;exact Yda V (B:=B) (D:=3) (Z.be hu) (Ab hB hu.size) (hp.cy fun _ _ _ q=>q.cy (Bq hu hB) lr) XZ
 .intro u hu;apply(Zr3 V CL (Z.be hu) hk hl hch rfl rfl hn rfl).mono;rintro e w' ⟨v1,v2,F1,F2,W0,rfl,h1,h2,h3,h4,h5,h6⟩;rw[<- hid]at h4;exact⟨v1,v2,rfl,⟨⟨F1,W0,hu.trans<|h1.mono hu.size,h2,h3,h5.lt⟩,F2,h4,h6.lt⟩,h1.trans<|h2.mono h1.size⟩
 .intro v1 v2 u h hu;obtain⟨p,c,rfl,h1,h2⟩:=HT v1 v2 u h;apply(Zvp (hq.be hu) Ea h1 h2).mono;rintro e w' ⟨rfl,hw⟩;exact⟨rfl,h.be hw,hw⟩
 .intro v1 v2 u h hu;obtain⟨⟨F1,W0,h1,h2,h3,uU⟩,_⟩:=h;obtain⟨p,c,rfl,hc',hr⟩:=AQ.rowOf (Q':=Iz u.heap.size u 4) h3 uU fun b o vs x G Ox hb _ q=>EZ.at q.2 (Go.W.Below.cy h2 h2.size) hb Ox;obtain⟨b,o,rfl,_⟩:=hr.at_ 0 y0.2 rfl;exact Zz9 (B:=u.heap.size) (D:=1) (hG.of (F:=[]) (Off.of hu) fun _ h=>(by cases h)) lr hc hr (by simpa using hc') (fun x hx=>kY.of (Aq x hx)) (by rw[Dj];omega) (hp.cy fun _ _ _ q=>q.cy (Go.W.Below.cy (hu.mono hB)<|Ab hB hu.size) lr)<|xA.of XZ
variable {x:Bk}{vs:List T}
def vQ (h:Ic x=0):IU x=0/\(LM x).size<=4000/\A7 x=LM x:=by
 have e:A7 x=LM x:=xj h;unfold Ic at h;split at h
 .rename_i h';exact absurd h h'
 .rename_i h';split at h
  .cases h
  .exact⟨Decidable.not_not.mp h',zx,e⟩
def Z9j (h:Ic x=0)(hi:QA x):U8 Sv (fun y:Ay×Bk=>Em y.1) (A7 x,x):=fun r=>by
 obtain⟨h1,h2,h3⟩:=vQ h;rw[h3];unfold Sv Em;dsimp only;rw[J2,JB,De.then_ok<|qp zx _,xd zx,<- gH,De.then_ok<|vI _ r,Z2y<|Z45 h1 hi h2,WY]
def Z75 {α:Type}(f:Ay->Ay): ∀ l:List (Ay×α),cat f (l.map (·.1))=cat (fun y=>f y.1) l
 | []=>rfl
 | x::l=>by rw[xp,cat,cat,Z75 f l]
def vS {S:Bool}{xs:List Bk}{tag:By}(hne:xs≠[])(hn:xs.length<=8)(ht:tag.length=32)(hx: ∀ x,x∈xs->Ic x=0/\QA x):GZ Hu (bl<|KT S (xs.map A7) tag)= .ok ⟨S,xs.map fun x=>(A7 x,x),tag⟩:=by
 have hl:xs.map A7=(xs.map fun x=>(A7 x,x)).map (·.1):=by rw[List.map_map];rfl
 have hm:=Za (f:=Sv) (p:=fun y:Ay×Bk=>Em y.1) (m:=8) (xs:=xs.map fun x=>(A7 x,x)) (fun y hy=>by
  obtain⟨x,UH,rfl⟩:=List.mem_map.mp hy;exact Z9j (hx x UH).1 (hx x UH).2) (by simpa using hn) zx tag
 have e:bl (KT S (xs.map A7) tag)=Nr++(bl (b1 (if S then 1 else 0))++(bl (BO (fun y:Ay×Bk=>Em y.1) (xs.map fun x=>(A7 x,x)))++tag)):=by
  rw[hl];unfold KT BO;rw[Z75,Dj,J2,J2,J2,kP,kP];simp only[JB]
 have hs1:(if S then 1 else 0)<=1:=by cases S <;> decide
 have hnz: ¬ (xs.map fun x=>(A7 x,x)).length=0:=by simpa using hne
 have mZ:=vI tag [];rw[List.append_nil,ht]at mZ;rw[e,GZ]
 have:Hu (Nr++(bl (b1 (if S then 1 else 0))++(bl (BO (fun y:Ay×Bk=>Em y.1) (xs.map fun x=>(A7 x,x)))++tag)))= .ok (⟨S,xs.map fun x=>(A7 x,x),tag⟩,[]):=by
  unfold Hu;have h4:=vI Nr<|bl (b1 (if S then 1 else 0))++(bl (BO (fun y:Ay×Bk=>Em y.1) (xs.map fun x=>(A7 x,x)))++tag);rw[show Nr.length=4 from rfl]at h4;rw[De.then_ok h4,xd zw,De.then_ok<|Wq zx _];unfold fP;rw[xd zx,De.then_ok hm];unfold jU;rw[xd hnz,De.map_ok mZ];cases S <;> rfl
 rw[this];rfl
def rD:Ay:=⟨#[116,105,109,101]⟩
def ay:Ay:=⟨#[114,105,103,104,116]⟩
def Zm:Ay:=⟨#[109,97,121]⟩
def vX:T:= .mk 1 0 ⟨#[120]⟩ []
def vT:T:= .mk 1 0 ⟨#[116]⟩ []
def sA:T:= .mk 3 0 ⟨#[97]⟩ []
def dN (n:Int):T:= .mk 5 n ⟨#[]⟩ []
def Ykh:R:=⟨⟨Zm,[vX]⟩,[⟨ay,[vX]⟩],[]⟩
def jR:R:=⟨⟨⟨#[]⟩,[]⟩,[⟨Zm,[sA]⟩,⟨rD,[vT]⟩],[⟨3,vT,dN 5⟩]⟩
def rR:R:=⟨⟨⟨#[]⟩,[]⟩,[⟨Zm,[sA]⟩],[]⟩
def FQ:Bk:=⟨[⟨ay,[sA]⟩],[Ykh],[]⟩
def IK:Bk:=⟨[],[],[[jR]]⟩
def Vk:Ay:=⟨#[107,101,121]⟩
def YF:Dk:=⟨true,[rR]⟩
def qG:Ic FQ=0:=zt
def Z0c:Ic IK=0:=zt
def Fn.sub {bs:List BD}{P:Fc->Prop}{L:List Fc}(h0: ∀ x,P x->x∈L)(h1: ∀ x,Uj bs vs (·∈L) x->x∈L): ∀ (k:Nat) (x:Fc),Fn bs vs P k x->x∈L
 | 0,x,h=>h0 x h
 | k+1,x,.inl h=>Fn.sub h0 h1 k x h
 | k+1,x,.inr ⟨b,hb,σ,⟨q1,q2⟩,q3⟩=>h1 x ⟨b,hb,σ,⟨fun y hy=>Fn.sub h0 h1 k _ (q1 y hy),q2⟩,q3⟩
def Qy:Sd:=Ec 4 FQ
def uX:BD:=⟨(Zm,[(⟨#[120]⟩,0)]),[(ay,[(⟨#[120]⟩,0)])],[],[(⟨#[120]⟩,0,0)]⟩
def Z3s:JL 4 [FQ,IK]=[Qy,Qy]:=zt
def Z31:Va Qy.1=([(rD,[0]),(ay,[1])],[dN 4,sA]):=zt
def uw:Vb Qy.1 Qy.2=([dN 4,sA],[uX]):=zt
def Zvl {P:Fc->Prop}{x:Fc}:Uj [uX] vs P x↔ ∃ n,P (ay,[n])/\x=(Zm,[n]):=by
 constructor
 .rintro⟨b,hb,σ,⟨q1,_⟩,rfl⟩;rw[Bh.1 hb]at q1⊢;exact⟨σ ⟨#[120]⟩,q1 (ay,[(⟨#[120]⟩,0)]) (by simp[uX]),rfl⟩
 .rintro⟨n,q,rfl⟩;exact⟨uX,zw,fun _=>n,⟨fun y hy=>by rw[Bh.1 hy];exact q,fun g hg=>by cases hg⟩,rfl⟩
def Zvd (x:Fc):Uc Qy.1 Qy.2 x↔x∈[(rD,[0]),(ay,[1]),(Zm,[1])]:=by
 unfold Uc;rw[uw,Z31];dsimp only;constructor
 .refine Fn.sub (fun x h=>?_) (fun x h=>?_) 12 x
  .simp only[Ak,Lj,or_false]at h⊢;exact h.imp id .inl
  .obtain⟨n,q,rfl⟩:=Zvl.1 h;simp only[Ak,Lj,or_false,Prod.mk.injEq]at q⊢;rcases q with⟨q,_⟩ | ⟨_,q⟩ | ⟨q,_⟩
   .exact absurd q zu
   .exact .inr<|.inr ⟨trivial,q⟩
   .exact absurd q zu
 .intro h;simp only[Ak,Lj,or_false]at h;rcases h with rfl | rfl | rfl
  .exact Fn.mono (Eg _) (show _∈_ by simp)
  .exact Fn.mono (Eg _) (show _∈_ by simp)
  .exact Fn.mono (i:=1) zx<|.inr<|Zvl.2 ⟨1,by show _∈_;simp,rfl⟩
def Ydg:kR Qy.1 Qy.2:=by
 have hf:=Zvd;unfold Uc at hf;unfold kR;rw[uw,Z31]at*;refine⟨⟨_,by show [(rD,[0]),(ay,[1]),(Zm,[1])].length<=60;decide,fun x h=>(hf x).1 h⟩,fun x h=>(hf x).2 ?_⟩;obtain⟨n,q,rfl⟩:=Zvl.1 h;have q:=(hf _).1 q;simp only[Ak,Lj,or_false,Prod.mk.injEq]at q⊢;rcases q with⟨q,_⟩ | ⟨_,q⟩ | ⟨q,_⟩
 .exact absurd q zu
 .exact .inr<|.inr ⟨trivial,q⟩
 .exact absurd q zu
def Z8d:(okW Qy IK.ck).1=true:=by
 have h:jW (Uc Qy.1 Qy.2) [dN 4,sA] jR:=⟨fun _=>0,fun y hy=>by
  have e:(Qh [dN 4,sA] jR).at_=[(Zm,[(⟨#[]⟩,1)]),(rD,[(⟨#[116]⟩,0)])]:=zt
  rw[e]at hy;rw[Zvd];simp only[Ak,Lj,or_false]at hy;rcases hy with rfl | rfl
  .exact .tail _<|.tail _<|.head _
  .exact .head _,fun g hg=>by
  have e:(Qh [dN 4,sA] jR).gs=[(3,(⟨#[116]⟩,0),(⟨#[]⟩,2))]:=zt
  rw[e]at hg;have e2:(Jg [dN 4,sA] jR).1=[dN 4,sA,dN 5]:=zt
  rw[Bh.1 hg,e2]
  rfl⟩
 unfold okW;rw[uw];show(Su _ _ [[jR]]).1=true;rw[Su,Je,xj h];rfl
def Ygh:pR Qy FQ.ck [YF]=true:=by
 have h:jW (Uc Qy.1 Qy.2) [dN 4,sA] rR:=⟨fun _=>0,fun y hy=>by
  have e:(Qh [dN 4,sA] rR).at_=[(Zm,[(⟨#[]⟩,1)])]:=zt
  rw[e]at hy;rw[Bh.1 hy,Zvd];exact .tail _<|.tail _<|.head _,fun g hg=>by
  have e:(Qh [dN 4,sA] rR).gs=[]:=zt
  rw[e]at hg;cases hg⟩
 unfold pR okW;rw[uw];show(ZL _ (Su _ _ []).2 [YF]).1=true;rw[Su,ZL];show(if(Je _ [dN 4,sA] [rR]).1=true then _ else _:Bool×List T).1=true;rw[Je,xj h];rfl
def Yfq:Ux 4 [FQ,IK] [YF]=6:=by
 refine wG.2 ⟨fun y hy=>?_,fun z hz=>?_,FQ,[IK],rfl,Ygh⟩
 .rw[Z3s]at hy;simp only[Ak,Lj,or_false,or_self]at hy;rw[hy];exact Ydg
 .rw[Z3s]at hz;simp only[List.zip_cons_cons,List.zip_nil_right,Ak,Lj,or_false]at hz;rcases hz with rfl | rfl
  .rfl
  .exact Z8d
def gX:Ay:=KT false [A7 FQ]<|Bt Vk [A7 FQ]
def Zl:Ay:=KT false [A7 FQ,A7 IK]<|O8 (Bt Vk [A7 FQ]) [IK]
def Ybn (V:D9)(CL:Gg){a:Nat->Addr}{w:Bb}(Z:Oq a w){B:Nat}(hB:B<=w.heap.size)(iB:QA FQ)(iC:QA IK){pp:Bp}{cp:Nat}(hp:Ap 2 (Jh B w 4) pp [YF]):
  Calls prog 23 #[um Vk,um Zl,.agg #[zo 4,zn,zn],sP pp 1 cp] w fun e w'=>e=uY (.tuple #[zo 6,.nilIface])/\Bl w w':=by
 have hch:GZ Hu (bl Zl)= .ok ⟨false,[(A7 FQ,FQ),(A7 IK,IK)],O8 (Bt Vk [A7 FQ]) [IK]⟩:=vS (xs:=[FQ,IK]) zw zw (qy (KZ _) _) fun x hx=>by
  rcases List.mem_cons.mp hx with rfl | hx
  .exact⟨qG,iB⟩
  .obtain rfl:=List.mem_singleton.mp hx;exact⟨Z0c,iC⟩
 have hsz:(bl Zl).length<1000000000:=by
  rw[gH];exact jw false zw (fun t ht=>by
   rcases List.mem_cons.mp ht with rfl | ht
   .exact bL _
   .obtain rfl:=List.mem_singleton.mp ht;exact bL _)<|qy (KZ _) _
 have h:=Z18 V CL (pq:=none) (rv:=[]) (cq:=0) (cp:=cp) (S:=false) (key:=Vk) (l:=bl Zl) (y0:=(A7 FQ,FQ)) (ys:=[(A7 IK,IK)]) (Aa:=4) Z hB zu hsz hch zw (fun x hx=>by
  simp only[xp,List.map_nil,Ak,Lj,or_false]at hx;rcases hx with rfl | rfl
  .exact(vQ qG).1
  .exact(vQ Z0c).1) ⟨zu,zu⟩ (fun i t h=>by simp at h) zw hp zt
 rw[WY]at h;have e: ∀ ids,IQ [] ids 4 ([(A7 FQ,FQ),(A7 IK,IK)].map (·.2)) [YF]=6:=fun ids=>by
  have:Kz [] ids=false:=by
   cases h:Kz [] ids with
   | false=>rfl
   | true=>obtain⟨t,_,q⟩:=jf.1 h;cases q
  unfold IQ;rw[this];exact Yfq
 rw[e]at h;exact h
def Yab (V:D9){D:Nat}{vs:Bu}(Z:AZ a w)(E:IL a w)(hB:B<=w.heap.size)(hS:EZ B w D vs FQ):Calls prog 12 #[um Vk,.agg vs.toArray] w fun e w'=>e=uY (.tuple #[um gX,zo 0])/\Bl w w':=by
 have e1:Ji Vk FQ=gX:=xj ⟨zu,qG⟩;have e2:LQ Vk FQ=0:=(xj zu).trans qG;have C:=Zyj V (key:=Vk) Z E zu hB hS;rw[e1,e2]at C;exact C
def Yc7 (V:D9)(CL:Gg)(Z:AZ a w)(E:IL a w)(hB:B<=w.heap.size)(iB:QA FQ){p:Bp}{c:Nat}(hr:Ap 3 (Iz B w 4) p [IK]):Calls prog 13 #[um gX,sP p 1 c] w fun e w'=>e=uY (.tuple #[um Zl,zo 0])/\Bl w w':=by
 have hch:GZ Hu (bl gX)= .ok ⟨false,[(A7 FQ,FQ)],Bt Vk [A7 FQ]⟩:=vS (xs:=[FQ]) zw zw (KZ _) fun x hx=>by
  obtain rfl:=List.mem_singleton.mp hx;exact⟨qG,iB⟩
 have hsz:(bl gX).length<1000000000:=by
  rw[gH];exact jw false zw (fun t ht=>by
   obtain rfl:=List.mem_singleton.mp ht;exact bL _)<|KZ _
 have hat:Iq (bl gX) [IK]= .ok Zl:=by
  have h0:Jw 1 [IK]=0:=by simp[Jw,Qe,Z0c]
  unfold Iq SG;rw[hch];exact xj h0
 have C:=Zv1 V CL (D:=3) (xs:=[IK]) (c:=c) Z E hsz hB hr;rw[hat,WY]at C;exact C
def Yaa (V:D9)(CL:Gg)(Z:Oq a w)(hB:B<=w.heap.size)(iB:QA FQ)(iC:QA IK){pp:Bp}{cp:Nat}(hp:Ap 2 (Jh B w 4) pp [YF]):
  Calls prog 14 #[um Vk,um Zl,.agg #[zo 4,zn,zn],sP pp 1 cp] w fun e w'=>e=uY (.tuple #[zo 6,zo 0])/\Bl w w':=by
 have C:=AC fun u (hu:Bl w u)=>Ybn V CL (cp:=cp) (Z.be hu) (Ab hB hu.size) iB iC (hp.cy fun _ _ _ q=>q.cy (Bq hu hB) lr);have N:=AC kD;clear hp Z;generalize Zl=t at*;generalize Vk=k at*;go_in
 go_wp2_with fail
 apply(C.o _<|(AR _ w).alloc lr _).mono;rintro e w1 ⟨rfl,hb⟩;have B1:=AC<|(zv w _).trans<|hb.mono zw;clear hb;go_wp2_with fail
 apply(N.o _).mono;rintro e w2 ⟨rfl,rfl⟩;go_wp2
 go_ret2
 exact⟨rfl,B1.o⟩
def Yke (w:Bb) (Y:Prop) (G:List Dk->Prop) (v:Value) (m:Int) (u:Bb):Prop:=(Y/\m≠0/\v= zn)\/(m=0/\ ∃ l F,G l/\AQ 189 2 (DY AV 4) u v l F/\Ag w.heap.size u F)
def Zyl (t:Ay)(ht:t.size<1000000000)(Z:AZ a w)(E:IL a w):Calls prog 11 #[um t] w fun e w'=> ∃ v m p,e=uY (.tuple #[v,zo m,zo p])/\Yke w (∃ er,Gu t (Vh t)= .error er) (fun l=>Gu t (Vh t)= .ok l) v m w'/\Bl w w':=by
 have C:=AC<|Zno t ht Z;have HY:=AC<|Yc8 t;have HZ:=AC Z;have HE:=AC E;have N:=AC kD;clear Z E;generalize Gu t (Vh t)=Y at*;go_in
 go_wp2_with fail
 apply C.o.mono;rintro e w1 ⟨hb,(⟨n,p,L,rfl,hn,hL,rfl,hF⟩ | ⟨v,y,rfl,rfl,F,hO,hN⟩)⟩
 .obtain⟨k,rfl,hk⟩:=Ygo<|HY.o _ rfl;have B1:=AC hb;have M:=AC<|Zoi (HZ.o.be hb) (HE.o.be hb) L 0 k p hk hF.two.1 (by have:=hF.two.2.1;rwa [wu]at this);clear hF hb;go_wp2_with fail
  apply mq M.o;rintro w2 hb;have B2:=tr B1 hb;clear hb;go_wp2
  refine Bg (by simp[results,results11,go_sem];try rfl) rfl ?_;exact⟨_,_,_,rfl,.inl ⟨⟨_,rfl⟩,zx,rfl⟩,B2.o⟩
 .obtain⟨q,c,rfl⟩:=hO.form;have B1:=AC hb;have J1:=AC<|AJ hO hN;clear hO hN hb;go_wp2_with fail
  apply(N.o _).mono;rintro e w2 ⟨rfl,rfl⟩;go_wp2
  refine Bg (by simp[results,results11,go_sem];try rfl) rfl ?_;exact⟨_,_,_,rfl,.inr ⟨rfl,_,F,rfl,J1.o.1,J1.o.2⟩,B1.o⟩
def Zi1 (t:Ay): ∀ (n:Nat) {l:List Dk},(l.length<=24/\ ∀ x∈l,J4 x.either=0)->Ub (Un t n l) fun l=>l.length<=24/\ ∀ x∈l,J4 x.either=0
 | 0,l,_,x,p,y,x',p',_,h=>by cases h
 | n+1,l,hl,x,p,y,x',p',hT,h=>by
  rw[Un]at h;split at h
  ·cases h;exact⟨hl,hT⟩
  ·split at h
   ·obtain⟨u,x1,p1,h1,h2⟩:=I7 h;obtain⟨e,x2,p2,h3,h4⟩:=I7 h2;obtain⟨he,Pv⟩:=Zuy t _ _ _ _ _ (X8 h1).1 h3;split at h4
    ·cases h4
    ·obtain⟨v,x3,p3,h5,h6⟩:=I7 h4;exact Zi1 t n ⟨by have:=hl.1;simp;omega,qO hl.2 he⟩ _ _ _ _ _ (wI h5) h6
   ·cases h
def Z56 {t:Ay}{l:List Dk}(h:Gu t (Vh t)= .ok l):gD l=0:=by
 obtain⟨h1,h2⟩:=Ya7 (Zi1 t 25 ⟨zw,zw⟩) h;exact jg h1 h2
section
variable {L n:Nat} {u:Bb} {A:Int} {s:Ay} {a:Nat->Addr}
def Z4p {ty:U2}{d:Nat}{w:Bb}{vs:Bu}{x:Bk}{F:Cg}(h:Dx ty d w vs x F): ∀ u,u∈vs->u.oneCell'=true:=by
 obtain⟨p,c,p1,c1,p2,c2,rfl⟩:=Dx.vals h;intro u hu;simp at hu;rcases hu with rfl | rfl | rfl <;> rfl
def Z6l (h:Kp L u n)(hn:n<65536)(RG:s.size<=65536)(Z:AZ a u)(E:IL a u):Calls prog 9 #[zq L 0,.agg #[zo 1,zo A,um s]] u (X0 L n u):=by
 obtain⟨vb,vp,vk,vc,vy,vr,vd,bs,ys,rs,ds,ps,Fb,Fy,Fr,Fd,Fp,H,⟨pp,mp,cp,rfl⟩,⟨tk,rfl⟩,⟨ik,rfl⟩,hl⟩:=h;obtain⟨pr,cr,rfl⟩:=H.rb.form;have HK:=AC H;have HL:=AC hl;have hL:=H.blk.lt;have C:=AC fun v (hv:Bl u v)=>Zua s zx (Z.be hv) (E.be hv);clear H hl Z E;go_in
 go_wp2_with fail
 have B0:=zv u<|.cells #[zo 1,zo A,um s] 44;have hz0:u.heap.size<(u.alloc<|.cells #[zo 1,zo A,um s] 44).heap.size:=zw
 refine(C.o _ B0).mono ?_;generalize u.alloc (.cells #[zo 1,zo A,um s] 44)=U at*;rintro e w1 ⟨⟨⟨p,c0,c⟩,⟨p1,c1,c2⟩,p2,c3,c4⟩,m,q,rfl,hk,hb⟩;have B1:=AC<|B0.trans<|hb.mono B0.size;have hsz:=hb.size;simp only[XT];rcases hk with⟨_,hm,_⟩ | ⟨rfl,x,F,hx,hO,hN⟩
 .have Yb:(m==0)=false:=by simpa using hm
  clear hb;go_wp2_with fail
  refine⟨rfl,_,(by simp[results,results9,go_sem];try rfl),?_⟩;obtain⟨l1,l2,l3,l4,l5,l6⟩:=HL.o;exact Kp.mk ((HK.o.la B1.o).up _) ((B1.o.alloc B1.o.size _).mono zx) ⟨_,_,_,rfl⟩ ⟨_,rfl⟩ ⟨_,rfl⟩ zx zx zx zx l5 l6
 .have HX:=AC<|AJ hx<|AJ hO hN;clear hx hO hN hb;go_wp2_with fail
  obtain⟨U1,hU⟩:=cK (w1.alloc (.cells #[sP p c0 c,sP p1 c1 c2,sP p2 c3 c4] 38));have HN:=AC<|AO.new w1 #[sP p c0 c,sP p1 c1 c2,sP p2 c3 c4] 38;have Oz:AF (Bl w1 U1):=⟨hU.o▸(AR _ w1).alloc lr _⟩;have YR:AF (U1.heap.size=w1.heap.size+1):=⟨by rw[<- hU.o];simp⟩;rw[hU.o]at HN⊢;have KU:=AC<|(HK.o.la B1.o).la Oz.o;have AY:U1.drew.cell? (zm L 0)=some (sP pr bs.length cr)/\U1.drew.cell? (zm w1.heap.size 0)=some (sP p c0 c)/\U1.drew.cell? (zm w1.heap.size 1)=some (sP p1 c1 c2)/\U1.drew.cell? (zm w1.heap.size 2)=some (sP p2 c3 c4):=⟨KU.o.blk.cell 0,HN.o.three.1,HN.o.three.2.1,HN.o.three.2.2.1⟩;refine Vj 10 (fun v=>v.cell? (zm L 0)=some (sP pr bs.length cr)/\v.cell? (zm w1.heap.size 0)=some (sP p c0 c)/\v.cell? (zm w1.heap.size 1)=some (sP p1 c1 c2)/\v.cell? (zm w1.heap.size 2)=some (sP p2 c3 c4)) zt ?_;refine z9 0 (zq L 0) AY ?_
  refine z9 1 (zq L 0) AY ?_
  refine z9 2 (zq L 0) AY ?_
  refine z9 3 (zq L 0) AY ?_
  refine z9 4 (sP pr bs.length cr) AY ?_
  refine z9 5 (.agg #[sP p c0 c,sP p1 c1 c2,sP p2 c3 c4]) AY ?_
  refine rz 6 (h:=fun K' hK'=>?_);go_simp;obtain⟨W,hW⟩:=cK (U1.alloc (.cells #[sP p c0 c,sP p1 c1 c2,sP p2 c3 c4] 38));rw[hW.o];have OZ:Bl U1 W:=hW.o▸(AR _ U1).alloc lr _;have VG:AF (W.heap.size=U1.heap.size+1):=⟨by rw[<- hW.o];simp⟩;have NW:W.heap[U1.heap.size]?=some (.cells #[sP p c0 c,sP p1 c1 c2,sP p2 c3 c4] 38):=hW.o▸Hw _ _;have KW:=AC<|KU.o.la OZ;have HW:=AC<|HN.o.of<|OZ.block _ HN.o.lt;have hb1:Bl w1 W:=Oz.o.trans<|OZ.mono Oz.o.size;have hGl: ∀ k,k∈F->u.heap.size<k:=fun k hk=>fw (HX.o.2.2.ge k hk)
  refine hK'.o _ _ ⟨KW.o.blk.cell 0,HW.o.three.1,HW.o.three.2.1,HW.o.three.2.2.1⟩ ?_;try simp only[zz]
  refine rz 7 (h:=fun K' hK'=>?_);refine X3 Zu7 rfl (.tmp 27) (.tmp 29) rfl (Dx.sb (ty:=AV) 4) (fun _ _ _ _ h=>Z4p h) (L+1) (sP pr bs.length cr) bs Fb rfl (KW.o.rb:AQ _ _ _ W.drew _ _ _) U1.heap.size #[sP p c0 c,sP p1 c1 c2,sP p2 c3 c4] 38 (0,0) x F rfl NW rfl (Dx.sb (ty:=AV) 4 _ _ _ _ _ HX.o.2.1 fun k hk=>hb1.block k (HX.o.2.2.lt k hk)) (fw (HL.o)) (by show L+1<=W.heap.size;have:=YR.o;have:=VG.o;omega) (KW.o.nb.la lr lr) (HX.o.2.2.la zx hb1.size) (fun k hk WF=>jE (HK.o.nb.lt k hk) (hGl k WF)) ?_;intro g cap w9 F' AM;have hsm:=fun k (h:k<W.heap.size) hf=>AM.same k h hf;have KL:=AC<|KW.o.blk.of (w':=w9) (hsm L KW.o.blk.lt fun hf=>fw (KW.o.nb.ge L hf));have HY:=AC<|HW.o.of (w':=w9) (hsm _ HW.o.lt fun hf=>fw (HK.o.nb.lt _ hf));have hS1:w9.cell? (zm L 0)=some (sP pr bs.length cr)/\w9.cell? (zm w1.heap.size 0)=some (sP p c0 c)/\w9.cell? (zm w1.heap.size 1)=some (sP p1 c1 c2)/\w9.cell? (zm w1.heap.size 2)=some (sP p2 c3 c4):=⟨KL.o.cell 0,HY.o.three.1,HY.o.three.2.1,HY.o.three.2.2.1⟩;have ks:=KL.o.soft;have DJ:=AC<|HK.o.appB (tr B1 hb1).o.drew (fun k hk=>Nat.le_of_lt (hGl k hk)) AM;refine hK'.o _ _ hS1 ?_;try simp only[zz]
  refine yp 8 hS1 ?_
  refine yp 9 hS1 ?_
  have Sn:=hS1.1;refine yq ?_;clear AM ks Sn AY hS1;go_wp2_with fail
  refine⟨rfl,_,(by simp[results,results9,go_sem];try rfl),?_⟩;obtain⟨l1,l2,l3,l4,l5,l6⟩:=HL.o;exact Kp.mk DJ.o.1 DJ.o.2 ⟨_,_,_,rfl⟩ ⟨_,rfl⟩ ⟨_,rfl⟩ zc zx zx zx (fun y hy=>by
   rcases Aj.1 hy with hy | hy
   .exact l5 y hy
   .obtain rfl:=Bh.1 hy;exact⟨s,HX.o.1⟩) l6
def Yax (h:Kp L u n)(RG:s.size<=65536)(Z:AZ a u)(E:IL a u):Calls prog 9 #[zq L 0,.agg #[zo 2,zo A,um s]] u (X0 L n u):=by
 obtain⟨vb,vp,vk,vc,vy,vr,vd,bs,ys,rs,ds,ps,Fb,Fy,Fr,Fd,Fp,H,⟨pp,mp,cp,rfl⟩,⟨tk,rfl⟩,⟨ik,rfl⟩,hl⟩:=h;have HK:=AC H;have HL:=AC hl;have hL:=H.blk.lt;have C:=AC fun v (hv:Bl u v)=>Zyl s zx (Z.be hv) (E.be hv);clear H hl Z E;go_in
 go_wp2_with fail
 have B0:=zv u<|.cells #[zo 2,zo A,um s] 44;refine(C.o _ B0).mono ?_;generalize u.alloc (.cells #[zo 2,zo A,um s] 44)=U at*;rintro e w1 ⟨v,m,q,rfl,hk,hb⟩;have B1:=AC<|B0.trans<|hb.mono B0.size;have hsz:=B1.o.size;have K1:=AC<|HK.o.la B1.o;have KC:=K1.o.blk.cell 1;have KS:=K1.o.blk.soft;have hz0:=B0.size;have HKK:=AC hk;have hv: ∃ p' m' c',v= sP p' m' c':=by
  rcases hk with⟨_,_,rfl⟩ | ⟨_,l,F,_,h3,_⟩
  .exact⟨_,_,_,rfl⟩
  .obtain⟨p',c',rfl⟩:=h3.form;exact⟨_,_,_,rfl⟩
 obtain⟨p',m',c',rfl⟩:=hv;clear hk hb B0;by_cases hm:m=0
 .subst hm;go_wp2_with fail
  refine⟨rfl,_,(by simp[results,results9,go_sem];try rfl),?_⟩;obtain⟨l1,l2,l3,l4,l5,l6⟩:=HL.o;rcases HKK.o with⟨_,q,_⟩ | ⟨_,l,F,hg,h3,h4⟩
  .exact absurd rfl q
  .have hx: ∀ k,k∈F->u.heap.size<=k:=fun k hk=>Ab hz0 (h4.ge k hk);exact Kp.mk (K1.o.xy h3 h4 zx fun k hk=>by
    have h:=hx k hk;exact⟨fun q=>fw (HK.o.nb.lt k q),fun q=>fw (HK.o.ny.lt k q),fun q=>fw (HK.o.nr.lt k q),fun q=>fw (HK.o.nd.lt k q)⟩) ((B1.o.mono<|Nat.le_of_lt hL).setCell lr _) ⟨_,_,_,rfl⟩ ⟨_,rfl⟩ ⟨_,rfl⟩ zx zx zx zx l5 ⟨l6.1,l6.2.1,l6.2.2.1,l6.2.2.2.1,l6.2.2.2.2.1,Z56 hg⟩
 .have Yb:(m==0)=false:=by simpa using hm
  go_wp2_with fail
  refine⟨rfl,_,(by simp[results,results9,go_sem];try rfl),?_⟩;obtain⟨l1,l2,l3,l4,l5,l6⟩:=HL.o;exact Kp.mk K1.o (B1.o.mono zx) ⟨_,_,_,rfl⟩ ⟨_,rfl⟩ ⟨_,rfl⟩ zx zx zx zx l5 l6
def Ydp {k:Int}(h:Kp L u n)(hn:n<65536)(RG:s.size<=65536)(hA:gz A)(Z:AZ a u)(E:IL a u):Calls prog 9 #[zq L 0,.agg #[zo k,zo A,um s]] u (X0 L n u):=by
 by_cases h1:k=1
 .subst h1;exact Z6l h hn RG Z E
 by_cases h2:k=2
 .subst h2;exact Yax h RG Z E
 by_cases h3:k=3
 .subst h3;exact Ydq h RG
 by_cases h4:k=4
 .subst h4;exact Z6o h hA
 by_cases h5:k=5
 .subst h5;exact Z6m h hn RG
 by_cases h6:k=6
 .subst h6;exact Z1i h hn RG
 by_cases h7:k=7
 .subst h7;exact Yaw h hn hA
 exact Z6p h h1 h2 h3 h4 h5 h6 h7
end
def Yfb (w:Bb) (n:Nat) (iv:Value) (wr:Bb):Prop:= ∃ k:Nat,k<=n/\iv= zo (k:Int)/\Kp w.heap.size wr k/\Bl w wr
def Z35 {a:Nat->Addr}{w:Bb}{p:Bp}{c:Nat}{xs:List (Int×Int×Ay)}(h:rJ w p xs)(hl:xs.length<140737488355328)(Z:AZ a w)(E:IL a w):Calls prog 4 #[sP p xs.length c] w fun e w'=>(e=uY (.tuple #[.pointer none,.bool false])/\w'=w)\/(e=uY (.tuple #[zq w.heap.size 0,.bool true])/\Kp w.heap.size w' xs.length/\xs.length<=65536/\Bl w w'):=by
 have CS:=AC<|Yaq (c:=c) h hl;have H:=AC h;have HZ:=AC fun u (hu:Bl w u)=>AJ (Z.be hu) (E.be hu);clear h Z E;obtain⟨n,hn⟩:=cK (xs.length);rw[hn.o]at hl CS⊢;go_in
 go_wp2_with fail
 apply CS.o.mono;rintro e w1 ⟨b,rfl,rfl,hb⟩;cases b with
 | false=>
  clear hb;go_wp2
  go_ret2
  exact .inl ⟨rfl,rfl⟩
 | true=>
  obtain⟨NM,hs⟩:=hb rfl;have HS:=AC hs;clear hb hs CS;go_wp2_with fail
  have K0:Kp w1.heap.size (w1.alloc<|.cells #[zn,zn,.string ⟨#[107,101,121]⟩,zo 0,zn,zn,zn] 31) 0:=⟨_,_,_,_,_,_,_,[],[],[],[],[],[],[],[],[],[],⟨AO.new _ _ _,AQ.nil,AQ.nil,AQ.nil,AQ.nil,Ag.nil _ _,Ag.nil _ _,Ag.nil _ _,Ag.nil _ _,(fun _ h=>by cases h),(fun _ h=>by cases h),(fun _ h=>by cases h),AQ.nil,Ag.nil _ _,fun _ h=>by cases h⟩,⟨_,_,_,rfl⟩,⟨_,rfl⟩,⟨_,rfl⟩,zw,zw,zw,zw,(fun _ h=>by cases h),(fun _ h=>by cases h),zu,(fun _ h=>by cases h),(fun _ h=>by cases h),⟨0,rfl,zu,zu⟩,rfl⟩;have HK:=AC K0;clear K0;go_loopw [6] (fun iv wr=>Yfb w1 n iv wr) (fun iv _=>n-(intOf iv).toNat)
  .exact⟨0,zx,rfl,HK.o,(AR _ _).alloc lr _⟩
  .obtain⟨k,hk,rfl,tu,Af⟩:=hrel;have HB:=AC Af;have HP:=AC tu;by_cases hlt:k<n
   .have OP:k<xs.length:=by rw[hn.o];exact hlt
    obtain⟨⟨hs,hA⟩,b,o,rfl,c0,c1,c2⟩:=H.o k xs[k]<|A8 OP;have hsz:=HS.o k xs[k]<|A8 OP;have d0:=Cb c0 Af;have d1:=Cb c1 Af;have d2:=Cb c2 Af;have ST:=AC fun kk aa ss (RG:ByteArray.size ss<=65536) (hA:gz aa)=>Ydp (k:=kk) (A:=aa) (s:=ss) tu zx RG hA (HZ.o _ Af).1 (HZ.o _ Af).2;have HA:=AC hA;clear c0 c1 c2 tu Af hA;generalize xs[k]=x at*;go_wp2_with fail
    apply(ST.o _ _ _ hsz HA.o).mono;rintro e w2 ⟨rfl,hk2,hb2⟩;have HP2:=AC<|AJ hk2<|HB.o.trans hb2;clear hk2 hb2 ST d0 d1 d2;go_wp2
    exact⟨⟨k+1,zx,by go_num,HP2.o.1,HP2.o.2⟩,zd⟩
   .obtain rfl:k=n:=zx
    clear tu Af;go_wp2
    go_ret2
    exact .inr ⟨rfl,HP.o,NM,HB.o⟩
def Yeu:Ay:=⟨#[114,105,103,104,116,40,34,97,34,41,59,32,109,97,121,40,36,120,41,32,60,45,32,114,105,103,104,116,40,36,120,41,59]⟩
def Yev:Ay:=⟨#[99,104,101,99,107,32,105,102,32,109,97,121,40,34,97,34,41,44,32,116,105,109,101,40,36,116,41,44,32,36,116,32,60,32,64,53,59]⟩
def wZ:Ay:=⟨#[97,108,108,111,119,32,105,102,32,109,97,121,40,34,97,34,41,59]⟩
def eqB:Gu Yeu (QG Yeu)= .ok FQ:=zt
def eqC:Gu Yev (QG Yev)= .ok IK:=zt
def O3:Gu wZ (Vh wZ)= .ok [YF]:=zt
section
variable {a:Nat->Addr} {w:Bb}
def Zye {t:Ay}{x:Bk}(ht:t.size<1000000000)(hx:Gu t (QG t)= .ok x)(Z:AZ a w)(E:IL a w):Calls prog 10 #[um t] w fun e w'=> ∃ p c p1 c1 p2 c2 q,e=uY (.tuple #[.agg #[sP p x.fa.length c,sP p1 x.ru.length c1,sP p2 x.ck.length c2],zo 0,zo q])/\EZ w'.heap.size w' 3 [sP p x.fa.length c,sP p1 x.ru.length c1,sP p2 x.ck.length c2] x/\Bl w w':=by
 apply(Zua t ht Z E).mono;rintro e w' ⟨s,m,q,rfl,hk,hb⟩;rcases hk with⟨⟨er,h⟩,_⟩ | ⟨rfl,y,F,h2,h3,h4⟩
 .rw[hx]at h;cases h
 .rw[hx]at h2;cases h2;have hS:=Dx.toS h3 h4.lt;obtain⟨p,c,p1,c1,p2,c2,e1,_⟩:=id hS;have e2:XT s=#[sP p x.fa.length c,sP p1 x.ru.length c1,sP p2 x.ck.length c2]:=by rw[<- Array.toArray_toList (xs:=XT s),e1]
  exact⟨p,c,p1,c1,p2,c2,q,by rw[e2],e1▸hS,hb⟩
def Ydb (Z:AZ a w)(E:IL a w):Calls prog 11 #[um wZ] w fun e w'=> ∃ p c q,e=uY (.tuple #[sP p 1 c,zo 0,zo q])/\Ap 2 (Jh w'.heap.size w' 4) p [YF]/\Bl w w':=by
 apply(Zyl wZ zu Z E).mono;rintro e w' ⟨v,m,q,rfl,hk,hb⟩;rcases hk with⟨⟨er,h⟩,_⟩ | ⟨rfl,y,F,h2,h3,h4⟩
 .rw[O3]at h;cases h
 .rw[O3]at h2;cases h2;obtain⟨p,c,rfl,_,hr⟩:=AQ.rowOf (Q':=Jh w'.heap.size w' 4) h3 h4.lt fun _ _ _ _ _ hcc G4 hG q=>DY.at_ q hG G4 hcc;exact⟨p,c,q,rfl,hr,hb⟩
def Zww (V:D9)(CL:Gg)(G:Oq a w)(E:IL a w):Calls prog 5 #[] w fun e w'=>e=uY (.bool true)/\Bl w w':=by
 have Z:=G.sent;have C1:=AC fun u (hu:Bl w u)=>Zye zu eqB (Z.be hu) (E.be hu);have C2:=AC fun u (hu:Bl w u)=>Zye zu eqC (Z.be hu) (E.be hu);have C3:=AC fun u (hu:Bl w u)=>Ydb (Z.be hu) (E.be hu);have C4:=AC fun u (hu:Bl w u) (vs:Bu) (hS:EZ u.heap.size u 3 vs FQ)=>Yab V (Z.be hu) (E.be hu) lr hS;have C5:=AC fun u (hu:Bl w u) (iB:QA FQ) (p:Bp) (c:Nat) (hr:Ap 3 (Iz u.heap.size u 4) p [IK])=>Yc7 V CL (Z.be hu) (E.be hu) lr iB (c:=c) hr;have C6:=AC fun u (hu:Bl w u) (iB:QA FQ) (iC:QA IK) (p:Bp) (c:Nat) (hr:Ap 2 (Jh u.heap.size u 4) p [YF])=>Yaa V CL (G.be hu) lr iB iC (cp:=c) hr;simp only[show FQ.fa.length=1 from rfl,show FQ.ru.length=1 from rfl,show FQ.ck.length=0 from rfl,show IK.fa.length=0 from rfl,show IK.ru.length=0 from rfl,show IK.ck.length=1 from rfl]at C1 C2;clear Z E G;go_in
 go_wp2_with fail
 apply(C1.o _<|AR _ _).mono;rintro e w1 ⟨pf,cf,pr,cr,pk,ck,q,rfl,hS1,hb1⟩;have iB:=hS1.cZ zx;have S1:=AC hS1;have b1:=AC hb1;clear hS1 hb1;go_wp2_with fail
 have N1:=AC<|AO.new w1 #[sP pf 1 cf,sP pr 1 cr,sP pk 0 ck] 38;have fD:=AC<|b1.o.alloc b1.o.size<|.cells #[sP pf 1 cf,sP pr 1 cr,sP pk 0 ck] 38;have S1':=AC<|EZ.cy S1.o<|Qk (.cells #[sP pf 1 cf,sP pr 1 cr,sP pk 0 ck] 38) lr;generalize w1.alloc (.cells #[sP pf 1 cf,sP pr 1 cr,sP pk 0 ck] 38)=W1 at*;apply(C2.o _ fD.o).mono;rintro e w2 ⟨qf,df,qr,dr,qk,dk,q2,rfl,Kw,hb2⟩;have iC:=Kw.cZ zx;have S2:=AC Kw;have N2:=AC<|N1.o.of<|hb2.block _ N1.o.lt;have s1:=AC<|EZ.cy S1'.o<|Bq hb2 (fw (N1.o.lt));have b2:=AC<|fD.o.trans<|hb2.mono fD.o.size;have z2:w1.heap.size<w2.heap.size:=BK N1.o.lt hb2.size;clear Kw hb2 b1 S1 N1 fD S1';go_wp2_with fail
 have jQ:=AC<|b2.o.alloc b2.o.size<|.cells #[sP qf 0 df,sP qr 0 dr,sP qk 1 dk] 38;have NB:=AC<|N2.o.alloc<|.cells #[sP qf 0 df,sP qr 0 dr,sP qk 1 dk] 38;have NC:=AC<|AO.new w2 #[sP qf 0 df,sP qr 0 dr,sP qk 1 dk] 38;have SB:=AC<|EZ.cy s1.o<|Qk (.cells #[sP qf 0 df,sP qr 0 dr,sP qk 1 dk] 38)<|Nat.le_of_lt z2;have SC:=AC<|EZ.cy S2.o<|Qk (.cells #[sP qf 0 df,sP qr 0 dr,sP qk 1 dk] 38) lr;generalize w2.alloc (.cells #[sP qf 0 df,sP qr 0 dr,sP qk 1 dk] 38)=W2 at*;apply(C3.o _ jQ.o).mono;rintro e w3 ⟨pp,cp,q3,rfl,hP,hb3⟩;have HA:AF (∀ u,Bl w3 u->(u.cell? (zm w1.heap.size 0)=some (sP pf 1 cf)/\u.cell? (zm w1.heap.size 1)=some (sP pr 1 cr)/\u.cell? (zm w1.heap.size 2)=some (sP pk 0 ck))/\(u.cell? (zm w2.heap.size 0)=some (sP qf 0 df)/\u.cell? (zm w2.heap.size 1)=some (sP qr 0 dr)/\u.cell? (zm w2.heap.size 2)=some (sP qk 1 dk))/\EZ u.heap.size u 3 [sP pf 1 cf,sP pr 1 cr,sP pk 0 ck] FQ/\EZ u.heap.size u 3 [sP qf 0 df,sP qr 0 dr,sP qk 1 dk] IK/\Ap 2 (Jh u.heap.size u 4) pp [YF]/\Bl w u):=⟨fun u hu=>by
  have h3:=hb3.size;have h4:=hu.size;have hl:=NC.o.lt;have hW:Bl W2 u:=hb3.trans<|hu.mono h3;have x1:=(NB.o.of<|hW.block _ NB.o.lt).three;have x2:=(NC.o.of<|hW.block _ NC.o.lt).three;have z1:=hW.size;exact⟨⟨x1.1,x1.2.1,x1.2.2.1⟩,⟨x2.1,x2.2.1,x2.2.2.1⟩,EZ.cy SB.o<|Go.W.Below.cy (hW.mono zx) zx,EZ.cy SC.o<|Go.W.Below.cy (hW.mono zx) zx,hP.cy fun _ _ _ r=>r.cy (Go.W.Below.cy hu h4) lr,jQ.o.trans<|hW.mono jQ.o.size⟩⟩
 obtain⟨⟨y0,y1,y2⟩,⟨x0,x1,x2⟩,_⟩:=HA.o w3<|AR _ _;clear hP hb3;go_wp2_with fail
 apply(C4.o _ (HA.o w3<|AR _ _).2.2.2.2.2 _ (HA.o w3<|AR _ _).2.2.1).mono;rintro e w4 ⟨rfl,hb4⟩;have H4:=AC hb4;obtain⟨⟨y0,y1,y2⟩,⟨x0,x1,x2⟩,_⟩:=HA.o w4 hb4;clear hb4;generalize ht:gX=tA;go_wp2_with fail
 have B4:Bl w4 (w4.alloc<|.cells #[sP qf 0 df,sP qr 0 dr,sP qk 1 dk] 38):=(AR _ w4).alloc lr _;have M4:=AO.new w4 #[sP qf 0 df,sP qr 0 dr,sP qk 1 dk] 38;generalize w4.alloc (.cells #[sP qf 0 df,sP qr 0 dr,sP qk 1 dk] 38)=W4 at*;have sH:=AC<|H4.o.trans<|B4.mono H4.o.size;have R4:Ap 3 (Iz W4.heap.size W4 4) (Qb w4.heap.size 0) [IK]:=wW (EZ.at (HA.o W4 sH.o).2.2.2.1 (EG.up lr) M4.lt fun j _=>by rw[Gx];exact(M4.cell j).trans<|Tu ..);apply(ht▸C5.o _ (HA.o W4 sH.o).2.2.2.2.2 iB _ 1 R4).mono;rintro e w5 ⟨rfl,BX⟩;have H5:=AC<|sH.o.trans<|BX.mono sH.o.size;obtain⟨⟨y0,y1,y2⟩,⟨x0,x1,x2⟩,_⟩:=HA.o w5 H5.o;clear BX R4 M4 B4 sH;generalize mZ:Zl=tB;go_wp2_with fail
 apply(mZ▸C6.o _ (HA.o w5 H5.o).2.2.2.2.2 iB iC _ cp (HA.o w5 H5.o).2.2.2.2.1).mono;rintro e w6 ⟨rfl,Gp⟩;have H6:=AC<|H5.o.trans<|Gp.mono H5.o.size;obtain⟨⟨y0,y1,y2⟩,⟨x0,x1,x2⟩,_⟩:=HA.o w6 H6.o;clear Gp;go_wp2
 go_ret
 exact⟨rfl,(HA.o w6 H6.o).2.2.2.2.2⟩
end
end Go.W
