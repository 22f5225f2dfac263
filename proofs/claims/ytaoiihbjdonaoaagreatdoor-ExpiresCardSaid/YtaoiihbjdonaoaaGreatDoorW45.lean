import Derived.Test.YtaoiihbjdonaoaaGreatDoorW42
import Derived.Test.YtaoiihbjdonaoaaGreatDoorW44
set_option linter.defProp false
set_option maxRecDepth 100000
set_option maxHeartbeats 8000000
set_option linter.unusedSimpArgs false
open Go.Proofs Go.RowKit Go.W Tryz
namespace Go.P
variable {a:Nat->Addr}{w u:World}{B cq:Nat}{Aa:Int}{key:ByteArray}{pq:Option Addr}{xs:List Bk}{v1 v2:Value}{ts:List ByteArray}
def Oq.below (h:Oq a w)(hb:Bl w u):Oq a u:=h.of (F:=[]) (Off.of hb) fun _ h=>by cases h
def Eu (key:ByteArray):List ByteArray->List ByteArray
 | []=>[]
 | t::ts=>(Bt key [t]::Ju (Bt key [t]) ts).map fun t=>⟨(Ez [⟨t.toArray⟩]).toArray⟩
def gG (key t:ByteArray)(ts:List ByteArray):Eu key (t::ts)=(Bt key [t]::Ju (Bt key [t]) ts).map fun t=>⟨(Ez [⟨t.toArray⟩]).toArray⟩:=rfl
noncomputable def IQ (rv ids:List ByteArray) (Aa:Int) (xs:List Bk) (ps:List Dk):Int:=if Kz rv ids=true then 3 else Ux Aa xs ps
def EZ.at {B' d b o:Nat}{w':World}{vs:List Value}{x:Bk}(h:EZ B w d vs x)(c:EG B B' w w')(hb:b<B')(hv: ∀ j,j<3->w'.cell? (zm b (o+j))=vs[j]?):Iz B' w' (d+1) b o x:=by
 obtain⟨p,k,p1,k1,p2,k2,rfl,h2,h3,h4,h5,h6,h7⟩:=EZ.carry h c;exact⟨hb,⟨_,hv 0 zx,_,_,rfl,h2,h3⟩,⟨_,hv 1 zx,_,_,rfl,h4,h5⟩,_,hv 2 zx,_,_,rfl,h6,h7⟩
def Zwz {v:Int}{text:ByteArray}{pl:Value}{nq:Nat}{rv:Bool}{J:Value->Value->World->Prop}(Z:AZ a w)
  (CB: ∀ u,Bl w u->Calls prog 25 #[.agg #[zn,zn,zn]] u (FT a 0 u))
  (CP: ∀ u,Bl w u->Calls prog 26 #[pl] u (FT a 0 u))
  (CV: ∀ u,Bl w u->Calls prog 27 #[.string key,.string text] u fun e w'=> ∃ v1 v2,e= .returned (.tuple #[v1,v2,.nilIface])/\J v1 v2 w'/\Bl u w')
  (CR: ∀ v1 v2 u,J v1 v2 u->Bl w u->Calls prog 28 #[v2,.slice pq nq cq] u fun e w'=>e= .returned (.bool rv)/\J v1 v2 w'/\Bl u w')
  (CD: ∀ v1 v2 u,J v1 v2 u->Bl w u->Calls prog 29 #[v1,.agg #[zo Aa,zn,.slice pq nq cq],pl] u fun e w'=>e= .returned (zo v)/\Bl u w'):
  Calls prog 16 #[.string key,.string text,.agg #[zo Aa,zn,.slice pq nq cq],pl] w fun e w'=>e= .returned (.tuple #[zo (if rv=true then 3 else v),.nilIface])/\Bl w w':=by
 have HB:=AC CB;have HP:=AC CP;have HV:=AC CV;have HR:=AC CR;have HD:=AC CD;have HZ:=AC Z;clear CB CP CV CR CD Z;go_in
 go_wp2_with fail
 obtain⟨W2,hW2⟩: ∃ W2,AF ((w.alloc<|.cells #[zo Aa,zn,.slice pq nq cq] 56).alloc (.cells #[zn,zn,zn] 33)=W2):=⟨_,⟨rfl⟩⟩;rw[hW2.out];have B2:Bl w W2:=hW2.out▸((AR _ w).alloc lr _).alloc zw _;have NQ:AO W2 w.heap.size #[zo Aa,zn,.slice pq nq cq] 56:=hW2.out▸(AO.new w _ _).alloc _;have HQ:AF (∀ u,Bl W2 u->u.cell? (zm w.heap.size 0)=some (zo Aa)/\u.cell? (zm w.heap.size 1)=some (zn)/\u.cell? (zm w.heap.size 2)=some (.slice pq nq cq)/\Bl w u):=⟨fun u hu=>by
  have q:=(NQ.of<|hu.block _ NQ.lt).three;exact⟨q.1,q.2.1,q.2.2.1,B2.trans<|hu.mono B2.size⟩⟩
 clear hW2 NQ;refine(HB.out _ B2).mono ?_;rintro e w3 ⟨rfl,hb3⟩;have B3:=AC hb3;clear hb3 B2;rw[JR];go_wp2_with fail
 refine(HP.out _ (HQ.out _ B3.out).2.2.2).mono ?_;rintro e w4 ⟨rfl,hb4⟩;have B4:=tr B3 hb4;clear hb4 B3;rw[JR];go_wp2_with fail
 refine(HV.out _ (HQ.out _ B4.out).2.2.2).mono ?_;rintro e w5 ⟨v1,v2,rfl,j5,BX⟩;have B5:=tr B4 BX;have HJ:=AC j5;have z10:=(HZ.out.below (HQ.out _ B5.out).2.2.2).c10;rw[BU _ zu]at z10;have HI:=fun(t:TypeId) (v:Value)=>Yil t v w5;obtain⟨q0,q1,q2,_⟩:=HQ.out _ B5.out;clear BX B4 j5;go_wp2_with fail
 refine(HI _ _).mono ?_;rintro e w6 ⟨rfl,rfl⟩;go_wp2_with fail
 refine(HR.out _ _ _ HJ.out (HQ.out _ B5.out).2.2.2).mono ?_;rintro e w7 ⟨rfl,j7,G6⟩;have B7:=tr B5 G6;have HJ7:=AC j7;obtain⟨r0,r1,r2,_⟩:=HQ.out _ B7.out;clear G6 j7 q0 q1 q2 z10 B5 HJ;cases rv with
 | true=>
  go_wp2
  go_ret2
  exact⟨rfl,(HQ.out _ B7.out).2.2.2⟩
 | false=>
  go_wp2_with fail
  refine(HD.out _ _ _ HJ7.out (HQ.out _ B7.out).2.2.2).mono ?_;rintro e w8 ⟨rfl,GV⟩;have B8:=tr B7 GV;clear GV;go_wp2
  go_ret2
  exact⟨rfl,(HQ.out _ B8.out).2.2.2⟩
def fE (w:World) (xs:List Bk) (ids:List ByteArray) (v1 v2:Value) (u:World):Prop:=(∃ F1 W0,Bl w W0/\Bl W0 u/\AQ 33 3 (Rt W0 3) u v1 xs F1/\ ∀ k,k∈F1->k<u.heap.size)/\ ∃ F2,AQ 9 1 GD u v2 ids F2/\ ∀ k,k∈F2->k<u.heap.size
def fE.below {ids:List ByteArray}{u':World}(h:fE w xs ids v1 v2 u)(hw:Bl u u'):fE w xs ids v1 v2 u':=by
 obtain⟨⟨F1,W0,h1,h2,h3,uU⟩,F2,h4,h5⟩:=h;exact⟨⟨F1,W0,h1,h2.trans<|hw.mono h2.size,AQ.stable (Rt.stable _ _) _ _ _ _ _ h3 fun j hj=>hw.block j (uU j hj),fun k hk=>BK (uU k hk) hw.size⟩,F2,AQ.stable GD.stable _ _ _ _ _ h4 fun j hj=>hw.block j (h5 j hj),fun k hk=>BK (h5 k hk) hw.size⟩
def AQ.OG {e:TypeId}{v:Value}{F:List Nat}(h:AQ e 1 GD w v ts F)(hF: ∀ k,k∈F->k<w.heap.size)(hz: ∀ t,t∈ts->t.size<1000000000): ∃ p c,v= .slice p ts.length c/\IV w p ts/\ts.length<1000000000:=by
 obtain⟨p,c,rfl,_,hr⟩:=AQ.rowOf (Q':=fun b o x=>b<w.heap.size/\w.cell? (zm b o)=some (.string x)) h hF fun b o vs x G hc hb _ q=>⟨hb,by have:=hc 0 zx;rw[q.2]at this;exact this⟩;refine⟨p,c,rfl,fun i t hi=>?_,hr.len⟩;obtain⟨b,o,e,h1,h2⟩:=hr.at_ i t hi;rw[Nat.mul_one]at h2;exact⟨hz t<|Ej hi,b,o,e,h1,h2⟩
def fE.ids (h:fE w xs (Eu key ts) v1 v2 u): ∃ p c,v2= .slice p (Eu key ts).length c/\IV u p (Eu key ts)/\(Eu key ts).length<1000000000:=by
 obtain⟨_,F2,h4,h5⟩:=h;refine AQ.OG h4 h5 fun t ht=>?_;cases ts with
 | nil=>cases ht
 | cons t0 ts=>
  obtain⟨s,_,rfl⟩:=List.mem_map.1 ht;show(Ez [⟨s.toArray⟩]).toArray.size<_;rw[GN,KZ];omega
def Z18 (V:D9)(CL:Gg)(hG:Oq a w)(hB:B<=w.heap.size){l:By}{S:Bool}{y0:ByteArray×Bk}{ys:List (ByteArray×Bk)}(hk:O9 key=true)(hl:l.length<1000000000)(hch:GZ Hu l= .ok ⟨S,y0::ys,Yz S<|JF (Bt key [y0.1])<|ys.map (·.1)⟩)(hn:ys.length<8)(Aq: ∀ x,x∈(y0::ys).map (·.2)->IU x=0)(hc:Gq Aa){pp:Option Addr}{cp:Nat}{rv:List ByteArray}(hq:IV w pq rv)(Ea:rv.length<1000000000){ps:List Dk}(hp:Ap 2 (Jh B w 4) pp ps)(XZ:gD ps=0):
  Calls prog 16 #[.string key,.string<|ba l,.agg #[zo Aa,zn,.slice pq rv.length cq],.slice pp ps.length cp] w fun e w'=>e= .returned (.tuple #[.int .i64<|IQ rv (Eu key<|(y0::ys).map (·.1)) Aa ((y0::ys).map (·.2)) ps,.nilIface])/\Bl w w':=by
 have Z:=hG.sent;have hid:=gG key y0.1<|ys.map (·.1);rw[List.map_cons (f:=fun y:ByteArray×Bk=>y.1)];have HT: ∀ v1 v2 u,fE w ((y0::ys).map (·.2)) (Eu key<|y0.1::ys.map (·.1)) v1 v2 u-> ∃ p c,v2= .slice p (Eu key<|y0.1::ys.map (·.1)).length c/\IV u p (Eu key<|y0.1::ys.map (·.1))/\(Eu key<|y0.1::ys.map (·.1)).length<1000000000:=fun v1 v2 u h=>h.ids;generalize Eu key (y0.1::ys.map (·.1))=ids at*;refine Zwz (rv:=Kz rv ids) (J:=fun v1 v2 u=>fE w ((y0::ys).map (·.2)) ids v1 v2 u) Z ?_ ?_ ?_ ?_ ?_
 ·intro u hu;exact Zhn V (B:=u.heap.size) (D:=3) (x:=⟨[],[],[]⟩) (Z.below hu) lr ⟨_,_,_,_,_,_,rfl,EO _,ak,EO _,ak,EO _,ak⟩
 ·intro u hu;exact Yda V (B:=B) (D:=3) (Z.below hu) (Ab hB hu.size) (hp.carry fun _ _ _ q=>q.carry (Bq hu hB) lr) XZ
 ·intro u hu;refine(Zr3 V CL (Z.below hu) hk hl hch rfl rfl hn rfl).mono ?_;rintro e w' ⟨v1,v2,F1,F2,W0,rfl,h1,h2,h3,h4,h5,h6⟩;rw[<- hid]at h4;exact⟨v1,v2,rfl,⟨⟨F1,W0,hu.trans<|h1.mono hu.size,h2,h3,h5.lt⟩,F2,h4,h6.lt⟩,h1.trans<|h2.mono h1.size⟩
 ·intro v1 v2 u h hu;obtain⟨p,c,rfl,h1,h2⟩:=HT v1 v2 u h;refine(Zvp (hq.below hu) Ea h1 h2).mono ?_;rintro e w' ⟨rfl,hw⟩;exact⟨rfl,h.below hw,hw⟩
 ·intro v1 v2 u h hu;obtain⟨⟨F1,W0,h1,h2,h3,uU⟩,_⟩:=h;obtain⟨p,c,rfl,hc',hr⟩:=AQ.rowOf (Q':=Iz u.heap.size u 4) h3 uU fun b o vs x G Ox hb _ q=>EZ.at q.2 (Go.W.Below.carry h2 h2.size) hb Ox;obtain⟨b,o,rfl,_⟩:=hr.at_ 0 y0.2 rfl;exact Zz9 (B:=u.heap.size) (D:=1) (hG.of (F:=[]) (Off.of hu) fun _ h=>(by cases h)) lr hc hr (by simpa using hc') (fun x hx=>kY.of (Aq x hx)) (by rw[Dj];omega) (hp.carry fun _ _ _ q=>q.carry (Go.W.Below.carry (hu.mono hB)<|Ab hB hu.size) lr)<|xA.of XZ
end Go.P
namespace Go.W
variable {x:Bk}{vs:List T}
def vQ (h:Ic x=0):IU x=0/\(LM x).size<=4000/\A7 x=LM x:=by
 have e:A7 x=LM x:=if_pos h;unfold Ic at h;split at h
 ·rename_i h';exact absurd h h'
 ·rename_i h';split at h
  ·cases h
  ·exact⟨Decidable.not_not.mp h',zx,e⟩
def Z9j (h:Ic x=0)(hi:QA x):U8 Sv (fun y:ByteArray×Bk=>Em y.1) (A7 x,x):=fun r=>by
 obtain⟨h1,h2,h3⟩:=vQ h;rw[h3];unfold Sv Em;dsimp only;rw[J2,JB,De.then_ok<|qp zx _,if_neg zx,<- gH,De.then_ok<|vI _ r,Z2y<|Z45 h1 hi h2,WY]
def Z75 {α:Type}(f:ByteArray->ByteArray): ∀ l:List (ByteArray×α),cat f (l.map (·.1))=cat (fun y=>f y.1) l
 | []=>rfl
 | x::l=>by rw[List.map_cons,cat,cat,Z75 f l]
def vS {S:Bool}{xs:List Bk}{tag:By}(hne:xs≠[])(hn:xs.length<=8)(ht:tag.length=32)(hx: ∀ x,x∈xs->Ic x=0/\QA x):GZ Hu (bl<|KT S (xs.map A7) tag)= .ok ⟨S,xs.map fun x=>(A7 x,x),tag⟩:=by
 have hl:xs.map A7=(xs.map fun x=>(A7 x,x)).map (·.1):=by rw[List.map_map];rfl
 have hm:=Za (f:=Sv) (p:=fun y:ByteArray×Bk=>Em y.1) (m:=8) (xs:=xs.map fun x=>(A7 x,x)) (fun y hy=>by
  obtain⟨x,UH,rfl⟩:=List.mem_map.mp hy;exact Z9j (hx x UH).1 (hx x UH).2) (by simpa using hn) zx tag
 have e:bl (KT S (xs.map A7) tag)=Nr++(bl (b1 (if S then 1 else 0))++(bl (BO (fun y:ByteArray×Bk=>Em y.1) (xs.map fun x=>(A7 x,x)))++tag)):=by
  rw[hl];unfold KT BO;rw[Z75,Dj,J2,J2,J2,kP,kP];simp only[JB]
 have hs1:(if S then 1 else 0)<=1:=by cases S <;> decide
 have hnz: ¬ (xs.map fun x=>(A7 x,x)).length=0:=by simpa using hne
 have mZ:=vI tag [];rw[List.append_nil,ht]at mZ;rw[e,GZ]
 have:Hu (Nr++(bl (b1 (if S then 1 else 0))++(bl (BO (fun y:ByteArray×Bk=>Em y.1) (xs.map fun x=>(A7 x,x)))++tag)))= .ok (⟨S,xs.map fun x=>(A7 x,x),tag⟩,[]):=by
  unfold Hu;have h4:=vI Nr<|bl (b1 (if S then 1 else 0))++(bl (BO (fun y:ByteArray×Bk=>Em y.1) (xs.map fun x=>(A7 x,x)))++tag);rw[show Nr.length=4 from rfl]at h4;rw[De.then_ok h4,if_neg zw,De.then_ok<|Wq zx _];unfold fP;rw[if_neg zx,De.then_ok hm];unfold jU;rw[if_neg hnz,De.map_ok mZ];cases S <;> rfl
 rw[this];rfl
def rD:ByteArray:=⟨#[116,105,109,101]⟩
def ay:ByteArray:=⟨#[114,105,103,104,116]⟩
def Zm:ByteArray:=⟨#[109,97,121]⟩
def vX:T:= .mk 1 0 ⟨#[120]⟩ []
def vT:T:= .mk 1 0 ⟨#[116]⟩ []
def sA:T:= .mk 3 0 ⟨#[97]⟩ []
def dN (n:Int):T:= .mk 5 n ⟨#[]⟩ []
def Ykh:R:=⟨⟨Zm,[vX]⟩,[⟨ay,[vX]⟩],[]⟩
def jR:R:=⟨⟨⟨#[]⟩,[]⟩,[⟨Zm,[sA]⟩,⟨rD,[vT]⟩],[⟨3,vT,dN 5⟩]⟩
def rR:R:=⟨⟨⟨#[]⟩,[]⟩,[⟨Zm,[sA]⟩],[]⟩
def FQ:Bk:=⟨[⟨ay,[sA]⟩],[Ykh],[]⟩
def IK:Bk:=⟨[],[],[[jR]]⟩
def Vk:ByteArray:=⟨#[107,101,121]⟩
def YF:Dk:=⟨true,[rR]⟩
def qG:Ic FQ=0:=zt
def Z0c:Ic IK=0:=zt
def Fn.sub {bs:List BD}{P:Fc->Prop}{L:List Fc}(h0: ∀ x,P x->x∈L)(h1: ∀ x,Uj bs vs (·∈L) x->x∈L): ∀ (k:Nat) (x:Fc),Fn bs vs P k x->x∈L
 | 0,x,h=>h0 x h
 | k+1,x,.inl h=>Fn.sub h0 h1 k x h
 | k+1,x,.inr ⟨b,hb,σ,⟨q1,q2⟩,q3⟩=>h1 x ⟨b,hb,σ,⟨fun y hy=>Fn.sub h0 h1 k _ (q1 y hy),q2⟩,q3⟩
def Qy:Sd:=Ec 4 FQ
def uX:BD:=⟨(Zm,[(⟨#[120]⟩,0)]),[(ay,[(⟨#[120]⟩,0)])],[],[(⟨#[120]⟩,0,0)]⟩
def Z3s:JL 4 [FQ,IK]=[Qy,Qy]:=zt
def Z31:Va Qy.1=([(rD,[0]),(ay,[1])],[dN 4,sA]):=zt
def uw:Vb Qy.1 Qy.2=([dN 4,sA],[uX]):=zt
def Zvl {P:Fc->Prop}{x:Fc}:Uj [uX] vs P x↔ ∃ n,P (ay,[n])/\x=(Zm,[n]):=by
 constructor
 ·rintro⟨b,hb,σ,⟨q1,_⟩,rfl⟩;rw[Bh.1 hb]at q1⊢;exact⟨σ ⟨#[120]⟩,q1 (ay,[(⟨#[120]⟩,0)]) (by simp[uX]),rfl⟩
 ·rintro⟨n,q,rfl⟩;exact⟨uX,zw,fun _=>n,⟨fun y hy=>by rw[Bh.1 hy];exact q,fun g hg=>by cases hg⟩,rfl⟩
def Zvd (x:Fc):Uc Qy.1 Qy.2 x↔x∈[(rD,[0]),(ay,[1]),(Zm,[1])]:=by
 unfold Uc;rw[uw,Z31];dsimp only;constructor
 ·refine Fn.sub (fun x h=>?_) (fun x h=>?_) 12 x
  ·simp only[Ak,Lj,or_false]at h⊢;exact h.imp id .inl
  ·obtain⟨n,q,rfl⟩:=Zvl.1 h;simp only[Ak,Lj,or_false,Prod.mk.injEq]at q⊢;rcases q with⟨q,_⟩ | ⟨_,q⟩ | ⟨q,_⟩
   ·exact absurd q zu
   ·exact .inr<|.inr ⟨trivial,q⟩
   ·exact absurd q zu
 ·intro h;simp only[Ak,Lj,or_false]at h;rcases h with rfl | rfl | rfl
  ·exact Fn.mono (Eg _) (show _∈_ by simp)
  ·exact Fn.mono (Eg _) (show _∈_ by simp)
  ·exact Fn.mono (i:=1) zx<|.inr<|Zvl.2 ⟨1,by show _∈_;simp,rfl⟩
def Ydg:kR Qy.1 Qy.2:=by
 have hf:=Zvd;unfold Uc at hf;unfold kR;rw[uw,Z31]at*;refine⟨⟨_,by show [(rD,[0]),(ay,[1]),(Zm,[1])].length<=60;decide,fun x h=>(hf x).1 h⟩,fun x h=>(hf x).2 ?_⟩;obtain⟨n,q,rfl⟩:=Zvl.1 h;have q:=(hf _).1 q;simp only[Ak,Lj,or_false,Prod.mk.injEq]at q⊢;rcases q with⟨q,_⟩ | ⟨_,q⟩ | ⟨q,_⟩
 ·exact absurd q zu
 ·exact .inr<|.inr ⟨trivial,q⟩
 ·exact absurd q zu
def Z8d:(okW Qy IK.checks).1=true:=by
 have h:jW (Uc Qy.1 Qy.2) [dN 4,sA] jR:=⟨fun _=>0,fun y hy=>by
  have e:(Qh [dN 4,sA] jR).at_=[(Zm,[(⟨#[]⟩,1)]),(rD,[(⟨#[116]⟩,0)])]:=zt
  rw[e]at hy;rw[Zvd];simp only[Ak,Lj,or_false]at hy;rcases hy with rfl | rfl
  ·exact .tail _<|.tail _<|.head _
  ·exact .head _,fun g hg=>by
  have e:(Qh [dN 4,sA] jR).gs=[(3,(⟨#[116]⟩,0),(⟨#[]⟩,2))]:=zt
  rw[e]at hg;have e2:(Jg [dN 4,sA] jR).1=[dN 4,sA,dN 5]:=zt
  rw[Bh.1 hg,e2]
  rfl⟩
 unfold okW;rw[uw];show(Su _ _ [[jR]]).1=true;rw[Su,Je,if_pos h];rfl
def Ygh:pR Qy FQ.checks [YF]=true:=by
 have h:jW (Uc Qy.1 Qy.2) [dN 4,sA] rR:=⟨fun _=>0,fun y hy=>by
  have e:(Qh [dN 4,sA] rR).at_=[(Zm,[(⟨#[]⟩,1)])]:=zt
  rw[e]at hy;rw[Bh.1 hy,Zvd];exact .tail _<|.tail _<|.head _,fun g hg=>by
  have e:(Qh [dN 4,sA] rR).gs=[]:=zt
  rw[e]at hg;cases hg⟩
 unfold pR okW;rw[uw];show(ZL _ (Su _ _ []).2 [YF]).1=true;rw[Su,ZL];show(if(Je _ [dN 4,sA] [rR]).1=true then _ else _:Bool×List T).1=true;rw[Je,if_pos h];rfl
def Yfq:Ux 4 [FQ,IK] [YF]=6:=by
 refine wG.2 ⟨fun y hy=>?_,fun z hz=>?_,FQ,[IK],rfl,Ygh⟩
 ·rw[Z3s]at hy;simp only[Ak,Lj,or_false,or_self]at hy;rw[hy];exact Ydg
 ·rw[Z3s]at hz;simp only[List.zip_cons_cons,List.zip_nil_right,Ak,Lj,or_false]at hz;rcases hz with rfl | rfl
  ·rfl
  ·exact Z8d
end Go.W
namespace Go.P
def gX:ByteArray:=KT false [A7 FQ]<|Bt Vk [A7 FQ]
def Zl:ByteArray:=KT false [A7 FQ,A7 IK]<|O8 (Bt Vk [A7 FQ]) [IK]
def Ybn (V:D9)(CL:Gg){a:Nat->Addr}{w:World}(Z:Oq a w){B:Nat}(hB:B<=w.heap.size)(iB:QA FQ)(iC:QA IK){pp:Option Addr}{cp:Nat}(hp:Ap 2 (Jh B w 4) pp [YF]):
  Calls prog 16 #[.string Vk,.string Zl,.agg #[zo 4,zn,zn],.slice pp 1 cp] w fun e w'=>e= .returned (.tuple #[zo 6,.nilIface])/\Bl w w':=by
 have hch:GZ Hu (bl Zl)= .ok ⟨false,[(A7 FQ,FQ),(A7 IK,IK)],O8 (Bt Vk [A7 FQ]) [IK]⟩:=vS (xs:=[FQ,IK]) zw zw (qy (KZ _) _) fun x hx=>by
  rcases List.mem_cons.mp hx with rfl | hx
  ·exact⟨qG,iB⟩
  ·obtain rfl:=List.mem_singleton.mp hx;exact⟨Z0c,iC⟩
 have hsz:(bl Zl).length<1000000000:=by
  rw[gH];exact jw false zw (fun t ht=>by
   rcases List.mem_cons.mp ht with rfl | ht
   ·exact bL _
   ·obtain rfl:=List.mem_singleton.mp ht;exact bL _)<|qy (KZ _) _
 have h:=Z18 V CL (pq:=none) (rv:=[]) (cq:=0) (cp:=cp) (S:=false) (key:=Vk) (l:=bl Zl) (y0:=(A7 FQ,FQ)) (ys:=[(A7 IK,IK)]) (Aa:=4) Z hB zu hsz hch zw (fun x hx=>by
  simp only[List.map_cons,List.map_nil,Ak,Lj,or_false]at hx;rcases hx with rfl | rfl
  ·exact(vQ qG).1
  ·exact(vQ Z0c).1) ⟨zu,zu⟩ (fun i t h=>by simp at h) zw hp zt
 rw[WY]at h;have e: ∀ ids,IQ [] ids 4 ([(A7 FQ,FQ),(A7 IK,IK)].map (·.2)) [YF]=6:=fun ids=>by
  have:Kz [] ids=false:=by
   cases h:Kz [] ids with
   | false=>rfl
   | true=>obtain⟨t,_,q⟩:=jf.1 h;cases q
  unfold IQ;rw[this];exact Yfq
 rw[e]at h;exact h
end Go.P
namespace Go.P
variable {a:Nat->Addr}{B:Nat}{w:World}
def Yab (V:D9){D:Nat}{vs:List Value}(Z:AZ a w)(E:IL a w)(hB:B<=w.heap.size)(hS:EZ B w D vs FQ):Calls prog 13 #[.string Vk,.agg vs.toArray] w fun e w'=>e= .returned (.tuple #[.string gX,zo 0])/\Bl w w':=by
 have e1:Ji Vk FQ=gX:=if_pos ⟨zu,qG⟩;have e2:LQ Vk FQ=0:=(if_pos zu).trans qG;have C:=Zyj V (key:=Vk) Z E zu hB hS;rw[e1,e2]at C;exact C
def Yc7 (V:D9)(CL:Gg)(Z:AZ a w)(E:IL a w)(hB:B<=w.heap.size)(iB:QA FQ){p:Option Addr}{c:Nat}(hr:Ap 3 (Iz B w 4) p [IK]):Calls prog 7 #[.string gX,.slice p 1 c] w fun e w'=>e= .returned (.tuple #[.string Zl,zo 0])/\Bl w w':=by
 have hch:GZ Hu (bl gX)= .ok ⟨false,[(A7 FQ,FQ)],Bt Vk [A7 FQ]⟩:=vS (xs:=[FQ]) zw zw (KZ _) fun x hx=>by
  obtain rfl:=List.mem_singleton.mp hx;exact⟨qG,iB⟩
 have hsz:(bl gX).length<1000000000:=by
  rw[gH];exact jw false zw (fun t ht=>by
   obtain rfl:=List.mem_singleton.mp ht;exact bL _)<|KZ _
 have hat:Iq (bl gX) [IK]= .ok Zl:=by
  have h0:Jw 1 [IK]=0:=by simp[Jw,Qe,Z0c]
  unfold Iq SG;rw[hch];exact if_pos h0
 have C:=Zv1 V CL (D:=3) (xs:=[IK]) (c:=c) Z E hsz hB hr;rw[hat,WY]at C;exact C
def Yaa (V:D9)(CL:Gg)(Z:Oq a w)(hB:B<=w.heap.size)(iB:QA FQ)(iC:QA IK){pp:Option Addr}{cp:Nat}(hp:Ap 2 (Jh B w 4) pp [YF]):
  Calls prog 8 #[.string Vk,.string Zl,.agg #[zo 4,zn,zn],.slice pp 1 cp] w fun e w'=>e= .returned (.tuple #[zo 6,zo 0])/\Bl w w':=by
 have C:=AC fun u (hu:Bl w u)=>Ybn V CL (cp:=cp) (Z.below hu) (Ab hB hu.size) iB iC (hp.carry fun _ _ _ q=>q.carry (Bq hu hB) lr);have N:=AC kD;clear hp Z;generalize Zl=t at*;generalize Vk=k at*;go_in
 go_wp2_with fail
 refine(C.out _<|(AR _ w).alloc lr _).mono ?_;rintro e w1 ⟨rfl,hb⟩;have B1:=AC<|((AR w.heap.size w).alloc lr _).trans<|hb.mono zw;clear hb;go_wp2_with fail
 refine(N.out _).mono ?_;rintro e w2 ⟨rfl,rfl⟩;go_wp2
 go_ret2
 exact⟨rfl,B1.out⟩
def Yke (w:World) (Y:Prop) (G:List Dk->Prop) (v:Value) (m:Int) (u:World):Prop:=(Y/\m≠0/\v= zn)\/(m=0/\ ∃ l F,G l/\AQ 148 2 (DY AV 4) u v l F/\Ag w.heap.size u F)
def Zyl (t:ByteArray)(ht:t.size<1000000000)(Z:AZ a w)(E:IL a w):Calls prog 12 #[.string t] w fun e w'=> ∃ v m p,e= .returned (.tuple #[v,zo m,zo p])/\Yke w (∃ er,Gu t (Vh t)= .error er) (fun l=>Gu t (Vh t)= .ok l) v m w'/\Bl w w':=by
 have C:=AC<|Zno t ht Z;have HY:=AC<|Yc8 t;have HZ:=AC Z;have HE:=AC E;have N:=AC kD;clear Z E;generalize Gu t (Vh t)=Y at*;go_in
 go_wp2_with fail
 refine C.out.mono ?_;rintro e w1 ⟨hb,(⟨n,p,L,rfl,hn,hL,rfl,hF⟩ | ⟨v,y,rfl,rfl,F,hO,hN⟩)⟩
 ·obtain⟨k,rfl,hk⟩:=Ygo<|HY.out _ rfl;have B1:=AC hb;have M:=AC<|Zoi (HZ.out.below hb) (HE.out.below hb) L 0 k p hk hF.two.1 (by have:=hF.two.2.1;rwa [wu]at this);clear hF hb;go_wp2_with fail
  refine mq M.out ?_;rintro w2 hb;have B2:=tr B1 hb;clear hb;go_wp2
  refine Bg (by simp[results,results12,go_sem];try rfl) rfl ?_;exact⟨_,_,_,rfl,.inl ⟨⟨_,rfl⟩,zx,rfl⟩,B2.out⟩
 ·obtain⟨q,c,rfl⟩:=hO.form;have B1:=AC hb;have J1:=AC<|AJ hO hN;clear hO hN hb;go_wp2_with fail
  refine(N.out _).mono ?_;rintro e w2 ⟨rfl,rfl⟩;go_wp2
  refine Bg (by simp[results,results12,go_sem];try rfl) rfl ?_;exact⟨_,_,_,rfl,.inr ⟨rfl,_,F,rfl,J1.out.1,J1.out.2⟩,B1.out⟩
end Go.P
namespace Go.W
def Zi1 (t:ByteArray): ∀ (n:Nat) {l:List Dk},(l.length<=24/\ ∀ x∈l,J4 x.either=0)->Ub (Un t n l) fun l=>l.length<=24/\ ∀ x∈l,J4 x.either=0
 | 0,l,_,x,p,y,x',p',_,h=>by cases h
 | n+1,l,hl,x,p,y,x',p',hT,h=>by
  rw[Un]at h;split at h
  ·cases h;exact⟨hl,hT⟩
  ·split at h
   ·obtain⟨u,x1,p1,h1,h2⟩:=I7 h;obtain⟨e,x2,p2,h3,h4⟩:=I7 h2;obtain⟨he,Pv⟩:=Zuy t _ _ _ _ _ (X8 h1).1 h3;split at h4
    ·cases h4
    ·obtain⟨v,x3,p3,h5,h6⟩:=I7 h4;exact Zi1 t n ⟨by have:=hl.1;simp;omega,qO hl.2 he⟩ _ _ _ _ _ (wI h5) h6
   ·cases h
def Z56 {t:ByteArray}{l:List Dk}(h:Gu t (Vh t)= .ok l):gD l=0:=by
 obtain⟨h1,h2⟩:=Ya7 (Zi1 t 25 ⟨zw,zw⟩) h;exact jg h1 h2
end Go.W
namespace Go.P
section
variable {L n:Nat} {u:World} {A:Int} {s:ByteArray} {a:Nat->Addr}
def Z4p {ty:U2}{d:Nat}{w:World}{vs:List Value}{x:Bk}{F:List Nat}(h:Dx ty d w vs x F): ∀ u,u∈vs->u.oneCell'=true:=by
 obtain⟨p,c,p1,c1,p2,c2,rfl⟩:=Dx.vals h;intro u hu;simp at hu;rcases hu with rfl | rfl | rfl <;> rfl
def Z6l (h:Kp L u n)(hn:n<65536)(RG:s.size<=65536)(Z:AZ a u)(E:IL a u):Calls prog 10 #[zq L 0,.agg #[zo 1,zo A,.string s]] u (X0 L n u):=by
 obtain⟨vb,vp,vk,vc,vy,vr,vd,bs,ys,rs,ds,ps,Fb,Fy,Fr,Fd,Fp,H,⟨pp,mp,cp,rfl⟩,⟨tk,rfl⟩,⟨ik,rfl⟩,hl⟩:=h;obtain⟨pr,cr,rfl⟩:=H.rb.form;have HK:=AC H;have HL:=AC hl;have hL:=H.blk.lt;have C:=AC fun v (hv:Bl u v)=>Zua s zx (Z.below hv) (E.below hv);clear H hl Z E;go_in
 go_wp2_with fail
 have B0:=(AR u.heap.size u).alloc lr<|.cells #[zo 1,zo A,.string s] 60;have hz0:u.heap.size<(u.alloc<|.cells #[zo 1,zo A,.string s] 60).heap.size:=zw
 refine(C.out _ B0).mono ?_;generalize u.alloc (.cells #[zo 1,zo A,.string s] 60)=U at*;rintro e w1 ⟨⟨⟨p,c0,c⟩,⟨p1,c1,c2⟩,p2,c3,c4⟩,m,q,rfl,hk,hb⟩;have B1:=AC<|B0.trans<|hb.mono B0.size;have hsz:=hb.size;simp only[XT];rcases hk with⟨_,hm,_⟩ | ⟨rfl,x,F,hx,hO,hN⟩
 ·have Yb:(m==0)=false:=by simpa using hm
  clear hb;go_wp2_with fail
  refine⟨rfl,_,(by simp[results,results10,go_sem];try rfl),?_⟩;obtain⟨l1,l2,l3,l4,l5,l6⟩:=HL.out;exact Kp.mk ((HK.out.later B1.out).up _) ((B1.out.alloc B1.out.size _).mono zx) ⟨_,_,_,rfl⟩ ⟨_,rfl⟩ ⟨_,rfl⟩ zx zx zx zx l5 l6
 ·have HX:=AC<|AJ hx<|AJ hO hN;clear hx hO hN hb;go_wp2_with fail
  obtain⟨U1,hU⟩: ∃ U1,AF (w1.alloc (.cells #[.slice p c0 c,.slice p1 c1 c2,.slice p2 c3 c4] 33)=U1):=⟨_,⟨rfl⟩⟩;have HN:=AC<|AO.new w1 #[.slice p c0 c,.slice p1 c1 c2,.slice p2 c3 c4] 33;have Oz:AF (Bl w1 U1):=⟨hU.out▸(AR _ w1).alloc lr _⟩;have YR:AF (U1.heap.size=w1.heap.size+1):=⟨by rw[<- hU.out];simp⟩;rw[hU.out]at HN⊢;have KU:=AC<|(HK.out.later B1.out).later Oz.out;have AY:U1.drew.cell? (zm L 0)=some (.slice pr bs.length cr)/\U1.drew.cell? (zm w1.heap.size 0)=some (.slice p c0 c)/\U1.drew.cell? (zm w1.heap.size 1)=some (.slice p1 c1 c2)/\U1.drew.cell? (zm w1.heap.size 2)=some (.slice p2 c3 c4):=⟨KU.out.blk.cell 0,HN.out.three.1,HN.out.three.2.1,HN.out.three.2.2.1⟩;refine Vj 10 (fun v=>v.cell? (zm L 0)=some (.slice pr bs.length cr)/\v.cell? (zm w1.heap.size 0)=some (.slice p c0 c)/\v.cell? (zm w1.heap.size 1)=some (.slice p1 c1 c2)/\v.cell? (zm w1.heap.size 2)=some (.slice p2 c3 c4)) zt ?_;refine tz 0 (zq L 0) AY ?_;try simp only[zz]
  refine tz 1 (zq L 0) AY ?_;try simp only[zz]
  refine tz 2 (zq L 0) AY ?_;try simp only[zz]
  refine tz 3 (zq L 0) AY ?_;try simp only[zz]
  refine tz 4 (.slice pr bs.length cr) AY (hy:=fun _ ⟨s0,s1,s2,s3⟩=>by go_simp) ?_;try simp only[zz]
  refine tz 5 (.agg #[.slice p c0 c,.slice p1 c1 c2,.slice p2 c3 c4]) AY (hy:=fun _ ⟨s0,s1,s2,s3⟩=>by go_simp) ?_;try simp only[zz]
  refine rz 6 (h:=fun K' hK'=>?_);go_simp;obtain⟨W,hW⟩: ∃ W,AF (U1.alloc (.cells #[.slice p c0 c,.slice p1 c1 c2,.slice p2 c3 c4] 33)=W):=⟨_,⟨rfl⟩⟩;rw[hW.out];have OZ:Bl U1 W:=hW.out▸(AR _ U1).alloc lr _;have VG:AF (W.heap.size=U1.heap.size+1):=⟨by rw[<- hW.out];simp⟩;have NW:W.heap[U1.heap.size]?=some (.cells #[.slice p c0 c,.slice p1 c1 c2,.slice p2 c3 c4] 33):=hW.out▸Hw _ _;have KW:=AC<|KU.out.later OZ;have HW:=AC<|HN.out.of<|OZ.block _ HN.out.lt;have hb1:Bl w1 W:=Oz.out.trans<|OZ.mono Oz.out.size;have hGl: ∀ k,k∈F->u.heap.size<k:=fun k hk=>by have:=HX.out.2.2.ge k hk;omega
  refine hK'.out _ _ ⟨KW.out.blk.cell 0,HW.out.three.1,HW.out.three.2.1,HW.out.three.2.2.1⟩ ?_;try simp only[zz]
  refine rz 7 (h:=fun K' hK'=>?_);refine X3 Zu7 rfl (.tmp 27) (.tmp 29) rfl (Dx.stable (ty:=AV) 4) (fun _ _ _ _ h=>Z4p h) (L+1) (.slice pr bs.length cr) bs Fb rfl (KW.out.rb:AQ _ _ _ W.drew _ _ _) U1.heap.size #[.slice p c0 c,.slice p1 c1 c2,.slice p2 c3 c4] 33 (0,0) x F rfl NW rfl (Dx.stable (ty:=AV) 4 _ _ _ _ _ HX.out.2.1 fun k hk=>hb1.block k (HX.out.2.2.lt k hk)) (by have:=HL.out;omega) (by show L+1<=W.heap.size;have:=YR.out;have:=VG.out;omega) (KW.out.nb.later lr lr) (HX.out.2.2.later zx hb1.size) (fun k hk WF=>by have:=HK.out.nb.lt k hk;have:=hGl k WF;omega) ?_;intro g cap w9 F' AM;have hsm:=fun k (h:k<W.heap.size) hf=>AM.same k h hf;have KL:=AC<|KW.out.blk.of (w':=w9) (hsm L KW.out.blk.lt fun hf=>by have:=KW.out.nb.ge L hf;omega);have HY:=AC<|HW.out.of (w':=w9) (hsm _ HW.out.lt fun hf=>by have:=HK.out.nb.lt _ hf;omega);have hS1:w9.cell? (zm L 0)=some (.slice pr bs.length cr)/\w9.cell? (zm w1.heap.size 0)=some (.slice p c0 c)/\w9.cell? (zm w1.heap.size 1)=some (.slice p1 c1 c2)/\w9.cell? (zm w1.heap.size 2)=some (.slice p2 c3 c4):=⟨KL.out.cell 0,HY.out.three.1,HY.out.three.2.1,HY.out.three.2.2.1⟩;have ks:=KL.out.soft;have DJ:=AC<|HK.out.appB (tr B1 hb1).out.drew (fun k hk=>Nat.le_of_lt (hGl k hk)) AM;refine hK'.out _ _ hS1 ?_;try simp only[zz]
  refine rz 8 (h:=fun K' hK'=>?_);go_simp;refine hK'.out _ _ hS1 ?_;try simp only[zz]
  refine rz 9 (h:=fun K' hK'=>?_);go_simp;refine hK'.out _ _ hS1 ?_;try simp only[zz]
  have Sn:=hS1.1;refine Q0 (h:=fun K' hK'=>?_);go_simp;refine hK'.out _ _ ?_;try simp only[zz]
  refine dz (h:=?_);clear AM ks Sn AY hS1;go_wp2_with fail
  refine⟨rfl,_,(by simp[results,results10,go_sem];try rfl),?_⟩;obtain⟨l1,l2,l3,l4,l5,l6⟩:=HL.out;exact Kp.mk DJ.out.1 DJ.out.2 ⟨_,_,_,rfl⟩ ⟨_,rfl⟩ ⟨_,rfl⟩ (by simp;omega) zx zx zx (fun y hy=>by
   rcases Aj.1 hy with hy | hy
   ·exact l5 y hy
   ·obtain rfl:=Bh.1 hy;exact⟨s,HX.out.1⟩) l6
def Yax (h:Kp L u n)(RG:s.size<=65536)(Z:AZ a u)(E:IL a u):Calls prog 10 #[zq L 0,.agg #[zo 2,zo A,.string s]] u (X0 L n u):=by
 obtain⟨vb,vp,vk,vc,vy,vr,vd,bs,ys,rs,ds,ps,Fb,Fy,Fr,Fd,Fp,H,⟨pp,mp,cp,rfl⟩,⟨tk,rfl⟩,⟨ik,rfl⟩,hl⟩:=h;have HK:=AC H;have HL:=AC hl;have hL:=H.blk.lt;have C:=AC fun v (hv:Bl u v)=>Zyl s zx (Z.below hv) (E.below hv);clear H hl Z E;go_in
 go_wp2_with fail
 have B0:=(AR u.heap.size u).alloc lr<|.cells #[zo 2,zo A,.string s] 60;refine(C.out _ B0).mono ?_;generalize u.alloc (.cells #[zo 2,zo A,.string s] 60)=U at*;rintro e w1 ⟨v,m,q,rfl,hk,hb⟩;have B1:=AC<|B0.trans<|hb.mono B0.size;have hsz:=B1.out.size;have K1:=AC<|HK.out.later B1.out;have KC:=K1.out.blk.cell 1;have KS:=K1.out.blk.soft;have hz0:=B0.size;have HKK:=AC hk;have hv: ∃ p' m' c',v= .slice p' m' c':=by
  rcases hk with⟨_,_,rfl⟩ | ⟨_,l,F,_,h3,_⟩
  ·exact⟨_,_,_,rfl⟩
  ·obtain⟨p',c',rfl⟩:=h3.form;exact⟨_,_,_,rfl⟩
 obtain⟨p',m',c',rfl⟩:=hv;clear hk hb B0;by_cases hm:m=0
 ·subst hm;go_wp2_with fail
  refine⟨rfl,_,(by simp[results,results10,go_sem];try rfl),?_⟩;obtain⟨l1,l2,l3,l4,l5,l6⟩:=HL.out;rcases HKK.out with⟨_,q,_⟩ | ⟨_,l,F,hg,h3,h4⟩
  ·exact absurd rfl q
  ·have hx: ∀ k,k∈F->u.heap.size<=k:=fun k hk=>Ab hz0 (h4.ge k hk);exact Kp.mk (K1.out.xy h3 h4 zx fun k hk=>by
    have h:=hx k hk;exact⟨fun q=>by have:=HK.out.nb.lt k q;omega,fun q=>by have:=HK.out.ny.lt k q;omega,fun q=>by have:=HK.out.nr.lt k q;omega,fun q=>by have:=HK.out.nd.lt k q;omega⟩) ((B1.out.mono<|Nat.le_of_lt hL).setCell lr _) ⟨_,_,_,rfl⟩ ⟨_,rfl⟩ ⟨_,rfl⟩ zx zx zx zx l5 ⟨l6.1,l6.2.1,l6.2.2.1,l6.2.2.2.1,l6.2.2.2.2.1,Z56 hg⟩
 ·have Yb:(m==0)=false:=by simpa using hm
  go_wp2_with fail
  refine⟨rfl,_,(by simp[results,results10,go_sem];try rfl),?_⟩;obtain⟨l1,l2,l3,l4,l5,l6⟩:=HL.out;exact Kp.mk K1.out (B1.out.mono zx) ⟨_,_,_,rfl⟩ ⟨_,rfl⟩ ⟨_,rfl⟩ zx zx zx zx l5 l6
def Ydp {k:Int}(h:Kp L u n)(hn:n<65536)(RG:s.size<=65536)(hA:gz A)(Z:AZ a u)(E:IL a u):Calls prog 10 #[zq L 0,.agg #[zo k,zo A,.string s]] u (X0 L n u):=by
 by_cases h1:k=1
 ·subst h1;exact Z6l h hn RG Z E
 by_cases h2:k=2
 ·subst h2;exact Yax h RG Z E
 by_cases h3:k=3
 ·subst h3;exact Ydq h RG
 by_cases h4:k=4
 ·subst h4;exact Z6o h hA
 by_cases h5:k=5
 ·subst h5;exact Z6m h hn RG
 by_cases h6:k=6
 ·subst h6;exact Z1i h hn RG
 by_cases h7:k=7
 ·subst h7;exact Yaw h hn hA
 exact Z6p h h1 h2 h3 h4 h5 h6 h7
end
end Go.P
namespace Go.P
def Yfb (w:World) (n:Nat) (iv:Value) (wr:World):Prop:= ∃ k:Nat,k<=n/\iv= zo (k:Int)/\Kp w.heap.size wr k/\Bl w wr
def Z35 {a:Nat->Addr}{w:World}{p:Option Addr}{c:Nat}{xs:List (Int×Int×ByteArray)}(h:rJ w p xs)(hl:xs.length<140737488355328)(Z:AZ a w)(E:IL a w):Calls prog 4 #[.slice p xs.length c] w fun e w'=>(e= .returned (.tuple #[.pointer none,.bool false])/\w'=w)\/(e= .returned (.tuple #[zq w.heap.size 0,.bool true])/\Kp w.heap.size w' xs.length/\xs.length<=65536/\Bl w w'):=by
 have CS:=AC<|Yaq (c:=c) h hl;have H:=AC h;have HZ:=AC fun u (hu:Bl w u)=>AJ (Z.below hu) (E.below hu);clear h Z E;obtain⟨n,hn⟩: ∃ n,AF (xs.length=n):=⟨_,⟨rfl⟩⟩;rw[hn.out]at hl CS⊢;go_in
 go_wp2_with fail
 refine CS.out.mono ?_;rintro e w1 ⟨b,rfl,rfl,hb⟩;cases b with
 | false=>
  clear hb;go_wp2
  go_ret2
  exact .inl ⟨rfl,rfl⟩
 | true=>
  obtain⟨NM,hs⟩:=hb rfl;have HS:=AC hs;clear hb hs CS;go_wp2_with fail
  have K0:Kp w1.heap.size (w1.alloc<|.cells #[zn,zn,.string ⟨#[107,101,121]⟩,zo 0,zn,zn,zn] 38) 0:=⟨_,_,_,_,_,_,_,[],[],[],[],[],[],[],[],[],[],⟨AO.new _ _ _,AQ.nil,AQ.nil,AQ.nil,AQ.nil,Ag.nil _ _,Ag.nil _ _,Ag.nil _ _,Ag.nil _ _,(fun _ h=>by cases h),(fun _ h=>by cases h),(fun _ h=>by cases h),AQ.nil,Ag.nil _ _,fun _ h=>by cases h⟩,⟨_,_,_,rfl⟩,⟨_,rfl⟩,⟨_,rfl⟩,zw,zw,zw,zw,(fun _ h=>by cases h),(fun _ h=>by cases h),zu,(fun _ h=>by cases h),(fun _ h=>by cases h),⟨0,rfl,zu,zu⟩,rfl⟩;have HK:=AC K0;clear K0;go_loopw [6] (fun iv wr=>Yfb w1 n iv wr) (fun iv _=>n-(intOf iv).toNat)
  case atStart=>exact⟨0,zx,rfl,HK.out,(AR _ _).alloc lr _⟩
  case round=>
   obtain⟨k,hk,rfl,tu,Af⟩:=hrel;have HB:=AC Af;have HP:=AC tu;by_cases hlt:k<n
   ·have OP:k<xs.length:=by rw[hn.out];exact hlt
    obtain⟨⟨hs,hA⟩,b,o,rfl,c0,c1,c2⟩:=H.out k xs[k]<|A8 OP;have hsz:=HS.out k xs[k]<|A8 OP;have d0:=Cb c0 Af;have d1:=Cb c1 Af;have d2:=Cb c2 Af;have ST:=AC fun kk aa ss (RG:ByteArray.size ss<=65536) (hA:gz aa)=>Ydp (k:=kk) (A:=aa) (s:=ss) tu zx RG hA (HZ.out _ Af).1 (HZ.out _ Af).2;have HA:=AC hA;clear c0 c1 c2 tu Af hA;generalize xs[k]=x at*;go_wp2_with fail
    refine(ST.out _ _ _ hsz HA.out).mono ?_;rintro e w2 ⟨rfl,hk2,hb2⟩;have HP2:=AC<|AJ hk2<|HB.out.trans hb2;clear hk2 hb2 ST d0 d1 d2;go_wp2
    exact⟨⟨k+1,zx,by go_num,HP2.out.1,HP2.out.2⟩,by simp[intOf];omega⟩
   ·obtain rfl:k=n:=zx
    clear tu Af;go_wp2
    go_ret2
    exact .inr ⟨rfl,HP.out,NM,HB.out⟩
end Go.P
namespace Go.P
variable {L:Nat}{w:World}
structure Chs (L:Nat) (w:World) (pb:Option Addr) (nb cb:Nat) (pp:Option Addr) (np cp:Nat) (key:ByteArray) (Aa:Int) (pr:Option Addr) (nr cr:Nat) (bs:List Bk) (ps:List Dk) (rs:List ByteArray):Prop where
 lt:L<w.heap.size
 b0:w.cell? (zm L 0)=some (.slice pb nb cb)
 p0:w.cell? (zm L 1)=some (.slice pp np cp)
 k0:w.cell? (zm L 2)=some (.string key)
 c0:w.cell? (zm L 3)=some (zo Aa)
 r0:w.cell? (zm L 5)=some (.slice pr nr cr)
 eb:bs.length=nb
 ep:ps.length=np
 er:rs.length=nr
 lb:nb<=65536
 lr:nr<=65536
 hb:nb<=cb
 rb:Ap 3 (Iz w.heap.size w 4) pb bs
 rp:Ap 2 (Jh w.heap.size w 4) pp ps
 rr:IV w pr rs
 gb: ∀ x,x∈bs-> ∃ t,Gu t (QG t)= .ok x
 gp:gD ps=0
 gk:key.size<=65536
 gc:gz Aa
def Kp.chs {n:Nat}{u:World}(h:Kp L u n)(hn:n<=65536)(hb:Bl u w): ∃ pb nb cb pp np cp key Aa pr nr cr bs ps rs,Chs L w pb nb cb pp np cp key Aa pr nr cr bs ps rs:=by
 obtain⟨vb,vp,vk,vc,vy,vr,vd,bs,ys,rs,ds,ps,Fb,Fy,Fr,Fd,Fp,H0,_,⟨key,rfl⟩,_,l1,l2,l3,l4,l5,l6,l7,l8,l9,⟨Aa,rfl,lA⟩,lB⟩:=h;have H:=H0.later hb;obtain⟨pb,cb,rfl,hcb,rb⟩:=AQ.rowOf (Q':=Iz w.heap.size w 4) H.rb H.nb.lt fun _ _ _ _ _ hcc G4 hG q=>Dx.at_ q hG G4 hcc;obtain⟨pp,cp,rfl,_,rp⟩:=AQ.rowOf (Q':=Jh w.heap.size w 4) H.rp H.np.lt fun _ _ _ _ _ hcc G4 hG q=>DY.at_ q hG G4 hcc;obtain⟨pr,cr,rfl,hrt,_⟩:=AQ.OG H.rr H.nr.lt fun t ht=>by have:=l9 t ht;omega
 exact⟨pb,_,cb,pp,_,cp,key,Aa,pr,_,cr,bs,ps,rs,H.blk.lt,H.blk.cell 0,H.blk.cell 1,H.blk.cell 2,H.blk.cell 3,H.blk.cell 5,rfl,rfl,rfl,zx,zx,hcb,rb,rp,hrt,l5,lB,l7,lA⟩
def Z5x (key:ByteArray)(x:Bk):(Ji key x).size<1000000000:=by
 unfold Ji;split
 ·exact jw false zw (fun t ht=>by rw[List.mem_singleton.mp ht];exact bL x)<|KZ _
 ·decide
def _root_.Go.W.Ap.tail {α:Type}{s:Nat}{Q:Nat->Nat->α->Prop}{b o:Nat}{x:α}{xs:List α}(h:Ap s Q (Qb b o) (x::xs)):Ap s Q (Qb b<|o+s) xs:=⟨by have:=h.len;simp at this;omega,fun i y hy=>by
 obtain⟨b',o',e,q⟩:=h.at_ (i+1) y (by simpa using hy);cases e;refine⟨b,o+s,rfl,?_⟩
 have:o+(i+1)*s=o+s+i*s:=by rw[Nat.add_mul];omega
 rw[<- this];exact q⟩
def Gs (key:ByteArray) (b:Bk) (bs:List Bk):Except Int ByteArray:=Iq (bl<|Ji key b) bs
def Zt1 (V:D9)(CL:Gg){a:Nat->Addr}{pb:Option Addr}{nb cb:Nat}{key:ByteArray}{bs:List Bk}(Z:AZ a w)(E:IL a w)(b0:w.cell? (zm L 0)=some (.slice pb nb cb))(k0:w.cell? (zm L 2)=some (.string key))(eb:bs.length=nb)(lb:nb<=65536)(hcb:nb<=cb)(rb:Ap 3 (Iz w.heap.size w 4) pb bs)(gk:key.size<=65536):Calls prog 6 #[zq L 0] w fun e w'=>((bs=[]/\e= .returned (.tuple #[.string ⟨#[]⟩,.string ⟨#[]⟩,.bool false]))\/ ∃ x xs,bs=x::xs/\e= .returned (.tuple #[.string<|Ji key x,.string<|Ig<|Gs key x xs,.bool<|decide<|LQ key x=0/\Up (Gs key x xs)=0]))/\Bl w w':=by
 cases bs with
 | nil=>
  obtain rfl:nb=0:=eb.symm;clear Z E rb;go_in
  go_wp2
  refine Bg (by simp[results,results6,go_sem];try rfl) rfl ?_;exact⟨.inl ⟨trivial,rfl⟩,AR _ _⟩
 | cons x xs=>
  obtain⟨b,o,rfl,hx⟩:=rb.get 0 zw;rw[List.getElem_cons_zero]at hx;obtain⟨_,p1,c1,p2,c2,p3,c3,x0,x1,x2,hS⟩:=hx.vals;have QY:0<nb:=by rw[<- eb];simp
  have CU:=AC fun u (hu:Bl w u) p c (hr:Ap 3 (Iz w.heap.size w 4) p xs)=>Zv1 (c:=c) (D:=3) V CL (l:=bl<|Ji key x) (Z.below hu) (E.below hu) (by rw[gH];exact Z5x key x) lr (hr.carry fun _ _ _ h=>h.carry (Go.W.Below.carry hu hu.size) lr);have FY:xs.length=nb-1:=by rw[<- eb];simp
  rw[WY,FY]at CU;have HR:=AC rb;suffices h:Calls prog 6 #[zq L 0] w fun e w'=>e= .returned (.tuple #[.string<|Ji key x,.string<|Ig<|Gs key x xs,.bool<|decide<|LQ key x=0/\Up (Gs key x xs)=0])/\Bl w w' from h.mono fun e w' h=>⟨.inr ⟨x,xs,rfl,h.1⟩,h.2⟩
  unfold Gs;have CM:=AC fun u (hu:Bl w u)=>Zyj V (key:=key) (Z.below hu) (E.below hu) zx hu.size (EZ.carry hS<|Bq hu lr);have D0:AF (Bl w w.drew):=⟨(AR _ w).drew⟩;simp only[YC,Qs]at x0 x1 x2;generalize Up (Iq (bl<|Ji key x) xs)=k at*;generalize Ig (Iq (bl<|Ji key x) xs)=u at*;generalize Ji key x=t at*;generalize LQ key x=m at*;go_in
  go_wp2_with fail
  have S0:=AJ b0<|AJ k0<|AJ x0<|AJ x1 x2;go_region_held3 (fun u=>u.cell? (zm L 0)=some (.slice (Qb b o) nb cb)/\u.cell? (zm L 2)=some (.string key)/\u.cell? (zm b o)=some (.slice p1 x.facts.length c1)/\u.cell? (zm b (o+1))=some (.slice p2 x.rules.length c2)/\u.cell? (zm b (o+2))=some (.slice p3 x.checks.length c3)) (first | exact S2 | exact S0) (first
   | (go_at_call 13;refine(CM.out _ D0.out).mono ?_;rintro e w1 ⟨rfl,hb0⟩;have hb1:=D0.out.trans<|hb0.mono D0.out.size;have S2:=AJ (Cb b0 hb1)<|AJ (Cb k0 hb1)<|AJ (Cb x0 hb1)<|AJ (Cb x1 hb1)<|Cb x2 hb1))
  have B1:=AC hb1;obtain⟨c0,Sn,_⟩:=S2;clear S0 hb1 hb0 CM x0 x1 x2 Sn;go_wp2_with fail
  ·refine(CU.out w1 B1.out _ _ ?_).mono ?_
   ·obtain rfl:xs=[]:=M9 zx;exact⟨zw,fun i x hx=>by simp at hx⟩
   rintro e w2 ⟨rfl,hb2⟩;have B2:=tr B1 hb2;clear hb2 CU;go_wp2_with fail
   all_goals
    refine Bg (by simp[results,results6,go_sem];try rfl) rfl ?_;refine⟨?_,B2.out⟩;refine congrArg (fun v=>Ending.returned (.tuple #[.string t,.string u,.bool v])) ?_;first
    | (exact(I8 fun h=>absurd h.1 (by assumption)).symm)
    | (simp only[show m=0 by assumption,true_and];rfl)
  ·refine(CU.out w1 B1.out _ _ HR.out.tail).mono ?_;rintro e w2 ⟨rfl,hb2⟩;have B2:=tr B1 hb2;clear hb2 CU;go_wp2_with fail
   all_goals
    refine Bg (by simp[results,results6,go_sem];try rfl) rfl ?_;refine⟨?_,B2.out⟩;refine congrArg (fun v=>Ending.returned (.tuple #[.string t,.string u,.bool v])) ?_;first
    | (exact(I8 fun h=>absurd h.1 (by assumption)).symm)
    | (simp only[show m=0 by assumption,true_and];rfl)
end Go.P
namespace Go.P
variable {key:ByteArray}{x:Bk}{xs:List Bk}
def lk (x:Bk):ByteArray×Bk:=(A7 x,x)
def Ya0 (tag:List UInt8)(xs:List Bk):O8 tag xs=JF tag ((xs.map lk).map (·.1)):=by
 unfold O8 JF;rw[List.map_map,List.foldl_map];rfl
def Zta: ∀ (xs:List Bk) (n:Nat),n<=8->Jw n xs=0->n+xs.length<=8/\ ∀ x,x∈xs->Ic x=0
 | [],n,h,_=>⟨h,fun _ h=>by cases h⟩
 | x::xs,n,h,h0=>by
  unfold Jw at h0;split at h0
  ·rename_i ha;unfold Qe at ha;split at ha
   ·cases ha
   ·have:=Zta xs (n+1) zx h0
    refine⟨by simp;omega,fun y hy=>?_⟩;rcases Ak.1 hy with rfl | hy
    ·exact ha
    ·exact this.2 y hy
  ·rename_i ha;exact absurd h0 ha
def Zut: ∀ (xs:List Bk) (n:Nat),n+xs.length<=8->(∀ x,x∈xs->Ic x=0)->Jw n xs=0
 | [],n,_,_=>rfl
 | x::xs,n,h,h0=>by
  rw[DU]at h;have ha:Qe n x=0:=by
   unfold Qe;rw[if_neg zx];exact h0 x<|List.mem_cons_self ..
  unfold Jw;rw[if_pos ha];exact Zut xs (n+1) zx fun y hy=>h0 y (List.mem_cons_of_mem _ hy)
structure Js (key:ByteArray) (x:Bk) (xs:List Bk):Prop where
 k:O9 key
 n:xs.length+1<=8
 all: ∀ y,y∈x::xs->Ic y=0/\QA y
def Zn (key:ByteArray) (x:Bk) (xs:List Bk):List UInt8:=O8 (Bt key [A7 x]) xs
def Zk8 (key:ByteArray)(x:Bk)(xs:List Bk):(Zn key x xs).length=32:=qy (KZ _) xs
def Js.xw (h:Js key x xs):SG (bl<|KT false ((x::xs).map A7)<|Zn key x xs)= .ok ⟨false,(x::xs).map lk,Zn key x xs⟩:=by
 unfold SG;rw[vS (xs:=x::xs) zw h.n (Zk8 key x xs) h.all];rfl
def Js.one (h:Js key x xs):Js key x []:=⟨h.k,zw,fun y hy=>h.all y (by rw[Bh.1 hy];exact List.mem_cons_self ..)⟩
def Js.cK (h:Js key x xs):Ji key x=KT false ([x].map A7) (Zn key x []):=if_pos ⟨h.k,(h.all x<|List.mem_cons_self ..).1⟩
def Js.out (h:Js key x xs):Gs key x xs= .ok (KT false ((x::xs).map A7)<|Zn key x xs):=by
 unfold Gs Iq;rw[h.cK,h.one.xw];exact if_pos (Zut xs 1 (by have:=h.n;omega) fun y hy=>(h.all y<|List.mem_cons_of_mem _ hy).1)
def Js.of (hm:LQ key x=0)(ha:Up (Gs key x xs)=0)(hi: ∀ y,y∈x::xs->QA y):Js key x xs:=by
 unfold LQ at hm;split at hm
 rotate_left
 ·cases hm
 rename_i hk;have o:Js key x []:=⟨hk,zw,fun y hy=>by obtain rfl:=Bh.1 hy;exact⟨hm,hi _<|List.mem_cons_self ..⟩⟩;have ha0:Jw 1 xs=0:=by
  have e:Gs key x xs=if Jw 1 xs=0 then .ok (KT false ((x::xs).map A7)<|Zn key x xs)else .error (Jw 1 xs):=by
   unfold Gs Iq;rw[o.cK,o.xw];rfl
  by_cases h:Jw 1 xs=0
  ·exact h
  ·rw[e,if_neg h]at ha;exact ha
 obtain⟨h8,he⟩:=Zta xs 1 zx ha0;exact⟨hk,zx,fun y hy=>⟨by
  rcases Ak.1 hy with rfl | hy
  ·exact hm
  ·exact he y hy,hi y hy⟩⟩
def Js.sP (h:Js key x xs):Zo key (bl<|Ig<|Gs key x xs) false (lk x) (xs.map lk)/\(bl<|Ig<|Gs key x xs).length<1000000000/\ ∀ y,y∈x::xs->IU y=0:=by
 rw[h.out,show ∀ t,Ig (.ok t)=t from fun _=>rfl];refine⟨⟨h.k,?_,by simp only[Dj];have:=h.n;omega⟩,?_,fun y hy=>(vQ (h.all y hy).1).1⟩
 ·rw[vS (xs:=x::xs) zw h.n (Zk8 key x xs) h.all];unfold Zn;rw[Ya0];rfl
 ·rw[gH];refine jw false (by simpa using h.n) (fun t ht=>?_)<|Zk8 key x xs;obtain⟨y,_,rfl⟩:=List.mem_map.1 ht;exact bL y
end Go.P
namespace Go.W
def Yeu:ByteArray:=⟨#[114,105,103,104,116,40,34,97,34,41,59,32,109,97,121,40,36,120,41,32,60,45,32,114,105,103,104,116,40,36,120,41,59]⟩
def Yev:ByteArray:=⟨#[99,104,101,99,107,32,105,102,32,109,97,121,40,34,97,34,41,44,32,116,105,109,101,40,36,116,41,44,32,36,116,32,60,32,64,53,59]⟩
def wZ:ByteArray:=⟨#[97,108,108,111,119,32,105,102,32,109,97,121,40,34,97,34,41,59]⟩
def eqB:Gu Yeu (QG Yeu)= .ok FQ:=zt
def eqC:Gu Yev (QG Yev)= .ok IK:=zt
def O3:Gu wZ (Vh wZ)= .ok [YF]:=zt
end Go.W
namespace Go.P
section
variable {a:Nat->Addr} {w:World}
def Zye {t:ByteArray}{x:Bk}(ht:t.size<1000000000)(hx:Gu t (QG t)= .ok x)(Z:AZ a w)(E:IL a w):Calls prog 11 #[.string t] w fun e w'=> ∃ p c p1 c1 p2 c2 q,e= .returned (.tuple #[.agg #[.slice p x.facts.length c,.slice p1 x.rules.length c1,.slice p2 x.checks.length c2],zo 0,zo q])/\EZ w'.heap.size w' 3 [.slice p x.facts.length c,.slice p1 x.rules.length c1,.slice p2 x.checks.length c2] x/\Bl w w':=by
 refine(Zua t ht Z E).mono ?_;rintro e w' ⟨s,m,q,rfl,hk,hb⟩;rcases hk with⟨⟨er,h⟩,_⟩ | ⟨rfl,y,F,h2,h3,h4⟩
 ·rw[hx]at h;cases h
 ·rw[hx]at h2;cases h2;have hS:=Dx.toS h3 h4.lt;obtain⟨p,c,p1,c1,p2,c2,e1,_⟩:=id hS;have e2:XT s=#[.slice p x.facts.length c,.slice p1 x.rules.length c1,.slice p2 x.checks.length c2]:=by rw[<- Array.toArray_toList (xs:=XT s),e1]
  exact⟨p,c,p1,c1,p2,c2,q,by rw[e2],e1▸hS,hb⟩
def Ydb (Z:AZ a w)(E:IL a w):Calls prog 12 #[.string wZ] w fun e w'=> ∃ p c q,e= .returned (.tuple #[.slice p 1 c,zo 0,zo q])/\Ap 2 (Jh w'.heap.size w' 4) p [YF]/\Bl w w':=by
 refine(Zyl wZ zu Z E).mono ?_;rintro e w' ⟨v,m,q,rfl,hk,hb⟩;rcases hk with⟨⟨er,h⟩,_⟩ | ⟨rfl,y,F,h2,h3,h4⟩
 ·rw[O3]at h;cases h
 ·rw[O3]at h2;cases h2;obtain⟨p,c,rfl,_,hr⟩:=AQ.rowOf (Q':=Jh w'.heap.size w' 4) h3 h4.lt fun _ _ _ _ _ hcc G4 hG q=>DY.at_ q hG G4 hcc;exact⟨p,c,q,rfl,hr,hb⟩
def Zww (V:D9)(CL:Gg)(G:Oq a w)(E:IL a w):Calls prog 5 #[] w fun e w'=>e= .returned (.bool true)/\Bl w w':=by
 have Z:=G.sent;have C1:=AC fun u (hu:Bl w u)=>Zye zu eqB (Z.below hu) (E.below hu);have C2:=AC fun u (hu:Bl w u)=>Zye zu eqC (Z.below hu) (E.below hu);have C3:=AC fun u (hu:Bl w u)=>Ydb (Z.below hu) (E.below hu);have C4:=AC fun u (hu:Bl w u) (vs:List Value) (hS:EZ u.heap.size u 3 vs FQ)=>Yab V (Z.below hu) (E.below hu) lr hS;have C5:=AC fun u (hu:Bl w u) (iB:QA FQ) (p:Option Addr) (c:Nat) (hr:Ap 3 (Iz u.heap.size u 4) p [IK])=>Yc7 V CL (Z.below hu) (E.below hu) lr iB (c:=c) hr;have C6:=AC fun u (hu:Bl w u) (iB:QA FQ) (iC:QA IK) (p:Option Addr) (c:Nat) (hr:Ap 2 (Jh u.heap.size u 4) p [YF])=>Yaa V CL (G.below hu) lr iB iC (cp:=c) hr;simp only[show FQ.facts.length=1 from rfl,show FQ.rules.length=1 from rfl,show FQ.checks.length=0 from rfl,show IK.facts.length=0 from rfl,show IK.rules.length=0 from rfl,show IK.checks.length=1 from rfl]at C1 C2;clear Z E G;go_in
 go_wp2_with fail
 refine(C1.out _<|AR _ _).mono ?_;rintro e w1 ⟨pf,cf,pr,cr,pk,ck,q,rfl,hS1,hb1⟩;have iB:=hS1.cZ zx;have S1:=AC hS1;have b1:=AC hb1;clear hS1 hb1;go_wp2_with fail
 have N1:=AC<|AO.new w1 #[.slice pf 1 cf,.slice pr 1 cr,.slice pk 0 ck] 33;have fD:=AC<|b1.out.alloc b1.out.size<|.cells #[.slice pf 1 cf,.slice pr 1 cr,.slice pk 0 ck] 33;have S1':=AC<|EZ.carry S1.out<|Qk (.cells #[.slice pf 1 cf,.slice pr 1 cr,.slice pk 0 ck] 33) lr;generalize w1.alloc (.cells #[.slice pf 1 cf,.slice pr 1 cr,.slice pk 0 ck] 33)=W1 at*;refine(C2.out _ fD.out).mono ?_;rintro e w2 ⟨qf,df,qr,dr,qk,dk,q2,rfl,Kw,hb2⟩;have iC:=Kw.cZ zx;have S2:=AC Kw;have N2:=AC<|N1.out.of<|hb2.block _ N1.out.lt;have s1:=AC<|EZ.carry S1'.out<|Bq hb2 (by have:=N1.out.lt;omega);have b2:=AC<|fD.out.trans<|hb2.mono fD.out.size;have z2:w1.heap.size<w2.heap.size:=BK N1.out.lt hb2.size;clear Kw hb2 b1 S1 N1 fD S1';go_wp2_with fail
 have jQ:=AC<|b2.out.alloc b2.out.size<|.cells #[.slice qf 0 df,.slice qr 0 dr,.slice qk 1 dk] 33;have NB:=AC<|N2.out.alloc<|.cells #[.slice qf 0 df,.slice qr 0 dr,.slice qk 1 dk] 33;have NC:=AC<|AO.new w2 #[.slice qf 0 df,.slice qr 0 dr,.slice qk 1 dk] 33;have SB:=AC<|EZ.carry s1.out<|Qk (.cells #[.slice qf 0 df,.slice qr 0 dr,.slice qk 1 dk] 33)<|Nat.le_of_lt z2;have SC:=AC<|EZ.carry S2.out<|Qk (.cells #[.slice qf 0 df,.slice qr 0 dr,.slice qk 1 dk] 33) lr;generalize w2.alloc (.cells #[.slice qf 0 df,.slice qr 0 dr,.slice qk 1 dk] 33)=W2 at*;refine(C3.out _ jQ.out).mono ?_;rintro e w3 ⟨pp,cp,q3,rfl,hP,hb3⟩;have HA:AF (∀ u,Bl w3 u->(u.cell? (zm w1.heap.size 0)=some (.slice pf 1 cf)/\u.cell? (zm w1.heap.size 1)=some (.slice pr 1 cr)/\u.cell? (zm w1.heap.size 2)=some (.slice pk 0 ck))/\(u.cell? (zm w2.heap.size 0)=some (.slice qf 0 df)/\u.cell? (zm w2.heap.size 1)=some (.slice qr 0 dr)/\u.cell? (zm w2.heap.size 2)=some (.slice qk 1 dk))/\EZ u.heap.size u 3 [.slice pf 1 cf,.slice pr 1 cr,.slice pk 0 ck] FQ/\EZ u.heap.size u 3 [.slice qf 0 df,.slice qr 0 dr,.slice qk 1 dk] IK/\Ap 2 (Jh u.heap.size u 4) pp [YF]/\Bl w u):=⟨fun u hu=>by
  have h3:=hb3.size;have h4:=hu.size;have hl:=NC.out.lt;have hW:Bl W2 u:=hb3.trans<|hu.mono h3;have x1:=(NB.out.of<|hW.block _ NB.out.lt).three;have x2:=(NC.out.of<|hW.block _ NC.out.lt).three;have z1:=hW.size;exact⟨⟨x1.1,x1.2.1,x1.2.2.1⟩,⟨x2.1,x2.2.1,x2.2.2.1⟩,EZ.carry SB.out<|Go.W.Below.carry (hW.mono zx) zx,EZ.carry SC.out<|Go.W.Below.carry (hW.mono zx) zx,hP.carry fun _ _ _ r=>r.carry (Go.W.Below.carry hu h4) lr,jQ.out.trans<|hW.mono jQ.out.size⟩⟩
 obtain⟨⟨y0,y1,y2⟩,⟨x0,x1,x2⟩,_⟩:=HA.out w3<|AR _ _;clear hP hb3;go_wp2_with fail
 refine(C4.out _ (HA.out w3<|AR _ _).2.2.2.2.2 _ (HA.out w3<|AR _ _).2.2.1).mono ?_;rintro e w4 ⟨rfl,hb4⟩;have H4:=AC hb4;obtain⟨⟨y0,y1,y2⟩,⟨x0,x1,x2⟩,_⟩:=HA.out w4 hb4;clear hb4;generalize ht:gX=tA;go_wp2_with fail
 have B4:Bl w4 (w4.alloc<|.cells #[.slice qf 0 df,.slice qr 0 dr,.slice qk 1 dk] 33):=(AR _ w4).alloc lr _;have M4:=AO.new w4 #[.slice qf 0 df,.slice qr 0 dr,.slice qk 1 dk] 33;generalize w4.alloc (.cells #[.slice qf 0 df,.slice qr 0 dr,.slice qk 1 dk] 33)=W4 at*;have sH:=AC<|H4.out.trans<|B4.mono H4.out.size;have R4:Ap 3 (Iz W4.heap.size W4 4) (Qb w4.heap.size 0) [IK]:=wW (EZ.at (HA.out W4 sH.out).2.2.2.1 (EG.up lr) M4.lt fun j _=>by rw[Gx];exact(M4.cell j).trans<|Tu ..);refine(ht▸C5.out _ (HA.out W4 sH.out).2.2.2.2.2 iB _ 1 R4).mono ?_;rintro e w5 ⟨rfl,BX⟩;have H5:=AC<|sH.out.trans<|BX.mono sH.out.size;obtain⟨⟨y0,y1,y2⟩,⟨x0,x1,x2⟩,_⟩:=HA.out w5 H5.out;clear BX R4 M4 B4 sH;generalize mZ:Zl=tB;go_wp2_with fail
 refine(mZ▸C6.out _ (HA.out w5 H5.out).2.2.2.2.2 iB iC _ cp (HA.out w5 H5.out).2.2.2.2.1).mono ?_;rintro e w6 ⟨rfl,Gp⟩;have H6:=AC<|H5.out.trans<|Gp.mono H5.out.size;obtain⟨⟨y0,y1,y2⟩,⟨x0,x1,x2⟩,_⟩:=HA.out w6 H6.out;clear Gp;go_wp2
 go_ret
 exact⟨rfl,(HA.out w6 H6.out).2.2.2.2.2⟩
end
end Go.P
namespace Go.P
def Yeo (x:Bk)(xs:List Bk):(lk x::xs.map lk).map (·.1)=(x::xs).map A7:=by
 rw[<- List.map_cons,List.map_map];rfl
def Yep (x:Bk)(xs:List Bk):(lk x::xs.map lk).map (·.2)=x::xs:=by
 rw[<- List.map_cons,List.map_map,show(Prod.snd∘lk)=id from rfl,List.map_id]
def Zyh (V:D9)(CL:Gg){a:Nat->Addr}{w:World}(G:Oq a w){B:Nat}(hB:B<=w.heap.size){key:ByteArray}{l:By}{S:Bool}{x:Bk}{xs:List Bk}(g:Zo key l S (lk x) (xs.map lk))(hl:l.length<1000000000)(Aq: ∀ y,y∈x::xs->IU y=0){Aa:Int}(hc:Gq Aa){pq pp:Option Addr}{cq cp:Nat}{rv:List ByteArray}(hq:IV w pq rv)(Ea:rv.length<1000000000){ps:List Dk}(hp:Ap 2 (Jh B w 4) pp ps)(XZ:gD ps=0):
  Calls prog 8 #[.string key,.string<|ba l,.agg #[zo Aa,zn,.slice pq rv.length cq],.slice pp ps.length cp] w fun e w'=>e= .returned (.tuple #[.int .i64<|IQ rv (Eu key<|(x::xs).map A7) Aa (x::xs) ps,zo 0])/\Bl w w':=by
 have C:=AC fun u (hu:Bl w u)=>Z18 V CL (cq:=cq) (cp:=cp) (G.below hu) (Ab hB hu.size) g.1 hl g.2.1 g.2.2 (fun y hy=>Aq y (by rw[Yep]at hy;exact hy)) hc (hq.below hu) Ea (hp.carry fun _ _ _ q=>q.carry (Bq hu hB) lr) XZ;rw[Yeo,Yep]at C;have N:=AC kD;clear hp hq G Aq g;generalize IQ rv (Eu key<|(x::xs).map A7) Aa (x::xs) ps=v at*;generalize ba l=t at*;generalize rv.length=nr at*;generalize ps.length=np at*;go_in
 go_wp2_with fail
 refine(C.out _<|(AR _ w).alloc lr _).mono ?_;rintro e w1 ⟨rfl,hb⟩;have B1:=AC<|((AR w.heap.size w).alloc lr _).trans<|hb.mono zw;clear hb;go_wp2_with fail
 refine(N.out _).mono ?_;rintro e w2 ⟨rfl,rfl⟩;go_wp2
 go_ret2
 exact⟨rfl,B1.out⟩
end Go.P
namespace Go.P
variable {L nb cb np cp nr cr:Nat}{w:World}{pb pp pr:Option Addr}{key:ByteArray}{Aa:Int}{bs:List Bk}{ps:List Dk}{rs:List ByteArray}
def Chs.at (h:Chs L w pb nb cb pp np cp key Aa pr nr cr bs ps rs){u:World}(hu:Bl w u):u.cell? (zm L 0)=some (.slice pb nb cb)/\u.cell? (zm L 1)=some (.slice pp np cp)/\u.cell? (zm L 2)=some (.string key)/\u.cell? (zm L 3)=some (zo Aa)/\u.cell? (zm L 5)=some (.slice pr nr cr):=
 ⟨Cb h.b0 hu,Cb h.p0 hu,Cb h.k0 hu,Cb h.c0 hu,Cb h.r0 hu⟩
def Chs.ins (h:Chs L w pb nb cb pp np cp key Aa pr nr cr bs ps rs)(y:Bk)(hy:y∈bs):QA y:=by
 obtain⟨i,hi,rfl⟩:=List.getElem_of_mem hy;obtain⟨b,o,_,hx⟩:=h.rb.get i hi;obtain⟨_,p1,c1,p2,c2,p3,c3,_,_,_,hS⟩:=hx.vals;exact hS.cZ zx
end Go.P
