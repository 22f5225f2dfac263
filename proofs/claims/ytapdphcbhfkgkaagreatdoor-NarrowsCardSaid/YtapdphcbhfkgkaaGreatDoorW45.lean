import Derived.Test.YtapdphcbhfkgkaaGreatDoorW43
import Derived.Test.YtapdphcbhfkgkaaGreatDoorW44
set_option linter.defProp false
set_option maxRecDepth 100000
set_option maxHeartbeats 8000000
set_option linter.unusedSimpArgs false
open Go.Proofs Go.RowKit Go.W Tryz
namespace Go.P
variable {a:Nat->Addr}{w u:World}{B cq:Nat}{Aa:Int}{key:ByteArray}{pq:Option Addr}{xs:List Bk}{v1 v2:Value}{ts:List ByteArray}
def Oq.below (h:Oq a w)(hb:Bl w u):Oq a u:=h.of (F:=[]) (Off.of hb) fun _ h=>by cases h
def Eu (key:ByteArray):List ByteArray->List ByteArray
 | []=>[]
 | t::ts=>(Bt key [t]::Ju (Bt key [t]) ts).map fun t=>⟨(Ez [⟨t.toArray⟩]).toArray⟩
def gG (key t:ByteArray)(ts:List ByteArray):Eu key (t::ts)=(Bt key [t]::Ju (Bt key [t]) ts).map fun t=>⟨(Ez [⟨t.toArray⟩]).toArray⟩:=rfl
noncomputable def IQ (rv ids:List ByteArray) (Aa:Int) (xs:List Bk) (ps:List Dk):Int:=if Kz rv ids=true then 3 else Ux Aa xs ps
def EZ.at {B' d b o:Nat}{w':World}{vs:List Value}{x:Bk}(h:EZ B w d vs x)(c:EG B B' w w')(hb:b<B')(hv: ∀ j,j<3->w'.cell? (zm b (o+j))=vs[j]?):Iz B' w' (d+1) b o x:=by
 obtain⟨p,k,p1,k1,p2,k2,rfl,h2,h3,h4,h5,h6,h7⟩:=EZ.carry h c;exact⟨hb,⟨_,hv 0 zx,_,_,rfl,h2,h3⟩,⟨_,hv 1 zx,_,_,rfl,h4,h5⟩,_,hv 2 zx,_,_,rfl,h6,h7⟩
def Zwz {v:Int}{text:ByteArray}{pl:Value}{nq:Nat}{rv:Bool}{J:Value->Value->World->Prop}(Z:AZ a w)
  (CB: ∀ u,Bl w u->Calls prog 25 #[.agg #[zn,zn,zn]] u (FT a 0 u))
  (CP: ∀ u,Bl w u->Calls prog 26 #[pl] u (FT a 0 u))
  (CV: ∀ u,Bl w u->Calls prog 21 #[.string key,.string text] u fun e w'=> ∃ v1 v2,e= .returned (.tuple #[v1,v2,.nilIface])/\J v1 v2 w'/\Bl u w')
  (CR: ∀ v1 v2 u,J v1 v2 u->Bl w u->Calls prog 28 #[v2,.slice pq nq cq] u fun e w'=>e= .returned (.bool rv)/\J v1 v2 w'/\Bl u w')
  (CD: ∀ v1 v2 u,J v1 v2 u->Bl w u->Calls prog 29 #[v1,.agg #[zo Aa,zn,.slice pq nq cq],pl] u fun e w'=>e= .returned (zo v)/\Bl u w'):
  Calls prog 18 #[.string key,.string text,.agg #[zo Aa,zn,.slice pq nq cq],pl] w fun e w'=>e= .returned (.tuple #[zo (if rv=true then 3 else v),.nilIface])/\Bl w w':=by
 have HB:=AC CB;have HP:=AC CP;have HV:=AC CV;have HR:=AC CR;have HD:=AC CD;have HZ:=AC Z;clear CB CP CV CR CD Z;go_in
 go_wp2_with fail
 obtain⟨W2,hW2⟩: ∃ W2,AF ((w.alloc<|.cells #[zo Aa,zn,.slice pq nq cq] 36).alloc (.cells #[zn,zn,zn] 44)=W2):=⟨_,⟨rfl⟩⟩;rw[hW2.out];have B2:Bl w W2:=hW2.out▸((AR _ w).alloc lr _).alloc zw _;have NQ:AO W2 w.heap.size #[zo Aa,zn,.slice pq nq cq] 36:=hW2.out▸(AO.new w _ _).alloc _;have HQ:AF (∀ u,Bl W2 u->u.cell? (zm w.heap.size 0)=some (zo Aa)/\u.cell? (zm w.heap.size 1)=some (zn)/\u.cell? (zm w.heap.size 2)=some (.slice pq nq cq)/\Bl w u):=⟨fun u hu=>by
  have q:=(NQ.of<|hu.block _ NQ.lt).three;exact⟨q.1,q.2.1,q.2.2.1,B2.trans<|hu.mono B2.size⟩⟩
 clear hW2 NQ;refine(HB.out _ B2).mono ?_;rintro e w3 ⟨rfl,hb3⟩;have B3:=AC hb3;clear hb3 B2;rw[JR];go_wp2_with fail
 refine(HP.out _ (HQ.out _ B3.out).2.2.2).mono ?_;rintro e w4 ⟨rfl,hb4⟩;have B4:=tr B3 hb4;clear hb4 B3;rw[JR];go_wp2_with fail
 refine(HV.out _ (HQ.out _ B4.out).2.2.2).mono ?_;rintro e w5 ⟨v1,v2,rfl,j5,BX⟩;have B5:=tr B4 BX;have HJ:=AC j5;have z10:=(HZ.out.below (HQ.out _ B5.out).2.2.2).c10;rw[BU _ zu]at z10;have HI:=fun(t:TypeId) (v:Value)=>Yil t v w5;obtain⟨q0,q1,q2,_⟩:=HQ.out _ B5.out;clear BX B4 j5;go_wp2_with fail
 refine(HI _ _).mono ?_;rintro e w6 ⟨rfl,rfl⟩;go_wp2_with fail
 refine(HR.out _ _ _ HJ.out (HQ.out _ B5.out).2.2.2).mono ?_;rintro e w7 ⟨rfl,j7,G6⟩;have B7:=tr B5 G6;have HJ7:=AC j7;obtain⟨r0,r1,r2,_⟩:=HQ.out _ B7.out;clear G6 j7 q0 q1 q2 z10 B5 HJ;cases rv with
 | true=>
  go_wp2
  go_ret2
  exact⟨rfl,(HQ.out _ B7.out).2.2.2⟩
 | false=>
  go_wp2_with fail
  refine(HD.out _ _ _ HJ7.out (HQ.out _ B7.out).2.2.2).mono ?_;rintro e w8 ⟨rfl,GV⟩;have B8:=tr B7 GV;clear GV;go_wp2
  go_ret2
  exact⟨rfl,(HQ.out _ B8.out).2.2.2⟩
def fE (w:World) (xs:List Bk) (ids:List ByteArray) (v1 v2:Value) (u:World):Prop:=(∃ F1 W0,Bl w W0/\Bl W0 u/\AQ 44 3 (Rt W0 3) u v1 xs F1/\ ∀ k,k∈F1->k<u.heap.size)/\ ∃ F2,AQ 9 1 GD u v2 ids F2/\ ∀ k,k∈F2->k<u.heap.size
def fE.below {ids:List ByteArray}{u':World}(h:fE w xs ids v1 v2 u)(hw:Bl u u'):fE w xs ids v1 v2 u':=by
 obtain⟨⟨F1,W0,h1,h2,h3,uU⟩,F2,h4,h5⟩:=h;exact⟨⟨F1,W0,h1,h2.trans<|hw.mono h2.size,AQ.stable (Rt.stable _ _) _ _ _ _ _ h3 fun j hj=>hw.block j (uU j hj),fun k hk=>BK (uU k hk) hw.size⟩,F2,AQ.stable GD.stable _ _ _ _ _ h4 fun j hj=>hw.block j (h5 j hj),fun k hk=>BK (h5 k hk) hw.size⟩
def AQ.OG {e:TypeId}{v:Value}{F:List Nat}(h:AQ e 1 GD w v ts F)(hF: ∀ k,k∈F->k<w.heap.size)(hz: ∀ t,t∈ts->t.size<1000000000): ∃ p c,v= .slice p ts.length c/\IV w p ts/\ts.length<1000000000:=by
 obtain⟨p,c,rfl,_,hr⟩:=AQ.rowOf (Q':=fun b o x=>b<w.heap.size/\w.cell? (zm b o)=some (.string x)) h hF fun b o vs x G hc hb _ q=>⟨hb,by have:=hc 0 zx;rw[q.2]at this;exact this⟩;refine⟨p,c,rfl,fun i t hi=>?_,hr.len⟩;obtain⟨b,o,e,h1,h2⟩:=hr.at_ i t hi;rw[Nat.mul_one]at h2;exact⟨hz t<|Ej hi,b,o,e,h1,h2⟩
def fE.ids (h:fE w xs (Eu key ts) v1 v2 u): ∃ p c,v2= .slice p (Eu key ts).length c/\IV u p (Eu key ts)/\(Eu key ts).length<1000000000:=by
 obtain⟨_,F2,h4,h5⟩:=h;refine AQ.OG h4 h5 fun t ht=>?_;cases ts with
 | nil=>cases ht
 | cons t0 ts=>
  obtain⟨s,_,rfl⟩:=List.mem_map.1 ht;show(Ez [⟨s.toArray⟩]).toArray.size<_;rw[GN,KZ];omega
def Z18 (V:D9)(CL:Gg)(hG:Oq a w)(hB:B<=w.heap.size){l:By}{S:Bool}{y0:ByteArray×Bk}{ys:List (ByteArray×Bk)}(hk:O9 key=true)(hl:l.length<1000000000)(hch:GZ Hu l= .ok ⟨S,y0::ys,Yz S<|JF (Bt key [y0.1])<|ys.map (·.1)⟩)(hn:ys.length<8)(Aq: ∀ x,x∈(y0::ys).map (·.2)->IU x=0)(hc:Gq Aa){pp:Option Addr}{cp:Nat}{rv:List ByteArray}(hq:IV w pq rv)(Ea:rv.length<1000000000){ps:List Dk}(hp:Ap 2 (Jh B w 4) pp ps)(XZ:gD ps=0):
  Calls prog 18 #[.string key,.string<|ba l,.agg #[zo Aa,zn,.slice pq rv.length cq],.slice pp ps.length cp] w fun e w'=>e= .returned (.tuple #[.int .i64<|IQ rv (Eu key<|(y0::ys).map (·.1)) Aa ((y0::ys).map (·.2)) ps,.nilIface])/\Bl w w':=by
 have Z:=hG.sent;have hid:=gG key y0.1<|ys.map (·.1);rw[List.map_cons (f:=fun y:ByteArray×Bk=>y.1)];have HT: ∀ v1 v2 u,fE w ((y0::ys).map (·.2)) (Eu key<|y0.1::ys.map (·.1)) v1 v2 u-> ∃ p c,v2= .slice p (Eu key<|y0.1::ys.map (·.1)).length c/\IV u p (Eu key<|y0.1::ys.map (·.1))/\(Eu key<|y0.1::ys.map (·.1)).length<1000000000:=fun v1 v2 u h=>h.ids;generalize Eu key (y0.1::ys.map (·.1))=ids at*;refine Zwz (rv:=Kz rv ids) (J:=fun v1 v2 u=>fE w ((y0::ys).map (·.2)) ids v1 v2 u) Z ?_ ?_ ?_ ?_ ?_
 ·intro u hu;exact Zhn V (B:=u.heap.size) (D:=3) (x:=⟨[],[],[]⟩) (Z.below hu) lr ⟨_,_,_,_,_,_,rfl,EO _,ak,EO _,ak,EO _,ak⟩
 ·intro u hu;exact Yda V (B:=B) (D:=3) (Z.below hu) (Ab hB hu.size) (hp.carry fun _ _ _ q=>q.carry (Bq hu hB) lr) XZ
 ·intro u hu;refine(Zr3 V CL (Z.below hu) hk hl hch rfl rfl hn rfl).mono ?_;rintro e w' ⟨v1,v2,F1,F2,W0,rfl,h1,h2,h3,h4,h5,h6⟩;rw[<- hid]at h4;exact⟨v1,v2,rfl,⟨⟨F1,W0,hu.trans<|h1.mono hu.size,h2,h3,h5.lt⟩,F2,h4,h6.lt⟩,h1.trans<|h2.mono h1.size⟩
 ·intro v1 v2 u h hu;obtain⟨p,c,rfl,h1,h2⟩:=HT v1 v2 u h;refine(Zvp (hq.below hu) Ea h1 h2).mono ?_;rintro e w' ⟨rfl,hw⟩;exact⟨rfl,h.below hw,hw⟩
 ·intro v1 v2 u h hu;obtain⟨⟨F1,W0,h1,h2,h3,uU⟩,_⟩:=h;obtain⟨p,c,rfl,hc',hr⟩:=AQ.rowOf (Q':=Iz u.heap.size u 4) h3 uU fun b o vs x G Ox hb _ q=>EZ.at q.2 (Go.W.Below.carry h2 h2.size) hb Ox;obtain⟨b,o,rfl,_⟩:=hr.at_ 0 y0.2 rfl;exact Zz9 (B:=u.heap.size) (D:=1) (hG.of (F:=[]) (Off.of hu) fun _ h=>(by cases h)) lr hc hr (by simpa using hc') (fun x hx=>kY.of (Aq x hx)) (by rw[Dj];omega) (hp.carry fun _ _ _ q=>q.carry (Go.W.Below.carry (hu.mono hB)<|Ab hB hu.size) lr)<|xA.of XZ
end Go.P
namespace Go.W
variable {x:Bk}{vs:List T}
def vQ (h:Ic x=0):IU x=0/\(LM x).size<=4000/\A7 x=LM x:=by
 have e:A7 x=LM x:=if_pos h;unfold Ic at h;split at h
 ·rename_i h';exact absurd h h'
 ·rename_i h';split at h
  ·cases h
  ·exact⟨Decidable.not_not.mp h',zx,e⟩
def Z9j (h:Ic x=0)(hi:QA x):U8 Sv (fun y:ByteArray×Bk=>Em y.1) (A7 x,x):=fun r=>by
 obtain⟨h1,h2,h3⟩:=vQ h;rw[h3];unfold Sv Em;dsimp only;rw[J2,JB,De.then_ok<|qp zx _,if_neg zx,<- gH,De.then_ok<|vI _ r,Z2y<|Z45 h1 hi h2,WY]
def Z75 {α:Type}(f:ByteArray->ByteArray): ∀ l:List (ByteArray×α),cat f (l.map (·.1))=cat (fun y=>f y.1) l
 | []=>rfl
 | x::l=>by rw[List.map_cons,cat,cat,Z75 f l]
def vS {S:Bool}{xs:List Bk}{tag:By}(hne:xs≠[])(hn:xs.length<=8)(ht:tag.length=32)(hx: ∀ x,x∈xs->Ic x=0/\QA x):GZ Hu (bl<|KT S (xs.map A7) tag)= .ok ⟨S,xs.map fun x=>(A7 x,x),tag⟩:=by
 have hl:xs.map A7=(xs.map fun x=>(A7 x,x)).map (·.1):=by rw[List.map_map];rfl
 have hm:=Za (f:=Sv) (p:=fun y:ByteArray×Bk=>Em y.1) (m:=8) (xs:=xs.map fun x=>(A7 x,x)) (fun y hy=>by
  obtain⟨x,UH,rfl⟩:=List.mem_map.mp hy;exact Z9j (hx x UH).1 (hx x UH).2) (by simpa using hn) zx tag
 have e:bl (KT S (xs.map A7) tag)=Nr++(bl (b1 (if S then 1 else 0))++(bl (BO (fun y:ByteArray×Bk=>Em y.1) (xs.map fun x=>(A7 x,x)))++tag)):=by
  rw[hl];unfold KT BO;rw[Z75,Dj,J2,J2,J2,kP,kP];simp only[JB]
 have hs1:(if S then 1 else 0)<=1:=by cases S <;> decide
 have hnz: ¬ (xs.map fun x=>(A7 x,x)).length=0:=by simpa using hne
 have mZ:=vI tag [];rw[List.append_nil,ht]at mZ;rw[e,GZ]
 have:Hu (Nr++(bl (b1 (if S then 1 else 0))++(bl (BO (fun y:ByteArray×Bk=>Em y.1) (xs.map fun x=>(A7 x,x)))++tag)))= .ok (⟨S,xs.map fun x=>(A7 x,x),tag⟩,[]):=by
  unfold Hu;have h4:=vI Nr<|bl (b1 (if S then 1 else 0))++(bl (BO (fun y:ByteArray×Bk=>Em y.1) (xs.map fun x=>(A7 x,x)))++tag);rw[show Nr.length=4 from rfl]at h4;rw[De.then_ok h4,if_neg zw,De.then_ok<|Wq zx _];unfold fP;rw[if_neg zx,De.then_ok hm];unfold jU;rw[if_neg hnz,De.map_ok mZ];cases S <;> rfl
 rw[this];rfl
def rD:ByteArray:=⟨#[116,105,109,101]⟩
def ay:ByteArray:=⟨#[114,105,103,104,116]⟩
def Zm:ByteArray:=⟨#[109,97,121]⟩
def vX:T:= .mk 1 0 ⟨#[120]⟩ []
def vT:T:= .mk 1 0 ⟨#[116]⟩ []
def sA:T:= .mk 3 0 ⟨#[97]⟩ []
def dN (n:Int):T:= .mk 5 n ⟨#[]⟩ []
def Ykh:R:=⟨⟨Zm,[vX]⟩,[⟨ay,[vX]⟩],[]⟩
def jR:R:=⟨⟨⟨#[]⟩,[]⟩,[⟨Zm,[sA]⟩,⟨rD,[vT]⟩],[⟨3,vT,dN 5⟩]⟩
def rR:R:=⟨⟨⟨#[]⟩,[]⟩,[⟨Zm,[sA]⟩],[]⟩
def FQ:Bk:=⟨[⟨ay,[sA]⟩],[Ykh],[]⟩
def IK:Bk:=⟨[],[],[[jR]]⟩
def Vk:ByteArray:=⟨#[107,101,121]⟩
def YF:Dk:=⟨true,[rR]⟩
def qG:Ic FQ=0:=zt
def Z0c:Ic IK=0:=zt
def Fn.sub {bs:List BD}{P:Fc->Prop}{L:List Fc}(h0: ∀ x,P x->x∈L)(h1: ∀ x,Uj bs vs (·∈L) x->x∈L): ∀ (k:Nat) (x:Fc),Fn bs vs P k x->x∈L
 | 0,x,h=>h0 x h
 | k+1,x,.inl h=>Fn.sub h0 h1 k x h
 | k+1,x,.inr ⟨b,hb,σ,⟨q1,q2⟩,q3⟩=>h1 x ⟨b,hb,σ,⟨fun y hy=>Fn.sub h0 h1 k _ (q1 y hy),q2⟩,q3⟩
def Qy:Sd:=Ec 4 FQ
def uX:BD:=⟨(Zm,[(⟨#[120]⟩,0)]),[(ay,[(⟨#[120]⟩,0)])],[],[(⟨#[120]⟩,0,0)]⟩
def Z3s:JL 4 [FQ,IK]=[Qy,Qy]:=zt
def Z31:Va Qy.1=([(rD,[0]),(ay,[1])],[dN 4,sA]):=zt
def uw:Vb Qy.1 Qy.2=([dN 4,sA],[uX]):=zt
def Zvl {P:Fc->Prop}{x:Fc}:Uj [uX] vs P x↔ ∃ n,P (ay,[n])/\x=(Zm,[n]):=by
 constructor
 ·rintro⟨b,hb,σ,⟨q1,_⟩,rfl⟩;rw[Bh.1 hb]at q1⊢;exact⟨σ ⟨#[120]⟩,q1 (ay,[(⟨#[120]⟩,0)]) (by simp[uX]),rfl⟩
 ·rintro⟨n,q,rfl⟩;exact⟨uX,zw,fun _=>n,⟨fun y hy=>by rw[Bh.1 hy];exact q,fun g hg=>by cases hg⟩,rfl⟩
def Zvd (x:Fc):Uc Qy.1 Qy.2 x↔x∈[(rD,[0]),(ay,[1]),(Zm,[1])]:=by
 unfold Uc;rw[uw,Z31];dsimp only;constructor
 ·refine Fn.sub (fun x h=>?_) (fun x h=>?_) 12 x
  ·simp only[Ak,Lj,or_false]at h⊢;exact h.imp id .inl
  ·obtain⟨n,q,rfl⟩:=Zvl.1 h;simp only[Ak,Lj,or_false,Prod.mk.injEq]at q⊢;rcases q with⟨q,_⟩ | ⟨_,q⟩ | ⟨q,_⟩
   ·exact absurd q zu
   ·exact .inr<|.inr ⟨trivial,q⟩
   ·exact absurd q zu
 ·intro h;simp only[Ak,Lj,or_false]at h;rcases h with rfl | rfl | rfl
  ·exact Fn.mono (Eg _) (show _∈_ by simp)
  ·exact Fn.mono (Eg _) (show _∈_ by simp)
  ·exact Fn.mono (i:=1) zx<|.inr<|Zvl.2 ⟨1,by show _∈_;simp,rfl⟩
def Ydg:kR Qy.1 Qy.2:=by
 have hf:=Zvd;unfold Uc at hf;unfold kR;rw[uw,Z31]at*;refine⟨⟨_,by show [(rD,[0]),(ay,[1]),(Zm,[1])].length<=60;decide,fun x h=>(hf x).1 h⟩,fun x h=>(hf x).2 ?_⟩;obtain⟨n,q,rfl⟩:=Zvl.1 h;have q:=(hf _).1 q;simp only[Ak,Lj,or_false,Prod.mk.injEq]at q⊢;rcases q with⟨q,_⟩ | ⟨_,q⟩ | ⟨q,_⟩
 ·exact absurd q zu
 ·exact .inr<|.inr ⟨trivial,q⟩
 ·exact absurd q zu
def Z8d:(okW Qy IK.checks).1=true:=by
 have h:jW (Uc Qy.1 Qy.2) [dN 4,sA] jR:=⟨fun _=>0,fun y hy=>by
  have e:(Qh [dN 4,sA] jR).at_=[(Zm,[(⟨#[]⟩,1)]),(rD,[(⟨#[116]⟩,0)])]:=zt
  rw[e]at hy;rw[Zvd];simp only[Ak,Lj,or_false]at hy;rcases hy with rfl | rfl
  ·exact .tail _<|.tail _<|.head _
  ·exact .head _,fun g hg=>by
  have e:(Qh [dN 4,sA] jR).gs=[(3,(⟨#[116]⟩,0),(⟨#[]⟩,2))]:=zt
  rw[e]at hg;have e2:(Jg [dN 4,sA] jR).1=[dN 4,sA,dN 5]:=zt
  rw[Bh.1 hg,e2]
  rfl⟩
 unfold okW;rw[uw];show(Su _ _ [[jR]]).1=true;rw[Su,Je,if_pos h];rfl
def Ygh:pR Qy FQ.checks [YF]=true:=by
 have h:jW (Uc Qy.1 Qy.2) [dN 4,sA] rR:=⟨fun _=>0,fun y hy=>by
  have e:(Qh [dN 4,sA] rR).at_=[(Zm,[(⟨#[]⟩,1)])]:=zt
  rw[e]at hy;rw[Bh.1 hy,Zvd];exact .tail _<|.tail _<|.head _,fun g hg=>by
  have e:(Qh [dN 4,sA] rR).gs=[]:=zt
  rw[e]at hg;cases hg⟩
 unfold pR okW;rw[uw];show(ZL _ (Su _ _ []).2 [YF]).1=true;rw[Su,ZL];show(if(Je _ [dN 4,sA] [rR]).1=true then _ else _:Bool×List T).1=true;rw[Je,if_pos h];rfl
def Yfq:Ux 4 [FQ,IK] [YF]=6:=by
 refine wG.2 ⟨fun y hy=>?_,fun z hz=>?_,FQ,[IK],rfl,Ygh⟩
 ·rw[Z3s]at hy;simp only[Ak,Lj,or_false,or_self]at hy;rw[hy];exact Ydg
 ·rw[Z3s]at hz;simp only[List.zip_cons_cons,List.zip_nil_right,Ak,Lj,or_false]at hz;rcases hz with rfl | rfl
  ·rfl
  ·exact Z8d
end Go.W
namespace Go.P
def gX:ByteArray:=KT false [A7 FQ]<|Bt Vk [A7 FQ]
def Zl:ByteArray:=KT false [A7 FQ,A7 IK]<|O8 (Bt Vk [A7 FQ]) [IK]
def Ybn (V:D9)(CL:Gg){a:Nat->Addr}{w:World}(Z:Oq a w){B:Nat}(hB:B<=w.heap.size)(iB:QA FQ)(iC:QA IK){pp:Option Addr}{cp:Nat}(hp:Ap 2 (Jh B w 4) pp [YF]):
  Calls prog 18 #[.string Vk,.string Zl,.agg #[zo 4,zn,zn],.slice pp 1 cp] w fun e w'=>e= .returned (.tuple #[zo 6,.nilIface])/\Bl w w':=by
 have hch:GZ Hu (bl Zl)= .ok ⟨false,[(A7 FQ,FQ),(A7 IK,IK)],O8 (Bt Vk [A7 FQ]) [IK]⟩:=vS (xs:=[FQ,IK]) zw zw (qy (KZ _) _) fun x hx=>by
  rcases List.mem_cons.mp hx with rfl | hx
  ·exact⟨qG,iB⟩
  ·obtain rfl:=List.mem_singleton.mp hx;exact⟨Z0c,iC⟩
 have hsz:(bl Zl).length<1000000000:=by
  rw[gH];exact jw false zw (fun t ht=>by
   rcases List.mem_cons.mp ht with rfl | ht
   ·exact bL _
   ·obtain rfl:=List.mem_singleton.mp ht;exact bL _)<|qy (KZ _) _
 have h:=Z18 V CL (pq:=none) (rv:=[]) (cq:=0) (cp:=cp) (S:=false) (key:=Vk) (l:=bl Zl) (y0:=(A7 FQ,FQ)) (ys:=[(A7 IK,IK)]) (Aa:=4) Z hB zu hsz hch zw (fun x hx=>by
  simp only[List.map_cons,List.map_nil,Ak,Lj,or_false]at hx;rcases hx with rfl | rfl
  ·exact(vQ qG).1
  ·exact(vQ Z0c).1) ⟨zu,zu⟩ (fun i t h=>by simp at h) zw hp zt
 rw[WY]at h;have e: ∀ ids,IQ [] ids 4 ([(A7 FQ,FQ),(A7 IK,IK)].map (·.2)) [YF]=6:=fun ids=>by
  have:Kz [] ids=false:=by
   cases h:Kz [] ids with
   | false=>rfl
   | true=>obtain⟨t,_,q⟩:=jf.1 h;cases q
  unfold IQ;rw[this];exact Yfq
 rw[e]at h;exact h
end Go.P
