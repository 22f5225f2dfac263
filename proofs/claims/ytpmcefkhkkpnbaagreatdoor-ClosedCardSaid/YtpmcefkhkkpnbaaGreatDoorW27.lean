import Derived.Test.YtpmcefkhkkpnbaaGreatDoorW26
import Derived.DeepKeys
set_option linter.all false
set_option maxRecDepth 100000
set_option maxHeartbeats 8000000
open Go.Proofs Go.RowKit Go.W Tryz
namespace Go.W
def Zyy {xs:List (Ay×Nat)}{s:Ay×Nat}(h:(Dr xs s).2=false):GH s.1 xs 0=none:=by
 unfold Dr at h;split at h
 .cases h
 .simpa using h
def Ur (w:Bb)(o:Obj)(cs:Ca)(e:TypeId):AO ((w.alloc o).alloc<|.cells cs e) (w.heap.size+1) cs e:=by
 have:=AO.new (w.alloc o) cs e
 rwa [EV]at this
def bU (w:Bb)(o o':Obj)(cs:Ca)(e:TypeId):AO (((w.alloc o).alloc o').alloc<|.cells cs e) (w.heap.size+1+1) cs e:=by
 have:=AO.new ((w.alloc o).alloc o') cs e
 rwa [EV,EV]at this
abbrev Fc:=Ay×Cg
abbrev Sl:=Ay×Nat
abbrev Bn:=List<|Ay×Nat
def Dq (x:Fc):Bu:=[um x.1,zo (x.2.length:Int),zo ((x.2[0]?.getD 0:Nat):Int),zo ((x.2[1]?.getD 0:Nat):Int),zo ((x.2[2]?.getD 0:Nat):Int),zo ((x.2[3]?.getD 0:Nat):Int),zo ((x.2[4]?.getD 0:Nat):Int),zo ((x.2[5]?.getD 0:Nat):Int)]
def Z8s (x:Fc)(j:Nat)(hj:j<6):(Dq x)[2+j]?=some (zo ((x.2[j]?.getD 0:Nat):Int)):=by
 have h:j=0\/j=1\/j=2\/j=3\/j=4\/j=5:=zx
 rcases h with rfl | rfl | rfl | rfl | rfl | rfl <;> rfl
def GK:Bn->List Sl->Cg->Bool×Bn
 | xs,[],_=>(true,xs)
 | xs,_::_,[]=>(true,xs)
 | xs,s::ss,v::vs=>if(Dr xs s).2=false then GK (xs++[(s.1,v)]) ss vs else if(Dr xs s).1=v then GK xs ss vs else(false,xs)
def D8 (xs:Bn) (p:Ay×List Sl) (f:Fc):Bool×Bn:=if p.1=f.1/\p.2.length=f.2.length then GK xs p.2 f.2 else(false,xs)
def Znk: ∀ (ss:List Sl) (vs:Cg) (xs:Bn),(GK xs ss vs).2.length<=xs.length+ss.length
 | [],_,xs=>by simp[GK]
 | _::_,[],xs=>by simp[GK]
 | s::ss,v::vs,xs=>by
  rw[GK];have h1:=Znk ss vs<|xs++[(s.1,v)];have h2:=Znk ss vs xs;simp only[JS,DU,JC]at h1⊢;split
  ·omega
  ·split <;> simp <;> omega
def VW (w:Bb) (G:Cg) (b o:Nat) (s:Sl):Prop:=b∈G/\w.cell? (zm b o)=some (um s.1)/\w.cell? (zm b (o+1))=some (zo (s.2:Int))/\s.1.size<1000000000
def Z7j (Bd:Bb->Bn->Value->Cg->Prop) (w:Bb) (O:Cg) (Fo:Cg) (xs:Bn) (ss:List Sl) (vs:Cg) (iv:Value) (wr:Bb):Prop:= ∃ (j:Nat) (xs':Bn) (Br:Value) (Au:Cg),j<=ss.length/\iv= zo (j:Int)/\Bd wr xs' Br Au/\GK xs ss vs=GK xs' (ss.drop j) (vs.drop j)/\Off O w wr/\(∀ i,i∈Au->i∈Fo\/w.heap.size<=i)/\xs'.length<=xs.length+j
def Zx9 {w:Bb}{q o m:Nat}{T:TypeId}{cs:Ca}{xs:Bn}{ov:Value}{Fo:Cg}(h:Bd w q T o m cs xs ov Fo){p:Bp}{c:Nat}{G:Cg}{pt:Ay×List Sl}(hp:Ap 2 (VW w G) p pt.2)(hG: ∀ j,j∈G->j<w.heap.size/\j∉q::m::Fo)(f:Fc)(hf:f.2.length<=6)(hl:xs.length<500):
  Calls prog 226 #[zq q o,.agg #[um pt.1,sP p pt.2.length c],.agg (Dq f).toArray] w fun e w'=>e=uY (.bool (D8 xs pt f).1)/\ ∃ Br Au,Bd w' q T o m cs (D8 xs pt f).2 Br Au/\Off (q::m::Fo) w w'/\ ∀ i,i∈Au->i∈Fo\/w.heap.size<=i:=by
 obtain⟨pn,ss⟩:=pt;obtain⟨fn,vs⟩:=f;dsimp only at hp hf⊢;have FV:=AC<|Z8s (fn,vs);have H:=AC h;have HP:=AC hp;have HG:=AC hG;have QU:=hp.len;have B2:=fun o1 o2=>(zv w o1).alloc zw o2;have LF:=fun o1=>Ur w o1 (Dq (fn,vs)).toArray 147;by_cases hn:pn=fn
 .subst hn;have e1:(pn.toList==pn.toList)=true:=zw
  by_cases hc:ss.length=vs.length
  .have e2:((ss.length:Int) != (vs.length:Int))=false:=by simp[hc]
   have EM:AF (D8 xs (pn,ss) (pn,vs)=GK xs ss vs):=⟨xj ⟨rfl,hc⟩⟩;have HC:=AC hc;rw[EM.o];unfold Dq at LF⊢;dsimp only at LF⊢;clear h hp hG EM hc;go_in
   go_wp2_with fail
   obtain⟨W2,hW2⟩:=cK ((w.alloc<|.cells #[um pn,sP p ss.length c] 226).alloc (.cells #[um pn,zo (vs.length:Int),zo ((vs[0]?.getD 0:Nat):Int),zo ((vs[1]?.getD 0:Nat):Int),zo ((vs[2]?.getD 0:Nat):Int),zo ((vs[3]?.getD 0:Nat):Int),zo ((vs[4]?.getD 0:Nat):Int),zo ((vs[5]?.getD 0:Nat):Int)] 147));have LF2:=AC<|hW2.o▸LF (.cells #[um pn,sP p ss.length c] 226);have BW:=AC<|hW2.o▸B2 (.cells #[um pn,sP p ss.length c] 226) (.cells #[um pn,zo (vs.length:Int),zo ((vs[0]?.getD 0:Nat):Int),zo ((vs[1]?.getD 0:Nat):Int),zo ((vs[2]?.getD 0:Nat):Int),zo ((vs[3]?.getD 0:Nat):Int),zo ((vs[4]?.getD 0:Nat):Int),zo ((vs[5]?.getD 0:Nat):Int)] 147);rw[hW2.o];have hlf:=LF2.o.lt;have hz2:w.heap.size+1<W2.heap.size:=hlf;clear LF B2 hW2;go_loopw [27] (fun iv wr=>Z7j (fun u ys Br Au=>Bd u q T o m cs ys Br Au) W2 (q::m::Fo) Fo xs ss vs iv wr) (fun iv _=>ss.length-(intOf iv).toNat)
   .exact⟨0,xs,ov,Fo,zx,rfl,H.o.of BW.o.size fun k hk=>BW.o.block k (H.o.lt k hk),zw,Off.refl _ _,fun _ h=> .inl h,zx⟩
   .obtain⟨j,ys,Ot,F1,hj,rfl,KJ,IC,IB,Ky,Yc⟩:=hrel;have HB:=AC<|AJ KJ<|AJ IC<|AJ IB Ky;by_cases hlt:j<ss.length
    .obtain⟨b,o1,rfl,hs⟩:=HP.o.get j hlt;obtain⟨WI,s0,s1,hsz⟩:=hs;have hjv:j<vs.length:=fw (HC.o)
     have nT:j<6:=fw (hf)
     have Xc: ∀ k,k∈q::m::Fo->k<w.heap.size:=H.o.lt;have bb:wr.heap[b]?=w.heap[b]?:=(IB.block b (fw ((HG.o b WI).1)) (HG.o b WI).2).trans<|BW.o.block b (HG.o b WI).1;have lT:=(A9 (a:=(zm b (o1+j*2))) bb).trans s0;have lQ:=(A9 (a:=(zm b (o1+j*2+1))) bb).trans s1;have bf:wr.heap[w.heap.size+1]?=W2.heap[w.heap.size+1]?:=IB.block _ hz2 fun h=>fw (Xc _ h)
     have CF:=AC fun u (hu:Bl wr u)=>(A9 (a:=(zm (w.heap.size+1) (2+j)))<|(hu.block (w.heap.size+1)<|BK hz2 IB.size).trans bf).trans ((LF2.o.cell<|2+j).trans<|Array.getElem?_toList.symm.trans<|FV.o j nT);have zM:(j:Int)<6:=zx
     have hv0:vs[j]?.getD 0=vs[j]:=by rw[A8 hjv];rfl
     rw[hv0]at CF;have EM:AF (GK xs ss vs=if(Dr ys ss[j]).2=false then GK (ys++[(ss[j].1,vs[j])]) (ss.drop<|j+1) (vs.drop<|j+1)else if(Dr ys ss[j]).1=vs[j]then GK ys (ss.drop<|j+1) (vs.drop<|j+1)else(false,ys)):=⟨by rw[IC,xH hlt,xH hjv,GK]⟩;have EN:=AC<|Zyy (xs:=ys) (s:=ss[j]);have B3:=fun o3=>zv wr o3;have CO:=AC fun u (hu:Bl wr u)=>Zzz (w:=u) (q:=q) (o:=o) (v:= .map<|some m) (xs:=ys) (.inr ⟨m,rfl,KJ.map.of<|hu.block m KJ.map.lt⟩) ((A9 (a:=(zm q o))<|hu.block q KJ.blk.lt).trans KJ.cells.1) (BK KJ.blk.lt hu.size) (fun k hk=>by injection hk with hk;injection hk with hk;subst hk;exact BK KJ.map.lt hu.size) ss[j] hsz;have CB:=AC fun u (hu:Bl wr u) (h0:GH ss[j].1 ys 0=none)=>Z2a (KJ.of (w':=u) hu.size fun k hk=>hu.block k (KJ.lt k hk)) ss[j].1 vs[j] h0 zx;clear KJ IC IB Ky s0 s1 bb bf hsz Xc nT;generalize ss[j]=s at*;generalize vs[j]=v at*;go_wp2_with fail
     apply(CO.o _<|B3 _).mono;rintro e w1 ⟨rfl,hb1⟩;have z1:=((AO.new wr #[um s.1,zo (s.2:Int)] 298).of<|hb1.block wr.heap.size zw).cell 0;have Vv:=AC<|(B3 _).trans<|hb1.mono zw;have cf:=CF.o _ Vv.o;simp at z1;clear hb1 CO;generalize (Dr ys s).1=v1 at*;generalize (Dr ys s).2=kn at*;cases kn
     .replace EN:AF (GH s.1 ys 0=none):=⟨EN.o rfl⟩
      replace EM:AF (GK xs ss vs=GK (ys++[(s.1,v)]) (ss.drop<|j+1) (vs.drop<|j+1)):=⟨EM.o⟩
      go_wp2
      go_region_with (go_at_call 233;apply(CB.o _ Vv.o.drew EN.o).mono;rintro e w2 ⟨rfl,Q7,F2,KJ,DL,hF2⟩)
      all_goals
       have DJ:AF (Z7j (fun u ys Br Au=>Bd u q T o m cs ys Br Au) W2 (q::m::Fo) Fo xs ss vs (zo ((j+1:Nat):Int)) w2):=⟨j+1,_,Q7,F2,zx,rfl,KJ,EM.o,HB.o.2.2.1.trans ((Off.of (F:=q::m::F1) Vv.o.drew).trans DL fun _ h=> .inl h) (fun i hi=>by
        simp only[Ak]at hi⊢;rcases hi with h | h | h
        .exact .inl<|.inl h
        .exact .inl<|.inr<|.inl h
        .exact(HB.o.2.2.2 i h).imp (fun h=> .inr (.inr h)) id),fun i hi=>(hF2 i hi).elim (HB.o.2.2.2 i) (fun h=> .inr (by have:=Vv.o.size;have:=HB.o.2.2.1.size;simp at h;omega)),zc⟩
       clear KJ DL hF2;go_wp2
       go_roundw
       .simpa using DJ.o
       simp[intOf];omega
     .clear EN CB;replace EM:AF (GK xs ss vs=if v1=v then GK ys (ss.drop<|j+1) (vs.drop<|j+1)else(false,ys)):=⟨EM.o⟩
      have H1:AF (Bd w1 q T o m cs ys Ot F1):=⟨HB.o.1.of Vv.o.size fun k hk=>Vv.o.block k (HB.o.1.lt k hk)⟩;have O1:=AC (HB.o.2.2.1.trans (Off.of (F:=[]) Vv.o) fun _ h=>by cases h);by_cases hv:v1=v
      .have e2:((v1:Int) != (v:Int))=false:=by simp[hv]
       replace EM:AF (GK xs ss vs=GK ys (ss.drop<|j+1) (vs.drop<|j+1)):=⟨EM.o.trans<|xj hv⟩
       have DJ:AF (Z7j (fun u ys Br Au=>Bd u q T o m cs ys Br Au) W2 (q::m::Fo) Fo xs ss vs (zo ((j+1:Nat):Int)) w1):=⟨j+1,ys,Ot,F1,zx,rfl,H1.o,EM.o,O1.o,HB.o.2.2.2,zx⟩;clear hv;go_wp2
       go_roundw
       .simpa using DJ.o
       simp[intOf];omega
      .have e2:((v1:Int) != (v:Int))=true:=zc
       replace EM:AF (GK xs ss vs=(false,ys)):=⟨EM.o.trans<|xd hv⟩
       clear hv;go_wp2
       go_ret
       rw[EM.o];exact⟨rfl,Ot,F1,H1.o,(Off.of BW.o).trans O1.o fun _ h=> .inl h,fun i hi=>(HB.o.2.2.2 i hi).imp id fun h=>Ab BW.o.size h⟩
    .obtain rfl:j=ss.length:=zx
     clear KJ IC IB Ky;go_wp2
     go_ret
     have e:=HB.o.2.1;rw[List.drop_length,GK]at e;rw[e];exact⟨rfl,Ot,F1,HB.o.1,(Off.of BW.o).trans HB.o.2.2.1 fun _ h=> .inl h,fun i hi=>(HB.o.2.2.2 i hi).imp id fun h=>Ab BW.o.size h⟩
  .have e2:((ss.length:Int) != (vs.length:Int))=true:=zc
   have E:AF (D8 xs (pn,ss) (pn,vs)=(false,xs)):=⟨xd fun h=>hc h.2⟩;rw[E.o];unfold Dq;clear LF FV hc;go_in
   go_wp2
   go_ret
   exact⟨rfl,ov,Fo,H.o.of (B2 _ _).size fun k hk=>(B2 _ _).block k (H.o.lt k hk),Off.of<|B2 _ _,fun _ h=> .inl h⟩
 .have e1:(pn.toList==fn.toList)=false:=by rw[vo];simp[hn]
  have E:AF (D8 xs (pn,ss) (fn,vs)=(false,xs)):=⟨xd fun h=>hn h.1⟩;rw[E.o];unfold Dq;clear LF FV;go_in
  go_wp2
  go_ret
  exact⟨rfl,ov,Fo,H.o.of (B2 _ _).size fun k hk=>(B2 _ _).block k (H.o.lt k hk),Off.of<|B2 _ _,fun _ h=> .inl h⟩
def ZS.one {w:Bb}{v:Value}{xs:List (Ay×Nat)}(h:ZS w v xs):v.oneCell'=true:=by
 rcases h with⟨rfl,_⟩ | ⟨m,rfl,_⟩ <;> rfl
def xM (pn:Ay) (n:Nat) (l:Cg):Ca:=#[um pn,zo (n:Int),zo ((l[0]?.getD 0:Nat):Int),zo ((l[1]?.getD 0:Nat):Int),zo ((l[2]?.getD 0:Nat):Int),zo ((l[3]?.getD 0:Nat):Int),zo ((l[4]?.getD 0:Nat):Int),zo ((l[5]?.getD 0:Nat):Int)]
def Z8w (pn:Ay)(n:Nat)(l:Cg)(v:Nat)(h:l.length<6):(xM pn n l).setIfInBounds (2+l.length) (zo (v:Int))=xM pn n (l++[v])/\(xM pn n l)[2+l.length]?=some (zo 0):=by
 match l,h with
 | [],_=>exact⟨rfl,rfl⟩
 | [_],_=>exact⟨rfl,rfl⟩
 | [_,_],_=>exact⟨rfl,rfl⟩
 | [_,_,_],_=>exact⟨rfl,rfl⟩
 | [_,_,_,_],_=>exact⟨rfl,rfl⟩
 | [_,_,_,_,_],_=>exact⟨rfl,rfl⟩
def FF (xs:Bn) (ss:List Sl):Cg:=ss.map fun s=>(Dr xs s).1
def Z62 {xs:Bn}{ss:List Sl}{j:Nat}(h:j<ss.length):FF xs (ss.take<|j+1)=FF xs (ss.take j)++[(Dr xs ss[j]).1]/\(FF xs<|ss.take j).length=j:=by
 refine⟨?_,by simp[FF];omega⟩;unfold FF;rw[PM,A8 h,wb];rfl
def Yhj (W:Bb) (b:Nat) (pn:Ay) (xs:Bn) (ss:List Sl) (iv:Value) (wr:Bb):Prop:= ∃ j:Nat,j<=ss.length/\iv= zo (j:Int)/\Off [b] W wr/\AO wr b (xM pn ss.length<|FF xs<|ss.take j) 147
def Zna {w:Bb}{mv:Value}{xs:Bn}(hm:ZS w mv xs)(hv: ∀ m,mv= .map (some m)->m<w.heap.size)(p:Bp)(n k:Nat){p1:Bp}{c:Nat}{G:Cg}{ss:List Sl}(hp:Ap 2 (VW w G) p1 ss)(hG: ∀ j,j∈G->j<w.heap.size)(h6:ss.length<=6)(pn:Ay):
  Calls prog 112 #[.agg #[um pn,sP p1 ss.length c],.agg #[mv,sP p n k]] w fun e w'=>e=uY (.agg (Dq (pn,FF xs ss)).toArray)/\Bl w w':=by
 have Bw:=ZS.one hm;obtain⟨Z,hZ⟩: ∃ Z:Ca,Z=#[sE,zo 0,zo 0,zo 0,zo 0,zo 0,zo 0,zo 0]:=⟨_,rfl⟩;obtain⟨f0,jD⟩: ∃ f0:Ca,f0=#[um pn,zo (ss.length:Int),zo 0,zo 0,zo 0,zo 0,zo 0,zo 0]:=⟨_,rfl⟩;obtain⟨W4,Eh⟩:=cK ((((w.alloc<|.cells #[um pn,sP p1 ss.length c] 226).alloc<|.cells #[mv,sP p n k] 230).alloc<|.cells Z 147).alloc (.cells f0 147));have B4:AF (Bl w W4):=⟨Eh.o▸((((AR _ w).alloc lr _).alloc zw _).alloc zc _).alloc zc _⟩;have S4:AF (W4.heap.size=w.heap.size+4):=⟨by rw[<- Eh.o];simp⟩;have L1:AF (AO W4 (w.heap.size+1) #[mv,sP p n k] 230):=⟨Eh.o▸((Ur w _ _ _).alloc _).alloc _⟩;have L2:AF (AO W4 (w.heap.size+1+1) Z 147):=⟨Eh.o▸(bU w _ _ _ _).alloc _⟩;have L3:AF (AO W4 (w.heap.size+1+1+1) f0 147):=⟨Eh.o▸by have:=AO.new (((w.alloc<|.cells #[um pn,sP p1 ss.length c] 226).alloc<|.cells #[mv,sP p n k] 230).alloc<|.cells Z 147) f0 147;rwa [EV,EV,EV]at this⟩;have hlen:=hp.len;have HP:=AC hp;have HG:=AC hG;have CO:=AC fun u (hu:Off [w.heap.size+1+1+1] W4 u) s (hs:s.1.size<1000000000)=>Zzz (w:=u) (q:=w.heap.size+1) (o:=0) (v:=mv) (xs:=xs) (hm.of fun m h=>(hu.block m (jE (hv m h) (S4.o)) (fun e=>jE (hv m h) (Bh.1 e))).trans (B4.o.block m<|hv m h)) ((A9 (a:=(zm (w.heap.size+1) 0))<|hu.block _ L1.o.lt zw).trans<|L1.o.cell 0) (BK L1.o.lt hu.size) (fun m h=>by have:=hv m h;have:=S4.o;have:=hu.size;omega) s hs;clear hm hv hp hG;subst hZ jD;go_in
 go_wp2_with fail
 rw[Eh.o];clear Eh;have K0:=AC<|L3.o.of rfl;have hz:=S4.o;go_loopw [17] (fun iv wr=>Yhj W4 (w.heap.size+1+1+1) pn xs ss iv wr) (fun iv _=>ss.length-(intOf iv).toNat)
 .exact⟨0,zx,rfl,Off.refl _ _,K0.o⟩
 .obtain⟨j,hj,rfl,IB,Bo⟩:=hrel;have HO:=AC IB;by_cases hlt:j<ss.length
  .obtain⟨b,o1,rfl,hs⟩:=HP.o.get j hlt;obtain⟨WI,s0,s1,hsz⟩:=hs;have Af:=HG.o b WI;have bb:wr.heap[b]?=w.heap[b]?:=(IB.block b zx fun e=>fw (Bh.1 e)).trans<|B4.o.block b Af;have lT:=(A9 (a:=(zm b (o1+j*2))) bb).trans s0;have lQ:=(A9 (a:=(zm b (o1+j*2+1))) bb).trans s1;have C1:=AC fun o=>CO.o (wr.alloc o) (IB.alloc o) ss[j] hsz;obtain⟨ev,el⟩:=Z62 (xs:=xs) hlt;obtain⟨e1,e2⟩:=Z8w pn ss.length (FF xs<|ss.take j) (Dr xs ss[j]).1 zx;rw[el,<- ev]at e1;rw[el]at e2;have E1:=AC e1;have E2:=AC e2;have HK:=AC Bo;have hbl:=Bo.lt;have zM:(j:Int)<6:=zx
   have B3:=fun o3=>zv wr o3;clear s0 s1 bb hsz Bo IB e1 e2 ev el;generalize ss[j]=s at*;go_wp2_with fail
   apply(C1.o _).mono;rintro e w1 ⟨rfl,hb1⟩;have Vv:=AC<|(B3 _).trans<|hb1.mono zw;have K1:=AC<|HK.o.of<|Vv.o.block _ hbl;have y2:=(K1.o.cell<|2+j).trans E2.o;have sf:=K1.o.soft;clear hb1 C1;go_wp2
   go_roundw
   .exact⟨j+1,zx,by go_num,(HO.o.trans (Off.of (F:=[]) Vv.o) fun _ h=>by cases h).set _ _ _ zw,E1.o▸K1.o.set (2+j) _⟩
   simp[intOf];omega
  .obtain rfl:j=ss.length:=zx
   have HK:=AC Bo;rw[On]at HK;have K2:=AC<|L2.o.of<|IB.block (w.heap.size+1+1) L2.o.lt zw;obtain⟨y0,y1,y2,y3,y4,y5,y6,y7,sf⟩:=HK.o.eight;obtain⟨x0,x1,x2,x3,x4,x5,x6,x7,sx⟩:=K2.o.eight;have HB:=AC<|B4.o.trans<|IB.be (B:=w.heap.size) zc zx;have JE:(FF xs ss).length=ss.length:=by simp[FF]
   clear Bo IB;go_wp2
   refine Bg (by simp[results,results112,go_sem,x0,x1,x2,x3,x4,x5,x6,x7];try rfl) rfl ?_;have hle:w.heap.size<=w.heap.size+1+1:=zx
   refine⟨by unfold Dq;rw[JE],?_⟩;exact((((((((HB.o.setCell (p:=(zm (w.heap.size+1+1) 0)) hle _).setCell (p:=(zm (w.heap.size+1+1) 1)) hle _).setCell (p:=(zm (w.heap.size+1+1) 2)) hle _).setCell (p:=(zm (w.heap.size+1+1) 3)) hle _).setCell (p:=(zm (w.heap.size+1+1) 4)) hle _).setCell (p:=(zm (w.heap.size+1+1) 5)) hle _).setCell (p:=(zm (w.heap.size+1+1) 6)) hle _).setCell (p:=(zm (w.heap.size+1+1) 7)) hle _)
structure GY (x:Fc):Prop where
 name:x.1.size<=1000000
 len:x.2.length<=6
 val: ∀ v,v∈x.2->v<1000000000
def GY.at_ {x:Fc}(h:GY x)(i:Nat):x.2[i]?.getD 0<1000000000:=by
 cases hi:x.2[i]? with
 | none=>simp
 | some v=>exact h.val v<|Ej hi
def TW (w:Bb) (r:Nat) (fs:List Fc):Prop:= ∃ es clock,w.heap[r]?=some (.map es clock)/\es.toList.map (fun e=>(e.key,e.val))=fs.map fun x=>(Value.agg (Dq x).toArray,Value.agg #[])
def Zku {P:Program}{kt:TypeId}{k:Value}{w:Bb}{x:Fc}: ∀ (l:List MapEntry) (fs:List Fc) (i:Nat),l.map (fun e=>(e.key,e.val))=fs.map (fun x=>(Value.agg (Dq x).toArray,Value.agg #[]))->(∀ y,y∈fs->(Op.equal kt k<|.agg (Dq y).toArray).run P w= .ok (decide<|x=y) w)-> ∃ r,(Instr.findAsking kt k l i).run P w= .ok r w/\((x∉fs/\r=none)\/(x∈fs/\ ∃ j,r=some (j,.agg #[])))
 | [],fs,i,h,_=>by
  obtain rfl:fs=[]:=by simpa using h.symm
  exact⟨none,rfl,.inl ⟨zw,rfl⟩⟩
 | e::l,[],i,h,_=>by simp at h
 | e::l,y::fs,i,h,hq=>by
  rw[xp,xp]at h;injection h with h1 h2;injection h1 with hk hv;unfold Instr.findAsking;rw[hk];simp only[Uz,hq y zw,Vs];by_cases dD:x=y
  .simp only[dD,decide_true,if_true];exact⟨_,rfl,.inr ⟨zw,i,by rw[hv]⟩⟩
  .rw[I8 dD];obtain⟨r,h3,h4⟩:=Zku l fs (i+1) h2 fun z hz=>hq z (by simp[hz]);refine⟨r,h3,?_⟩;rcases h4 with⟨h4,h5⟩ | ⟨h4,h5⟩
   .exact .inl ⟨by simp[dD,h4],h5⟩
   .exact .inr ⟨by simp[h4],h5⟩
variable {w:Bb}{r:Nat}
def Zx7 {x:Fc}(h:GY x):prog.keyLits 3 147 (Dq x)=some [.string x.1.data.toList,.int .i64 (x.2.length:Int),.int .i64 ((x.2[0]?.getD 0:Nat):Int),.int .i64 ((x.2[1]?.getD 0:Nat):Int),.int .i64 ((x.2[2]?.getD 0:Nat):Int),.int .i64 ((x.2[3]?.getD 0:Nat):Int),.int .i64 ((x.2[4]?.getD 0:Nat):Int),.int .i64 ((x.2[5]?.getD 0:Nat):Int)]:=by
 have c1:prog.cellsOf 147=8:=zt
 have c2:prog.cellsOf 9=1:=zt
 have c3:prog.cellsOf 3=1:=zt
 have c4:prog.cellsOf 145=6:=zt
 have wf: ∀ n:Nat,n<1000000000->(Lit.int .i64 (n:Int)).wf=true:=fun n hn=>by
  have e1:IntKind.i64.min= -9223372036854775808:=zu
  have e2:IntKind.i64.max=9223372036854775807:=zu
  simp only[Lit.wf,e1,e2,wx,wA];omega
 have hi:=wf _ (show x.2.length<1000000000 by have:=h.len;omega);have h0:=wf _<|h.at_ 0;have h1:=wf _<|h.at_ 1;have h2:=wf _<|h.at_ 2;have h3:=wf _<|h.at_ 3;have h4:=wf _<|h.at_ 4;have h5:=wf _<|h.at_ 5;have ha:x.1.size<=maxLen:=Ab h.name zu;unfold Dq;generalize x.2[0]?.getD 0=v0 at*;generalize x.2[1]?.getD 0=v1 at*;generalize x.2[2]?.getD 0=v2 at*;generalize x.2[3]?.getD 0=v3 at*;generalize x.2[4]?.getD 0=v4 at*;generalize x.2[5]?.getD 0=v5 at*;simp[Program.keyLits,underlying147,underlying9,underlying3,underlying145,c1,c2,c3,c4,ha,hi,h0,h1,h2,h3,h4,h5,List.range_succ]
def Z6w {a b:Ay}(h:a.data.toList=b.data.toList):a=b:=by
 obtain⟨⟨a⟩⟩:=a;obtain⟨⟨b⟩⟩:=b;simp at h;rw[h]
def Yjz {l m:Cg}(hl:l.length<=6)(h:l.length=m.length)(h0: ∀ i,i<6->l[i]?.getD 0=m[i]?.getD 0):l=m:=by
 refine List.ext_getElem h fun i h1 h2=>?_
 have:=h0 i zx
 rwa [A8 h1,A8 h2]at this
def Yb4 {x y:Fc}(hx:GY x)(hy:GY y)(w:Bb):(Op.equal 147 (.agg (Dq x).toArray)<|.agg (Dq y).toArray).run prog w= .ok (decide<|x=y) w:=by
 have key:prog.keyTypeAt 3 147=true:=zt
 have fm: ∀ z:Fc,(Value.agg (Dq z).toArray).formed prog 147=true:=fun z=>zt
 obtain⟨r,h1,h2⟩:=run_equalIn_deep (P:=prog) 9997 3 _ key w 3 3 (.agg (Dq x).toArray) (.agg (Dq y).toArray) _ _ (fm x) (fm y) (Zx7 hx)<|Zx7 hy;have eu:(Op.equal 147 (.agg (Dq x).toArray)<|.agg (Dq y).toArray).run prog w= .ok r w:=h1;have hr:r=decide (x=y):=?_
 .rw[eu,hr]
 by_cases e:x=y
 .subst e;rw[Nv rfl];exact h2.2 rfl
 .rw[I8 e];cases r with
  | false=>rfl
  | true=>
   exfalso
   have q:=h2.1 rfl;simp only[List.cons.injEq,Lit.string.injEq,Lit.int.injEq,true_and,and_true,Int.natCast_inj]at q;obtain⟨q0,q1,q2,q3,q4,q5,q6,q7⟩:=q;refine e<|Prod.ext ?_ (Yjz hx.len q1 fun i hi=>?_)
   .exact Z6w q0
   .have h:i=0\/i=1\/i=2\/i=3\/i=4\/i=5:=zx
    rcases h with rfl | rfl | rfl | rfl | rfl | rfl <;> assumption
def Zlu (x:Fc)(b:Bool)(w:Bb):(Instr.checkKey b 10000 147<|.agg (Dq x).toArray).run prog w= .ok () w:=zt
def Zn8 {x:Fc}{fs:List Fc}(hx:GY x)(hn: ∀ y,y∈fs->GY y)(l:List MapEntry)(hl:l.map (fun e=>(e.key,e.val))=fs.map fun x=>(Value.agg (Dq x).toArray,Value.agg #[])): ∃ r,(Instr.findKey 147 (.agg (Dq x).toArray) l).run prog w= .ok r w/\((x∉fs/\r=none)\/(x∈fs/\ ∃ j,r=some (j,.agg #[]))):=by
 obtain⟨r,h1,h2⟩:=Zku (P:=prog) (kt:=147) (k:= .agg (Dq x).toArray) (w:=w) (x:=x) l fs 0 hl fun y hy=>Yb4 hx (hn y hy) w;refine⟨r,?_,h2⟩;unfold Instr.findKey;simp only[Uz,J5 underlying147,Vs];cases l with
 | nil=>exact h1
 | cons e l=>exact h1
def Z0w {x:Fc}{fs:List Fc}(h:TW w r fs)(hx:GY x)(hn: ∀ y,y∈fs->GY y): ∃ b:Bool,(b=true↔x∈fs)/\(Instr.lookup 141 (.map<|some r) (.agg (Dq x).toArray) true).run prog w= .ok (.tuple #[.agg #[],.bool b]) w:=by
 obtain⟨es,clock,hb,hm⟩:=h;have hz:(zeroValue 296).run prog w= .ok (.agg #[]) w:=zt
 have FP:=Zlu x es.isEmpty w;have hgo:=Zi (P:=prog) hb;obtain⟨r,E8,hr⟩:=Zn8 (w:=w) hx hn es.toList hm;rcases hr with⟨h1,rfl⟩ | ⟨h1,j,rfl⟩
 .exact⟨false,by simp[h1],by simp[Instr.lookup,J5 underlying141,hgo,E8,hz,FP]⟩
 .exact⟨true,by simp[h1],by simp[Instr.lookup,J5 underlying141,hgo,E8,FP]⟩
def Z1s {x:Fc}{fs:List Fc}(h:TW w r fs)(hx:GY x)(hn: ∀ y,y∈fs->GY y)(Bi:x∉fs): ∃ o,(Instr.mapUpdate 141 (.map<|some r) (.agg (Dq x).toArray)<|.agg #[]).run prog w= .ok () {w with heap:=w.heap.setIfInBounds r o}/\TW {w with heap:=w.heap.setIfInBounds r o} r (fs++[x]):=by
 obtain⟨es,clock,hb,hm⟩:=h;have FP:=Zlu x false w;have hgo:=Zi (P:=prog) hb;obtain⟨r',E8,hr⟩:=Zn8 (w:=w) hx hn es.toList hm;rcases hr with⟨_,rfl⟩ | ⟨h1,_⟩
 .have UJ:=Go.MapKept.run_setObj_map (P:=prog) (.map (es.push {key:= .agg (Dq x).toArray,val:= .agg #[],born:=clock})<|clock+1) hb;refine⟨.map (es.push {key:= .agg (Dq x).toArray,val:= .agg #[],born:=clock})<|clock+1,?_,es.push {key:= .agg (Dq x).toArray,val:= .agg #[],born:=clock},clock+1,(Go.MapKept.heap_set hb).1,?_⟩
  .simp[Instr.mapUpdate,J5 underlying141,hgo,FP,E8,UJ]
  .simp[hm]
 .exact absurd h1 Bi
end Go.W
set_option linter.unusedSectionVars false
namespace Go.W
section
variable {w w':Bb}{vs:Bu}{F:Cg}{r:Nat}
variable [Mem]
def TH:Du Fc:=fun _ vs x F=>F=[]/\vs=Dq x
def TH.sb:Ii TH:=fun _ _ _ _ _ h _=>h
def TH.one {x:Fc}(h:TH w vs x F): ∀ u,u∈vs->u.oneCell'=true:=by
 obtain⟨_,rfl⟩:=h;intro u hu;simp[Dq]at hu;rcases hu with rfl | rfl | rfl | rfl | rfl | rfl | rfl | rfl <;> rfl
def Ni:Du T:=fun _ vs x F=>F=[]/\ ∃ p c,vs=[zo x.k,zo x.i,um x.t,sP p x.l.length c]/\Ap 4 Mem.S p x.l
def Ap.memS {B d:Nat}{p:Bp}{l:List T}(h:Ap 4 (He B w d) p l):Ap 4 Mem.S p l:=h.cy fun b o y h=>by
 cases d with
 | zero=>exact h.elim
 | succ d=>exact h.1.2
def Ni.sb:Ii Ni:=fun _ _ _ _ _ h _=>h
def Ni.one {x:T}(h:Ni w vs x F): ∀ u,u∈vs->u.oneCell'=true:=by
 obtain⟨_,p,c,rfl,_⟩:=h;intro u hu;simp at hu;rcases hu with rfl | rfl | rfl | rfl <;> rfl
def Ug.of {bs:List Ay}(h:Ug w r bs)(hb:w'.heap[r]?=w.heap[r]?):Ug w' r bs:=by
 obtain⟨es,c,h1,h2⟩:=h;exact⟨es,c,hb.trans h1,h2⟩
def TW.of {fs:List Fc}(h:TW w r fs)(hb:w'.heap[r]?=w.heap[r]?):TW w' r fs:=by
 obtain⟨es,c,h1,h2⟩:=h;exact⟨es,c,hb.trans h1,h2⟩
def bS (vs:List T) (x:T):Nat:=(TP (C8 x) (vs.map C8) 0).getD vs.length
def Wz (vs:List T) (x:T):List T:=if(TP (C8 x) (vs.map C8) 0).isSome then vs else vs++[x]
end
section
variable {w w':Bb}{p n B b:Nat}{vs:List T}{F:Cg}{s:Ay}
variable [Mem]
structure Wd (w:Bb) (p:Nat) (fs:List Fc) (vs:List T) (F:Cg) (k r:Nat) (fv vv:Value) (Ff Fv:Cg):Prop where
 blk:AO w p #[fv,.map<|some k,vv,.map<|some r] 144
 fa:AQ 147 8 TH w fv fs Ff
 vals:AQ 95 4 Ni w vv vs Fv
 know:TW w k fs
 num:Ug w r (vs.map C8)
 own:F=p::k::r::(Ff++Fv)
 new:Ag 0 w F
def Df (w:Bb) (p:Nat) (fs:List Fc) (vs:List T) (F:Cg):Prop:= ∃ k r fv vv Ff Fv,Wd w p fs vs F k r fv vv Ff Fv
def Df.of {fs:List Fc}(h:Df w p fs vs F)(hs:w.heap.size<=w'.heap.size)(hb: ∀ k,k∈F->w'.heap[k]?=w.heap[k]?):Df w' p fs vs F:=by
 obtain⟨k,r,fv,vv,Ff,Fv,h⟩:=h;have e:=h.own;subst e;exact⟨k,r,fv,vv,Ff,Fv,h.blk.of<|hb _ zw,AQ.sb TH.sb _ _ _ _ _ h.fa fun j hj=>hb j (by simp[hj]),AQ.sb Ni.sb _ _ _ _ _ h.vals fun j hj=>hb j (by simp[hj]),h.know.of<|hb _ zw,h.num.of<|hb _ zw,rfl,h.new.la lr hs⟩
def Df.lt {fs:List Fc}(h:Df w p fs vs F): ∀ k,k∈F->k<w.heap.size:=by
 obtain⟨k,r,fv,vv,Ff,Fv,h⟩:=h;exact h.new.lt
def Df.off {fs:List Fc}{G:Cg}(h:Df w p fs vs F)(k:Off G w w')(hd: ∀ j,j∈F->j∉G):Df w' p fs vs F:=
 h.of k.size fun j hj=>k.block j (h.lt j hj) (hd j hj)
def Zq (B b:Nat) (s:Ay) (w:Bb):Prop:= ∃ g c cur p T fb fg,B<=g/\w.heap[b]?=some (.cells #[p,sP (Qb g 0) s.size c] T fb)/\w.heap[g]?=some (.cells cur 5 fg)/\cur.toList.take s.size=Lib.strCells s/\s.size<=cur.size/\0<s.size/\s.size<1000000000/\c≠0
def Zn9 {a:Addr}{k:Nat}{c:Ca}{e:TypeId}{fr:Nat×Nat}(h:w.heap[k]?=some (.cells c e fr)): ∃ fr',(w.freeze a n).heap[k]?=some (.cells c e fr'):=by
 unfold World.freeze;split
 .exact⟨fr,h⟩
 .simp only[Array.getElem?_modify,h];split
  .exact⟨_,rfl⟩
  .exact⟨fr,rfl⟩
def Zq.of {T:Nat}(h:DV T B b s w)(hs:s.size<1000000000)(h0:0<s.size):Zq B b s w:=by
 obtain⟨p,va,vc,Bo,hown,Px⟩:=h.form;rcases hown.2 with⟨_,hz⟩ | ⟨g,cap,cur,hv,jL,hg,hnc,hcm,hcs,Kv⟩
 .omega
 injection hv with Et hv2 hv3;subst Et hv3;exact⟨g,vc,cur,p,T,(0,0),(0,0),jL,Bo,hg,by simpa using Kv,zx,h0,hs,zx⟩
def Zq.freeze {g:Nat}(h:Zq B b s w):Zq B b s (w.drew.freeze (zm g 0) n):=by
 obtain⟨g',c,cur,p,T,fb,fg,h1,h2,h3,h4⟩:=h;obtain⟨fb',k2⟩:=Zn9 (a:=(zm g 0)) (n:=n) (w:=w.drew) h2;obtain⟨fg',k3⟩:=Zn9 (a:=(zm g 0)) (n:=n) (w:=w.drew) h3;exact⟨g',c,cur,p,T,fb',fg',h1,k2,k3,h4⟩
def Znw (h:Zq B b s w):
  Calls prog 58 #[zq b 0] w fun e w'=>e=uY (um s)/\Zq B b s w'/\Fr B b w w':=by
 have H:=AC h;obtain⟨g,c,cur,p,T,fb,fg,jL,hb,hg,Kv,hle,h0,hs,hc⟩:=h;have c1:w.cell? (zm b 1)=some (sP (Qb g 0) s.size c):=cell_of_row w b 1 _ T fb hb;have tF:w.drew.shape? g=some (5,cur.size):=by have Yi:w.drew.heap[g]?=some (.cells cur 5 fg):=hg;simp[World.shape?,Yi]
 have hne:s.data.toList≠[]:=fun q=>absurd h0 (by show ¬ 0<s.data.size;rw[<- Vp,q];simp);have uK:=fun u=>Lib.run_unsafeSliceData_row (P:=prog) u #[149] 240 (zm g 0) s.size c hc;have hUS:(Builtin.unsafeString_ #[240,3] 9 #[zq g 0,zo (s.size:Int)]).run prog w.drew= .ok (um s) (w.drew.freeze (zm g 0) s.size):=
  Lib.run_unsafeString_row w.drew 240 3 9 5 underlying240 Zp8 g cur.size tF s.data.toList hne (by rw[Vp];exact hle) (by rw[Vp];show s.size<=_;omega) (fun j x hx=>by
   have hj:j<s.size:=by have:=(DW.1 hx).1;rwa [Vp]at this
   rw[Addr.add_lit,Gx,show(w.drew).cell? (zm g j)=cur[j]? from cell_of_row w.drew g j cur 5 fg hg,<- Qq];have e1:(cur.toList.take s.size)[j]?=cur.toList[j]?:=List.getElem?_take_of_lt hj;rw[<- e1,Kv];simp[Lib.strCells,hx])
 have KG:AF (∀ (k:Nat) (cs:Ca) (t:TypeId) (fz:Nat×Nat),t≠5->w.heap[k]?=some (Obj.cells cs t fz)->(w.drew.freeze (zm g 0) s.size).heap[k]?=some (Obj.cells cs t fz)):=⟨fun k cs t fz ht q=>by
  have hk:k≠g:=fun e=>by
   rw[e,hg]at q;cases q;exact ht rfl
  unfold World.freeze;split
  .exact q
  .simp only[Array.getElem?_modify];rw[xd<|Ne.symm hk];exact q⟩
 clear tF hle hb hg Kv;go_in
 go_wp2
 go_region
 all_goals (go_wp2;go_ret;exact⟨rfl,H.o.freeze,Lib.below_freeze ((AR B w).drew) (p:=(zm g 0)) jL _,fun k cs t fz _ ht q=>KG.o k cs t fz ht q⟩)
end
variable {e:TypeId}{s g cap j m:Nat}{w:Bb}{F:Cg}{v:Value}
def AQ.last {α:Type}{Q:Du α}(hQ:Ii Q)(hF: ∀ w vs x F,Q w vs x F->F=[]){xs:List α}{y:α}(h:AQ e s Q w (sP (Qb g 0) (xs.length+1) cap) (xs++[y]) F):
  ∃ cur A cs R,AO w g cur e/\cur=(A++(cs++R)).toArray/\A.length=xs.length*s/\cs.length=s/\Q w cs y []/\ ∀ w' cs' x,AO w' g (A++(cs'++R)).toArray e->cs'.length=s->Q w' cs' x []->AQ e s Q w' (sP (Qb g 0) (xs.length+1) cap) (xs++[x]) F:=by
 obtain⟨zs,hown,hz,hx,rfl,hl⟩:=h;obtain⟨zs,z,rfl⟩: ∃ zs' z,zs=zs'++[z]:=by
  cases hzs:zs.reverse with
  | nil=>
   have:=List.reverse_eq_nil_iff.1 hzs
   subst this;simp at hx
  | cons z r=>exact⟨r.reverse,z,by have:=congrArg List.reverse hzs;simpa using this⟩
 rw[wb]at hx;obtain⟨rfl,hy⟩:=List.append_inj' hx rfl;simp at hy;subst hy;obtain⟨hzl,yO⟩:=hz z zw;have hz2:=hF _ _ _ _ yO;rw[hz2]at yO;have hall: ∀ (l:List (List Value×α×Cg)),(∀ z,z∈l->z.1.length=s)->((l.map (·.1)).flatten).length=l.length*s:=by
  intro l;induction l with
  | nil=>intro _;simp
  | cons a l ih=>intro hh;simp[hh a zw,ih fun z hz=>hh z (by simp[hz]),Nat.succ_mul,Nat.add_comm]
 have hA:=hall zs fun z hm=>(hz z (by simp[hm])).1;rcases hown.2 with⟨hv,h0⟩ | ⟨g',cap',cur,hv,h1,h2,h3,h4,h5,h6⟩
 .simp at h0
 injection hv with Et hv2 hv3;injection Et with Et;injection Et with Et;subst Et hv3;have UQ:cur.toList=(zs.map (·.1)).flatten++(z.1++cur.toList.drop ((zs++[z]).length*s)):=by
  have e1:=List.take_append_drop ((zs++[z]).length*s) cur.toList;rw[h6]at e1;simpa using e1.symm
 refine⟨cur,(zs.map (·.1)).flatten,z.1,cur.toList.drop<|(zs++[z]).length*s,h2,by rw[<- UQ],by rw[hA];simp,hzl,yO,fun w' cs' x hb hc hq=>?_⟩;refine⟨zs++[(cs',x,[])],⟨by rw[wb,List.flatten_append,JS,hA];simp[hc,Nat.succ_mul],.inr ⟨g,cap,_,zw,h1,hb,by simpa using h3,h4,?_,?_⟩⟩,?_,zw,by simp[hz2,Value.ownBlock],by simpa using hl⟩
 .have:=congrArg List.length UQ
  simp[hzl,hc]at this⊢;omega
 .rw[JS,List.length_singleton,Nat.succ_mul,<- hA,<- hc,<- JB];have e1:(zs.map (·.1)).flatten.length+cs'.length=((zs.map (·.1)).flatten++cs').length:=zw
  rw[e1];simp only[List.take_left'];simp
 .intro z' hm;rcases Aj.1 hm with hm | hm
  .refine⟨(hz z' (by simp[hm])).1,?_⟩;have iq:=(hz z' (by simp[hm])).2;have e:=hF _ _ _ _ iq;exact hQ w w' _ _ _ iq (by rw[e];intro k hk;cases hk)
  .simp at hm;subst hm;exact⟨hc,hq⟩
def AQ.own {α:Type}{Q:Du α}{n c:Nat}{xs:List α}(h:AQ e s Q w (sP (Qb g 0) n c) xs F):g∈F:=by
 obtain⟨_,_,_,_,rfl,_⟩:=h;simp[Value.ownBlock]
def O7.bq {α:Type}{Q:Du α}{B:Nat}{w1:Bb}{xs:List α}{y:α}{F':Cg}(h:O7 e s Q B w w1 xs F [] y g cap F')(hj:j<w.heap.size)(hn:j∉F):j∉F':=fun hF=>by
 rcases h.sub j hF with h | h | h
 ·exact hn h
 ·cases h
 ·omega
def AQ.nth {α:Type}{Q:Du α}{xs:List α}(h:AQ e s Q w v xs F)(i:Nat)(x:α)(hx:xs[i]?=some x): ∃ g cap cs G,v= sP (Qb g 0) xs.length cap/\g∈F/\Q w cs x G/\ ∀ j u,cs[j]?=some u->w.cell? (zm g (i*s+j))=some u:=by
 obtain⟨zs,hown,hz,rfl,rfl,hl⟩:=h;rw[FK]at hx;obtain⟨z,dC,rfl⟩:=QP.1 hx;obtain⟨hz1,hz2⟩:=hz z<|Ej dC;have Ye:=(DW.1 dC).1;rcases hown.2 with⟨rfl,h0⟩ | ⟨g,cap,cur,rfl,h1⟩
 .omega
 refine⟨g,cap,z.1,z.2.2,zw,by simp[Value.ownBlock],hz2,fun j v hj=>?_⟩;have hj4:j<s:=fw ((DW.1 hj).1)
 have hall: ∀ (l:List (List Value×α×Cg)) (n:Nat),(∀ z,z∈l->z.1.length=s)->l[n]?=some z->(l.map (·.1)).flatten[n*s+j]?=some v:=by
  intro l;induction l with
  | nil=>intro n _ h;simp at h
  | cons a l ih=>
   intro n hh hn;have ha:=hh a zw;cases n with
   | zero=>
    simp at hn;subst hn;simp only[xp,List.flatten_cons,YC,Gx];rw[PK zx];exact hj
   | succ n=>
    simp only[xp,List.flatten_cons];rw[PL (by rw[ha,Nat.succ_mul];omega),show(n+1)*s+j-a.1.length=n*s+j by rw[ha,Nat.succ_mul];omega];exact ih n (fun z hz=>hh z (by simp[hz])) (by simpa using hn)
 have:=hown.cells (g:=g) rfl (i*s+j) v<|hall zs i (fun z hm=>(hz z hm).1) dC
 simpa[Addr.add_lit]using this
def vY {A cs R:Bu}(hb:AO w g (A++(cs++R)).toArray e)(hA:A.length=m)(j:Nat)(v:Value)(hj:cs[j]?=some v):w.cell? (zm g (m+j))=some v:=by
 rw[hb.cell,Tu,PL zx,show m+j-A.length=j by omega,PK (DW.1 hj).1,hj]
def uo {A B R:Bu}{y:Value}(hA:A.length=m)(hB:B.length=j):(A++(B++y::R)).toArray.setIfInBounds (m+j) v=(A++(B++v::R)).toArray:=by
 rw[List.setIfInBounds_toArray,List.set_append_right _ _ zx,show m+j-A.length=j by omega,List.set_append_right _ _ zx,show j-B.length=0 by omega];rfl
end Go.W
set_option linter.unusedSectionVars false
namespace Go.W
section
variable [Mem]
def Ni.nil: ∀ (w:Bb) (vs:Bu) (x:T) (F:Cg),Ni w vs x F->F=[]:=fun _ _ _ _ h=>h.1
def T0:T:= .mk 0 0 ⟨#[]⟩ []
def Ug.lt {w:Bb}{r:Nat}{bs:List Ay}(h:Ug w r bs):r<w.heap.size:=by
 obtain⟨es,c,h,_⟩:=h;exact(PN.1 h).1
end
section
variable {w w' W:Bb}{p k r g m:Nat}{vs:List T}{F Ff Fv:Cg}{fv vv v0 v1 v2 v3:Value}
variable [Mem]
def Ya9 {P:Program}{c:Code}{K:Act->Bb->Prop}{Q:Exit->Act->Bb->Prop}{a:Act}(K3:Act->Bb->Prop)(h:c.wp P (Exit.then K3 Q) a w)(hk: ∀ a w,K3 a w->K a w):c.wp P (Exit.then K Q) a w:=
 Code.wp_mono (fun e a w q=>by cases e <;> first | exact hk _ _ q | exact q) h
def Wd.of {fs:List Fc}(h:Wd w p fs vs F k r fv vv Ff Fv)(hs:w.heap.size<=w'.heap.size)(hb: ∀ k,k∈F->w'.heap[k]?=w.heap[k]?):Wd w' p fs vs F k r fv vv Ff Fv:=by
 have e:=h.own;subst e;exact⟨h.blk.of<|hb _ zw,AQ.sb TH.sb _ _ _ _ _ h.fa fun j hj=>hb j (by simp[hj]),AQ.sb Ni.sb _ _ _ _ _ h.vals fun j hj=>hb j (by simp[hj]),h.know.of<|hb _ zw,h.num.of<|hb _ zw,rfl,h.new.la lr hs⟩
def Wd.be {fs:List Fc}(h:Wd w p fs vs F k r fv vv Ff Fv)(hb:Bl w w'):Wd w' p fs vs F k r fv vv Ff Fv:=h.of hb.size fun j hj=>hb.block j (h.new.lt j hj)
def Wd.apart {fs:List Fc}(h:Wd w p fs vs F k r fv vv Ff Fv):(p≠k/\p≠r/\p∉Ff/\p∉Fv)/\(k≠r/\k∉Ff/\k∉Fv)/\(r∉Ff/\r∉Fv)/\Ff.Nodup/\Fv.Nodup/\ ∀ a,a∈Ff->a∉Fv:=by
 have nd:=h.new.once;rw[h.own]at nd;simp only[List.nodup_cons,Ak,Aj,not_or,Mc]at nd;exact⟨nd.1,nd.2.1,nd.2.2.1,nd.2.2.2.1,nd.2.2.2.2.1,fun a ha hb=>nd.2.2.2.2.2 a ha a hb rfl⟩
def Yea (w6 W:Bb) (p o g m:Nat) (sv:Value) (cs:Bu):Prop:=(∀ e A old R,AO w6 g (A++(old++R)).toArray e->A.length=m->old.length=cs.length->p≠g->AO W g (A++(cs++R)).toArray e)/\(∀ e vs,AO w6 p vs e->p≠g->AO W p (vs.setIfInBounds o sv) e)/\(∀ j,j≠p->j≠g->W.heap[j]?=w6.heap[j]?)/\W.heap.size=w6.heap.size/\W.os=w6.os/\W.tape=w6.tape/\W.output=w6.output
def Yiz {e:TypeId}{A old R:Bu}(h:AO w g (A++(old++R)).toArray e)(hA:A.length=m)(ho:old.length=4):AO ((((w.setCell (zm g m) v0).setCell (zm g (m+1)) v1).setCell (zm g (m+2)) v2).setCell (zm g (m+3)) v3) g (A++([v0,v1,v2,v3]++R)).toArray e:=by
 match old,ho with
 | [o0,o1,o2,o3],_=>
  have:=(((h.set (m+0) v0).set (m+1) v1).set (m+2) v2).set (m+3) v3
  rw[show([o0,o1,o2,o3]++R)=[]++o0::([o1,o2,o3]++R)from rfl,uo (B:=[]) (j:=0) hA rfl]at this;rw[show([]++v0::([o1,o2,o3]++R))=[v0]++o1::([o2,o3]++R)from rfl,uo (B:=[v0]) (j:=1) hA rfl]at this;rw[show([v0]++v1::([o2,o3]++R))=[v0,v1]++o2::([o3]++R)from rfl,uo (B:=[v0,v1]) (j:=2) hA rfl]at this;rw[show([v0,v1]++v2::([o3]++R))=[v0,v1,v2]++o3::R from rfl,uo (B:=[v0,v1,v2]) (j:=3) hA rfl]at this;exact this
def Yag {o:Nat}{sv:Value}(h:W=((((w.setCell (zm g m) v0).setCell (zm g (m+1)) v1).setCell (zm g (m+2)) v2).setCell (zm g (m+3)) v3).setCell (zm p o) sv\/W=((((w.setCell (zm p o) sv).setCell (zm g m) v0).setCell (zm g (m+1)) v1).setCell (zm g (m+2)) v2).setCell (zm g (m+3)) v3):Yea w W p o g m sv [v0,v1,v2,v3]:=by
 have hs: ∀ (u:Bb) a v,(u.setCell a v).heap.size=u.heap.size:=fun u a v=>by simp[World.setCell]
 have h1: ∀ (u:Bb) a v,(u.setCell a v).os=u.os:=fun _ _ _=>rfl;have h2: ∀ (u:Bb) a v,(u.setCell a v).tape=u.tape:=fun _ _ _=>rfl;have h3: ∀ (u:Bb) a v,(u.setCell a v).output=u.output:=fun _ _ _=>rfl;rcases h with rfl | rfl
 .refine⟨fun e A old R h hA ho hn=>(Yiz h hA ho).away p o (Ne.symm hn) sv,fun e vs h hn=>((((h.away g m hn v0).away g (m+1) hn v1).away g (m+2) hn v2).away g (m+3) hn v3).set o sv,fun j h1 h2=>?_,by rw[hs,hs,hs,hs,hs],by rw[h1,h1,h1,h1,h1],by rw[h2,h2,h2,h2,h2],by rw[h3,h3,h3,h3,h3]⟩;rw[Aw _ _ _ _ h1,Aw _ _ _ _ h2,Aw _ _ _ _ h2,Aw _ _ _ _ h2,Aw _ _ _ _ h2]
 .refine⟨fun e A old R h hA ho hn=>Yiz (h.away p o (Ne.symm hn) sv) hA ho,fun e vs h hn=>((((h.set o sv).away g m hn v0).away g (m+1) hn v1).away g (m+2) hn v2).away g (m+3) hn v3,fun j h1 h2=>?_,by rw[hs,hs,hs,hs,hs],by rw[h1,h1,h1,h1,h1],by rw[h2,h2,h2,h2,h2],by rw[h3,h3,h3,h3,h3]⟩;rw[Aw _ _ _ _ h2,Aw _ _ _ _ h2,Aw _ _ _ _ h2,Aw _ _ _ _ h2,Aw _ _ _ _ h1]
def Wd.appV {w4 W5 U w6:Bb}{fs:List Fc}{F6:Cg}{x:T}{g6 Cm:Nat}{q:Bp}{c:Nat}(hm:Ap 4 Mem.S q x.l)(D4:Wd w4 p fs vs F k r fv vv Ff Fv)(O5:Off [r] w4 W5)(YM:Ug W5 r ((vs.map C8)++[C8 x]))(hU:Off [] W5 U)(AM:O7 95 4 Ni 0 U w6 vs Fv [] T0 g6 Cm F6)(hW:Yea w6 W p 2 g6 (vs.length*4) (sP (Qb g6 0) (vs.length+1) Cm) [zo x.k,zo x.i,um x.t,sP q x.l.length c]):
  ∃ F',Df W p fs (vs++[x]) F'/\Off F w4 W/\ ∀ i,i∈F'->i∈F\/w4.heap.size<=i:=by
 obtain⟨h1,h2,h3,h4,h5,h6,h7⟩:=hW;obtain⟨⟨pk,pr,pf,pv⟩,⟨kr,kf,kv⟩,⟨rf,rv⟩,nf,nv,pJ⟩:=D4.apart;have hown:=D4.own;have KG:=D4.new.lt;rw[hown]at KG;have s5:=O5.size;have sU:=hU.size;have s6:=AM.size;have up: ∀ j,j<w4.heap.size->j≠r->j∉Fv->w6.heap[j]?=w4.heap[j]?:=fun j hj hr hv=>(AM.same j zx hv).trans ((hU.block j zx zw).trans<|O5.block j hj (by simpa using hr));have Dh: ∀ j,j∈F6->j∈Fv\/w4.heap.size<=j:=fun j hj=>by
  rcases AM.sub j hj with h | h | h
  .exact .inl h
  .cases h
  .exact .inr zx
 have UE: ∀ j,j<w4.heap.size->j∉Fv->j∉F6:=fun j hj hn hF=>(Dh j hF).elim hn zx;have lp:=KG p zw;have lk:=KG k zw;have lr:=KG r zw;have lf: ∀ j,j∈Ff->j<w4.heap.size:=fun j hj=>KG j (by simp[hj]);have zT:g6∈F6:=AM.row.own;have tJ:p≠g6:=fun e=>UE p lp pv (e▸zT);have bZ: ∀ j,j<w4.heap.size->j≠r->j∉Fv->j≠p->W.heap[j]?=w4.heap[j]?:=fun j hj hr hv hp=>(h3 j hp fun e=>UE j hj hv (e▸zT)).trans (up j hj hr hv);have hrW:W.heap[r]?=W5.heap[r]?:=(h3 r (Ne.symm pr) fun e=>UE r lr rv (e▸zT)).trans<|(AM.same r zx rv).trans<|hU.block r zx zw;obtain⟨cur,A,cs,R,hcb,UQ,eZ,Ox,_,hput⟩:=AQ.last Ni.sb Ni.nil AM.row;subst UQ;refine⟨p::k::r::(Ff++F6),⟨k,r,fv,sP (Qb g6 0) (vs.length+1) Cm,Ff,F6,?_,?_,?_,D4.know.of<|bZ k lk kr kv<|Ne.symm pk,?_,rfl,?_,fun _ _=>Eg _,?_⟩,?_,?_⟩
 .exact h2 _ _ (D4.blk.of<|up p lp pr pv) tJ
 .exact AQ.sb TH.sb _ _ _ _ _ D4.fa fun j hj=>bZ j (lf j hj) (fun e=>rf (e▸hj)) (pJ j hj) (fun e=>pf (e▸hj))
 .exact hput W _ x (h1 _ A cs R hcb eZ (by rw[Ox];rfl) tJ) rfl ⟨rfl,q,c,rfl,hm⟩
 .rw[wb];exact YM.of hrW
 .simp only[List.nodup_cons,Ak,Aj,not_or,Mc];exact⟨⟨pk,pr,pf,UE p lp pv⟩,⟨kr,kf,UE k lk kv⟩,⟨rf,UE r lr rv⟩,nf,AM.new.once,fun a ha b hb e=>UE a (lf a ha) (pJ a ha) (e▸hb)⟩
 .intro j hj
  have:=AM.new.lt
  simp only[Ak,Aj]at hj;rcases hj with rfl | rfl | rfl | hj | hj
  .omega
  .omega
  .omega
  .have:=lf j hj;omega
  .have:=this j hj;omega
 .refine⟨by rw[h5,AM.os,hU.os,O5.os],by rw[h6,AM.tape,hU.tape,O5.tape],by rw[h7,AM.output,hU.output,O5.output],zx,fun j hj hn=>?_⟩;rw[hown]at hn;simp only[Ak,Aj,not_or]at hn;exact bZ j hj hn.2.2.1 hn.2.2.2.2 hn.1
 .intro i hi;rw[hown];simp only[Ak,Aj]at hi⊢;rcases hi with rfl | rfl | rfl | hi | hi
  .simp
  .simp
  .simp
  .simp[hi]
  .rcases Dh i hi with h | h
   .simp[h]
   .exact .inr h
end
end Go.W
set_option linter.unusedSectionVars false
namespace Go.W
section
variable [Mem]
def Z1u {w:Bb}{p:Nat}{fs:List Fc}{vs:List T}{F:Cg}(h:Df w p fs vs F){B D:Nat}{tv:Bu}{x:T}(hS:Ed B w D tv x)(hB:B<=w.heap.size)(Aq:BR 0 x=0)(hl:vs.length<100000):
  Calls prog 222 #[zq p 0,.agg tv.toArray] w fun e w'=>e=uY (zo (bS vs x:Int))/\ ∃ F',Df w' p fs (Wz vs x) F'/\Off F w w'/\ ∀ i,i∈F'->i∈F\/w.heap.size<=i:=by
 have ym:=vw Aq;have UM:0<(C8 x).size:=by rw[Z09,BM,Lh];omega
 obtain⟨k,r,fv,vv,Ff,Fv,hw⟩:=h;obtain⟨pv,cv,rfl⟩:=hw.vals.form;obtain⟨W1,hW1⟩:=cK (w.alloc (.cells tv.toArray 95));have S1:AF (W1.heap.size=w.heap.size+1):=⟨by rw[<- hW1.o];simp⟩;have B1:AF (Bl w W1):=⟨hW1.o▸(AR _ w).alloc lr _⟩;have CT:=AC<|vP 0 zx (show DV 153 W1.heap.size W1.heap.size ByteArray.empty (W1.alloc<|.cells #[.pointer none,zn] 153)from Lib.fresh_isBuilder 153 5 W1) zw TrC.of (Ed.cy (Ed.cy (Ed.cy hS<|Bq B1.o hB)<|EG.up<|Ab hB B1.o.size)<|Qk _ lr) Aq zc;have L0:AF (AO W1 w.heap.size tv.toArray 95):=⟨hW1.o▸AO.new w _ _⟩;obtain⟨pl,cl,rfl,ht,AX,hk2,hlc,hrow⟩:=hS;have zV:=S1.o;have HM:=AC hrow.memS;clear hrow hlc;go_in
 clear zV;go_wp2_with fail
 rw[hW1.o];rw[S1.o]at CT;apply mq CT.o;rintro w2 ⟨hb2,hf2⟩;rw[show ByteArray.empty++C8 x=C8 x by simp]at hb2;have HT:=AC<|Zq.of hb2 zx UM;have HB:=AC<|(B1.o.alloc B1.o.size _).trans<|hf2.be.mono<|Ny _;have L2:=AC<|hf2.blk (L:=w.heap.size) (L0.o.alloc _) zx zu;obtain⟨t0,t1,t2,t3,ts⟩:=L2.o.four;have D2:=AC<|hw.be HB.o;obtain⟨p0,p1,p2,p3,ps⟩:=D2.o.blk.four;clear hb2 hf2 CT;obtain⟨pb,LK⟩:=cK (TP (C8 x) (vs.map C8) 0);have NN:AF (bS vs x=pb.getD vs.length):=⟨by unfold bS;rw[LK.o]⟩;have NV:AF (Wz vs x=if pb.isSome then vs else vs++[x]):=⟨by unfold Wz;rw[LK.o]⟩;have LU:=AC (fun u (hu:Ug u r (vs.map C8))=>by have:=Z5v hu<|C8 x;rw[LK.o]at this;exact this);cases pb with
 | some j=>
  simp only[Option.getD_some,Option.isSome_some,if_true]at NN NV LU;go_wp2
  go_region_with (go_at_call 58;apply(Znw (w:=w2.drew) HT.o).mono;rintro e w3 ⟨rfl,RF,hf3⟩;have hb3:=hf3.be;have D3:=AC<|hw.be<|HB.o.drew.trans<|hb3.mono<|Ny _;obtain⟨q0,q1,q2,q3,qs⟩:=D3.o.blk.four;have hlk:=LU.o _ D3.o.num)
  all_goals
   go_wp2
   go_ret
   rw[NN.o,NV.o];exact⟨rfl,F,⟨k,r,fv,_,Ff,Fv,D3.o⟩,Off.of<|HB.o.drew.trans<|hb3.mono<|Ny _,fun _ h=> .inl h⟩
 | none=>
  simp only[Option.getD_none,Option.isSome_none]at NN NV LU;replace NV:AF (Wz vs x=vs++[x]):=⟨NV.o⟩
  have UP:=AC (fun u (hu:Ug u r (vs.map C8))=>by have:=Z61 hu (C8 x) LK.o;rw[Dj]at this;exact this);go_wp2_with fail
  obtain⟨K3,hK3⟩: ∃ K3:Act->Bb->Prop,AF (∀ a' w3,K3 a' w3↔(a'={tmps:=#[zq p 0,.agg #[zo x.k,zo x.i,um x.t,sP pl x.l.length cl],undef,zq w.heap.size 0,zo 0,zq (w.heap.size+1) 0,zo 0,.bool false,.agg #[zo x.k,zo x.i,um x.t,sP pl x.l.length cl],.tuple #[],.tuple #[zo 0,.bool false],zq p 0,zq p 0,zq p 3,.map<|some r,zq (w.heap.size+1) 0,.string<|C8 x,.tuple #[zo 0,.bool false],zo 0,.bool false,undef,undef,undef,undef,undef,undef,undef,undef,undef,undef,undef,undef,undef,undef,undef,undef,undef,undef,undef,undef,undef,undef,undef,undef,undef,undef],defers:=[]}/\Below (w.heap.size+1) w2.drew w3/\Zq (w.heap.size+1) (w.heap.size+1) (C8 x) w3)):=⟨_,⟨fun _ _=>Iff.rfl⟩⟩;refine Ya9 K3 ?_ ?_
  .go_region_with (go_at_call 58;apply(Znw (w:=w2.drew) HT.o).mono;rintro e w3 ⟨rfl,RF,hf3⟩;have hb3:=hf3.be;have D3:=AC<|hw.be<|HB.o.drew.trans<|hb3.mono<|Ny _;obtain⟨q0,q1,q2,q3,qs⟩:=D3.o.blk.four;have hlk:=LU.o _ D3.o.num)
   all_goals exact(hK3.o _ _).2 ⟨rfl,hb3,RF⟩
  intro a' w3 h3;obtain⟨rfl,hb3,RF⟩:=(hK3.o _ _).1 h3;clear h3 hK3 K3;have UA:=AC<|HB.o.drew.trans<|hb3.mono<|Ny _;have HT3:=AC RF;have D3:=AC<|hw.be UA.o;obtain⟨q0,q1,q2,q3,qs⟩:=D3.o.blk.four;have L3:=AC<|L2.o.of<|hb3.block w.heap.size<|Nat.lt_succ_self _;clear RF p0 p1 p2 p3 ps hb3 t0 t1 t2 t3 ts;go_wp2_with fail
  obtain⟨K3,hK3⟩: ∃ K3:Act->Bb->Prop,AF (∀ a' W5,K3 a' W5↔(a'={tmps:=#[zq p 0,.agg #[zo x.k,zo x.i,um x.t,sP pl x.l.length cl],undef,zq w.heap.size 0,zo 0,zq (w.heap.size+1) 0,zo (vs.length:Int),.bool false,.agg #[zo x.k,zo x.i,um x.t,sP pl x.l.length cl],.tuple #[],.tuple #[zo 0,.bool false],zq p 0,zq p 0,zq p 3,.map<|some r,zq (w.heap.size+1) 0,.string<|C8 x,.tuple #[zo 0,.bool false],zo 0,.bool false,.bool false,.bool true,zq p 0,zq p 0,zq p 2,sP pv vs.length cv,zo (vs.length:Int),zq p 0,zq p 0,zq p 3,.map<|some r,zq (w.heap.size+1) 0,.string<|C8 x,zo (vs.length:Int),undef,undef,undef,undef,undef,undef,undef,undef,undef,undef,undef,undef],defers:=[]}/\ ∃ w4,Bl w w4/\Wd w4 p fs vs F k r fv (sP pv vs.length cv) Ff Fv/\AO w4 w.heap.size #[zo x.k,zo x.i,um x.t,sP pl x.l.length cl] 95/\Off [r] w4 W5/\Ug W5 r (vs.map C8++[C8 x]))):=⟨_,⟨fun _ _=>Iff.rfl⟩⟩;refine Ya9 K3 ?_ ?_
  .go_region_with (go_at_call 58;apply(Znw (w:=w3.drew) HT3.o).mono;rintro e w4 ⟨rfl,ht4,hf4⟩;have hb4:=hf4.be;have D4:=AC<|hw.be<|UA.o.drew.trans<|hb4.mono<|Ny _;obtain⟨d0,d1,d2,d3,ds⟩:=D4.o.blk.four;obtain⟨ob,Xb,Dp⟩:=UP.o w4 D4.o.num;obtain⟨W5,hW5⟩:=cK ({w4 with heap:=w4.heap.setIfInBounds r ob});rw[hW5.o]at Xb Dp)
   all_goals exact(hK3.o _ _).2 ⟨rfl,w4,UA.o.drew.trans<|hb4.mono<|Ny _,D4.o,L3.o.of<|hb4.block w.heap.size<|Nat.lt_succ_self _,hW5.o▸(Off.refl _ w4).put r ob zw,Dp⟩
  intro a' W5 h3;obtain⟨rfl,w4,hb4,RQ,L4,o5,Dp⟩:=(hK3.o _ _).1 h3;clear h3 hK3 K3;have U6:=AC hb4;have D4:=AC RQ;have O5:=AC o5;have YM:=AC Dp;obtain⟨⟨pk,pr,pf,YW⟩,_,⟨rf,rv⟩,_,nv,_⟩:=RQ.apart;have hwr:w.heap.size≠r:=fun e=>fw (hw.num.lt)
  have b5:W5.heap[p]?=w4.heap[p]?:=o5.block p RQ.blk.lt (by simpa using pr);obtain⟨e0,e1,e2,e3,es⟩:=(RQ.blk.of b5).four;have L5:=AC<|L4.of<|o5.block w.heap.size L4.lt (by simpa using hwr);obtain⟨u0,u1,u2,u3,us⟩:=L5.o.four;have JE: ∀ j,j∈Fv->j<w4.heap.size:=fun j hj=>RQ.new.lt j (by rw[RQ.own];simp[hj]);have R5:=AC (AQ.sb Ni.sb _ W5 _ _ _ RQ.vals fun j hj=>o5.block j (JE j hj) (fun e=>rv (by rw[<- Bh.1 e];exact hj)));have N5:AF (Ag 0 W5 Fv):=⟨nv,fun _ _=>Eg _,fun j hj=>BK (JE j hj) o5.size⟩;have Ea:p<W5.heap.size:=BK RQ.blk.lt o5.size;have iX:=L5.o.lt;have hlt1:(vs.length:Int)<(vs.length:Int)+1:=zx
  clear hb4 RQ Dp L4 o5 q0 q1 q2 q3 qs b5 JE UP D3 L3 LU pk pr pf rf rv nv;go_wp2
  go_region_law (refine X3 Zqi rfl (.tmp 37) (.tmp 40) rfl Ni.sb (fun _ _ _ _ h=>Ni.one h) 0 (sP pv vs.length cv) vs Fv rfl (AQ.sb Ni.sb _ _ _ _ _ R5.o fun j hj=>Ah _ _ _ (N5.o.lt j hj)) W5.heap.size #[zo 0,zo 0,.string ⟨#[]⟩,zn] 95 (0,0) T0 [] rfl (Hw _ _) rfl ⟨rfl,none,0,rfl,by simp[T0,T.l],fun i y hy=>by simp[T0,T.l]at hy⟩ zx (Eg _) (N5.o.la lr zw) (Ag.nil _ _) (fun _ _ h=>by cases h) ?_;intro g6 Cm w6 F6 AM;have b6:=(AM.same p zc YW).trans<|Ah _ _ _ Ea;have c6:=(A9 (a:=(zm p 2)) b6).trans e2;have s6:=fun j=>(bQ (a:=(zm p j)) b6).trans (es j);obtain⟨cur,A,cs,R,hcb,UQ,eZ,Ox,⟨_,p',c',hcs,_⟩,_⟩:=AQ.last Ni.sb Ni.nil AM.row;subst UQ hcs;have z0:w6.cell? (zm g6 (vs.length*4))=some (zo 0):=vY hcb eZ 0 _ rfl;have z1:w6.cell? (zm g6 (vs.length*4+1))=some (zo 0):=vY hcb eZ 1 _ rfl;have z2:w6.cell? (zm g6 (vs.length*4+2))=some (.string ⟨#[]⟩):=vY hcb eZ 2 _ rfl;have z3:w6.cell? (zm g6 (vs.length*4+3))=some (sP p' 0 c'):=vY hcb eZ 3 _ rfl;have zs:=hcb.soft;have tJ:p≠g6:=fun e=>AM.bq (j:=p) zc YW (e▸AM.row.own);have hgp:g6≠p:=Ne.symm tJ;have HC:=AC AM;clear hcb AM eZ Ox b6)
  all_goals
   obtain⟨W,hW⟩: ∃ W,AF (W=((((w6.setCell (zm g6 (vs.length*4))<|zo x.k).setCell (zm g6 (vs.length*4+1))<|zo x.i).setCell (zm g6 (vs.length*4+2))<|um x.t).setCell (zm g6 (vs.length*4+3))<|sP pl x.l.length cl).setCell (zm p 2) (sP (Qb g6 0) (vs.length+1) Cm)):=⟨_,⟨rfl⟩⟩;obtain⟨V,hV⟩: ∃ V,AF (V=((((w6.setCell (zm p 2)<|sP (Qb g6 0) (vs.length+1) Cm).setCell (zm g6 (vs.length*4))<|zo x.k).setCell (zm g6 (vs.length*4+1))<|zo x.i).setCell (zm g6 (vs.length*4+2))<|um x.t).setCell (zm g6 (vs.length*4+3)) (sP pl x.l.length cl)):=⟨_,⟨rfl⟩⟩;first
    | (rw[<- hW.o];have PT:=Yag<|.inl hW.o)
    | (rw[<- hV.o];have PT:=Yag<|.inr hV.o)
   obtain⟨F',Ky,hF2,o6⟩:=Wd.appV HM.o D4.o O5.o YM.o (((Off.refl _ W5).alloc _).drew) HC.o PT;have DJ:=AC<|AJ Ky<|AJ hF2 o6;clear Ky hF2 o6 PT hW hV HC z0 z1 z2 z3 zs c6 s6 D4 O5 YM L5 u0 u1 u2 u3 us e0 e1 e2 e3 es;go_wp2
   go_ret
   rw[NN.o,NV.o];exact⟨rfl,F',DJ.o.1,(Off.of U6.o).trans DJ.o.2.1 fun _ h=> .inl h,fun i hi=>(DJ.o.2.2 i hi).imp id (fun h=>Ab U6.o.size h)⟩
end
end Go.W
set_option linter.unusedSectionVars false
namespace Go.W
section
variable [Mem]
def Dw (vs:List T) (x:T):Ay×Nat:=if x.k=1 then(x.t,0)else(⟨#[]⟩,bS vs x)
def Eb (vs:List T) (x:T):List T:=if x.k=1 then vs else Wz vs x
end
section
variable [Mem]
def Zwb {w:Bb}{p:Nat}{fs:List Fc}{vs:List T}{F:Cg}(h:Df w p fs vs F){B D:Nat}{tv:Bu}{x:T}(hS:Ed B w D tv x)(hB:B<=w.heap.size)(Aq:BR 0 x=0)(hl:vs.length<100000):
  Calls prog 167 #[zq p 0,.agg tv.toArray] w fun e w'=>e=uY (.agg #[um (Dw vs x).1,zo ((Dw vs x).2:Int)])/\ ∃ F',Df w' p fs (Eb vs x) F'/\Off F w w'/\ ∀ i,i∈F'->i∈F\/w.heap.size<=i:=by
 have B0:=fun o=>zv w o;have B1:=fun o o'=>(B0 o).alloc zw o';have H:=AC h;have CN:=AC fun o o'=>Z1u (h.of (w':=(w.alloc o).alloc o') (B1 o o').size fun j hj=>(B1 o o').block j (h.lt j hj)) (Ed.cy hS<|Bq (B1 o o') hB) (Ab hB (B1 o o').size) Aq hl;obtain⟨pl,cl,rfl,ht,AX,hk2,_⟩:=hS;clear h;by_cases hk:x.k=1
 .have E1:AF (Dw vs x=(x.t,0)/\Eb vs x=vs):=⟨xj hk,xj hk⟩;rw[E1.o.1,E1.o.2,hk];clear CN;go_in
  go_wp2
  refine Bg (by simp[results,results167,go_sem];try rfl) rfl ?_;exact⟨rfl,F,H.o.of (B1 _ _).size fun j hj=>(B1 _ _).block j (H.o.lt j hj),Off.of<|B1 _ _,fun _ h=> .inl h⟩
 .have E1:AF (Dw vs x=(⟨#[]⟩,bS vs x)/\Eb vs x=Wz vs x):=⟨xd hk,xd hk⟩;rw[E1.o.1,E1.o.2];have g:(x.k==1)=false:=by simp[hk]
  go_in
  go_wp2_with fail
  apply(CN.o _ _).mono;rintro e w2 ⟨rfl,F2,Cj,FM,hs2⟩;have nF:w.heap.size+1∉F:=fun h=>fw (H.o.lt _ h)
  have K2:=AC<|(Ur w _ #[sE,zo 0] 298).of<|FM.block (w.heap.size+1) zw nF;have nF2:w.heap.size+1∉F2:=fun h=>by
   rcases hs2 _ h with h | h
   .exact nF h
   .simp at h;omega
  obtain⟨y0,y1,sy⟩:=K2.o.two;have DJ:=AC<|AJ Cj<|AJ ((Off.of (F:=F)<|B1 _ _).trans FM fun _ h=> .inl h) (fun i hi=>(hs2 i hi).imp id (fun h=>by simp at h;omega): ∀ i,i∈F2->i∈F\/w.heap.size<=i);clear Cj FM hs2 CN;go_wp2
  refine Bg (by simp[results,results167,go_sem,y0,y1];try rfl) rfl ?_;have hne: ∀ j,j∈F2->j≠w.heap.size+1:=fun j hj e=>nF2 (e▸hj);exact⟨rfl,F2,DJ.o.1.of (by simp[World.setCell]) fun j hj=>(Aw _ _ _ _<|hne j hj).trans (Aw _ _ _ _<|hne j hj),(DJ.o.2.1.set (w.heap.size+1) 0 _<|.inr<|Ny _).set (w.heap.size+1) 1 _<|.inr<|Ny _,DJ.o.2.2⟩
end
end Go.W
