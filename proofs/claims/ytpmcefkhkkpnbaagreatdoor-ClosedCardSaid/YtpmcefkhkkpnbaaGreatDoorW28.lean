import Derived.Test.YtpmcefkhkkpnbaaGreatDoorW27
import Derived.Deep.RegionHeld3
set_option linter.all false
set_option maxRecDepth 100000
set_option maxHeartbeats 8000000
open Go.Proofs Go.RowKit Go.W Tryz
namespace Go.W
section
variable [Mem]
def La:Du Sl:=fun _ vs x F=>F=[]/\vs=[um x.1,zo (x.2:Int)]
def La.sb:Ii La:=fun _ _ _ _ _ h _=>h
def La.one {w:Bb}{vs:Bu}{x:Sl}{F:Cg}(h:La w vs x F): ∀ u,u∈vs->u.oneCell'=true:=by
 obtain⟨_,rfl⟩:=h;intro u hu;simp at hu;rcases hu with rfl | rfl <;> rfl
def Cc:List T->List T->List Sl×List T
 | vs,[]=>([],vs)
 | vs,x::xs=>(Dw vs x::(Cc (Eb vs x) xs).1,(Cc (Eb vs x) xs).2)
def Z29 (vs:List T)(x:T):(Wz vs x).length<=vs.length+1:=by
 unfold Wz;split <;> simp
def bK (vs:List T)(x:T):(Eb vs x).length<=vs.length+1:=by
 unfold Eb;split
 .omega
 .exact Z29 vs x
def Xx: ∀ (xs:List T) (vs:List T),(Cc vs xs).1.length=xs.length/\(Cc vs xs).2.length<=vs.length+xs.length
 | [],vs=>by simp[Cc]
 | x::xs,vs=>by
  have:=Xx xs<|Eb vs x
  have:=bK vs x
  simp only[Cc,DU];omega
end
section
variable [Mem]
def Yb0:J3 prog 224 298 2 24:=by
 obtain⟨i0,hi,hz0,hz1,hz2⟩:=info_parts (by kernel_rfl:(prog.info? 298).map (fun i=>(i.zero,i.size,i.bytes))=some (some<|.agg #[sE,zo 0],2,24));exact⟨i0,_,underlying224,hi,hz0,hz1,hz2,rfl,zu,zu⟩
def Yd9 (W:Bb) (b p:Nat) (n:Ay) (fs:List Fc) (F:Cg) (vs:List T) (ts:List T) (iv:Value) (wr:Bb):Prop:= ∃ (j:Nat) (Ia:List T) (sv:Value) (ss:List Sl) (G F':Cg),j<=ts.length/\iv= zo (j:Int)/\AQ 298 2 La wr sv ss G/\Ag W.heap.size wr G/\Df wr p fs Ia F'/\AO wr b #[um n,sv] 226/\Cc vs ts=(ss++(Cc Ia<|ts.drop j).1,(Cc Ia<|ts.drop j).2)/\ss.length=j/\Ia.length<=vs.length+j/\Off (b::F) W wr/\(∀ i,i∈F'->i∈F\/W.heap.size<=i)/\ ∀ i,i∈G->i∉F'
def Zk9 {w:Bb}{p:Nat}{fs:List Fc}{vs:List T}{F:Cg}(h:Df w p fs vs F){B D c:Nat}{q:Bp}{n:Ay}{ts:List T}(hr:Ap 4 (He B w<|D+1) q ts)(hB:B<=w.heap.size)(Aq: ∀ x,x∈ts->BR 0 x=0)(h6:ts.length<=6)(hl:vs.length+6<100000)(hFB: ∀ i,i∈F->B<=i):
  Calls prog 111 #[zq p 0,.agg #[um n,sP q ts.length c]] w fun e w'=> ∃ sv G F',e=uY (.agg #[um n,sv])/\AQ 298 2 La w' sv (Cc vs ts).1 G/\Ag w.heap.size w' G/\Df w' p fs (Cc vs ts).2 F'/\Off F w w'/\(∀ i,i∈F'->i∈F\/w.heap.size<=i)/\ ∀ i,i∈G->i∉F':=by
 have H:=AC h;have HR:=AC hr;have HO:=AC Aq;obtain⟨W3,hW3⟩:=cK (((w.alloc<|.cells #[um n,sP q ts.length c] 64).alloc<|.cells #[.string ⟨#[]⟩,zn] 226).alloc (.cells #[um n,zn] 226));have B3:AF (Bl w W3):=⟨hW3.o▸(((AR _ w).alloc lr _).alloc zw _).alloc zc _⟩;have S3:AF (W3.heap.size=w.heap.size+3):=⟨by rw[<- hW3.o];simp⟩;have L1:AF (AO W3 (w.heap.size+1) #[.string ⟨#[]⟩,zn] 226):=⟨hW3.o▸(Ur w _ _ _).alloc _⟩;have L2:AF (AO W3 (w.heap.size+1+1) #[um n,zn] 226):=⟨hW3.o▸bU w _ _ _ _⟩;have hlen:=hr.len;clear h hr Aq;go_in
 go_wp2_with fail
 rw[hW3.o];clear hW3;have hz:=S3.o;go_loopw [14] (fun iv wr=>Yd9 W3 (w.heap.size+1+1) p n fs F vs ts iv wr) (fun iv _=>ts.length-(intOf iv).toNat)
 .exact⟨0,vs,_,[],[],F,zx,rfl,AQ.nil,Ag.nil _ _,H.o.of B3.o.size fun j hj=>B3.o.block j (H.o.lt j hj),L2.o,zw,rfl,zx,Off.refl _ _,fun _ h=> .inl h,fun _ h=>by cases h⟩
 .obtain⟨j,Ia,sv,ss,G,F1,hj,rfl,hrow,Bi,hwd,Bo,VH,QU,JE,IB,Ky,Yu⟩:=hrel;have nb: ∀ i,i∈F1->i≠w.heap.size+1/\i≠w.heap.size+1+1:=fun i hi=>by
   rcases Ky i hi with h | h
   .have:=H.o.lt i h;omega
   .omega
  have HB:=AC<|AJ hrow<|AJ Bi<|AJ hwd<|AJ Bo<|AJ VH<|AJ IB<|AJ Ky<|AJ Yu nb;have XW:=IB.size;have HSL:=AC QU;clear QU;by_cases hlt:j<ts.length
  .obtain⟨b,o,rfl,hx⟩:=HR.o.get j hlt;obtain⟨VO,p1,c1,x0,x1,x2,x3,hS⟩:=hx.vals;have hxw:BR 0 ts[j]=0:=HO.o _<|QO hlt;have Af:b<w.heap.size:=BK VO hB;have Yl:Below B w wr:=(B3.o.mono hB).trans<|IB.be (B:=B) (fun i hi=>by rcases Ak.1 hi with e | e;omega;exact hFB i e) zx;have x0':=(Yl.cell (p:=(zm b (o+j*4))) VO).trans x0;have x1':=(Yl.cell (p:=(zm b (o+j*4+1))) VO).trans x1;have x2':=(Yl.cell (p:=(zm b (o+j*4+2))) VO).trans x2;have x3':=(Yl.cell (p:=(zm b (o+j*4+3))) VO).trans x3;have aM:=Ed.cy hS<|Go.W.Below.cy Yl lr;have z1:=fun ob=>(Bo.alloc ob).two.2.1;have B4:=fun ob=>zv wr ob;have CS:=AC fun u (hu:Bl wr u)=>Zwb (hwd.of (w':=u) hu.size fun k hk=>hu.block k (hwd.lt k hk)) (Ed.cy aM<|Bq hu zx) (fw (hu.size)) hxw zx;have EP:AF (Cc vs ts=(ss++[Dw Ia ts[j]]++(Cc (Eb Ia ts[j])<|ts.drop<|j+1).1,(Cc (Eb Ia ts[j])<|ts.drop<|j+1).2)):=⟨by rw[VH,xH hlt,Cc];simp⟩;have EL:=bK Ia ts[j];obtain⟨pv,cv,rfl⟩:=hrow.form;have hbl:=Bo.lt;have uC:w.heap.size+1+1∉G:=fun h=>fw (Bi.ge _ h)
   clear hrow Bi hwd Bo VH IB Ky Yu x0 x1 x2 x3 hS aM hx Yl nb;generalize ts[j]=x at*;go_wp2
   go_region_law (first
    | (go_simp;go_at_call 167;apply(CS.o _ (B4 _).drew).mono;rintro e w5 ⟨rfl,F5,RP,Di,hs5⟩;have K2:=(HB.o.2.2.2.1.alloc _).of<|Di.block (w.heap.size+1+1) zc fun h=>(HB.o.2.2.2.2.2.2.2.2 _ h).2 rfl;have k1:=K2.two.2.1;have ks:=K2.soft;have hz5:=K2.lt;have VD:=Di.size;have R5:=AQ.sb La.sb _ w5 _ _ _ HB.o.1 fun k hk=>(Di.block k (by have:=HB.o.2.1.lt k hk;simp;omega)<|HB.o.2.2.2.2.2.2.2.1 k hk).trans (Ah _ _ _<|HB.o.2.1.lt k hk);have N5:=HB.o.2.1.la lr<|Ab zw VD)
    | (refine X3 Yb0 rfl (.tmp 19) (.tmp 23) rfl La.sb (fun _ _ _ _ h=>La.one h) W3.heap.size (sP pv ss.length cv) ss G rfl (AQ.sb La.sb _ _ _ _ _ R5 fun k hk=>Ah _ _ _ (N5.lt k hk)) w5.heap.size #[um (Dw Ia x).1,zo ((Dw Ia x).2:Int)] 298 (0,0) (Dw Ia x) [] rfl (Hw _ _) rfl ⟨rfl,rfl⟩ (fw (HSL.o)) (by have:=VD;simp at this⊢;omega) (N5.la lr zw) (Ag.nil _ _) (fun _ _ h=>by cases h) ?_;intro g6 Cm w6 F6 AM;have b6:=(AM.same (w.heap.size+1+1) zc uC).trans<|Ah _ _ _ hz5;have c6:=(A9 (a:=(zm (w.heap.size+1+1) 1)) b6).trans k1;have s6:=fun j=>(bQ (a:=(zm (w.heap.size+1+1) j)) b6).trans (ks j)))
   all_goals
    obtain⟨hR,hN,hW,hK,_,hO1,Ky,Yu,nb⟩:=HB.o;have yR:wr.heap.size+1<=w5.heap.size:=by simpa using VD
    have Gn: ∀ i,i∈F5->i∈F1\/wr.heap.size+1<=i:=fun i hi=>(hs5 i hi).imp id fun h=>by simpa using h
    have eX: ∀ i,i∈F5->i≠w.heap.size+1+1/\i∉G:=fun i hi=>by
     rcases Gn i hi with h | h
     .exact⟨(nb i h).2,fun q=>Yu i q h⟩
     .exact⟨zx,fun q=>fw (hN.lt i q)⟩
    have h6s: ∀ k,k∈F6->k∈G\/w5.heap.size+1<=k:=fun k hk=>by
     rcases AM.sub k hk with h | h | h
     .exact .inl h
     .cases h
     .exact .inr (by simpa using h)
    have oH:w.heap.size+1+1∉F6:=fun h=>by
     rcases h6s _ h with h | h
     .exact uC h
     .omega
    have xq: ∀ k,k<w5.heap.size->k∉G->w6.heap[k]?=w5.heap[k]?:=fun k hk hn=>(AM.same k zc hn).trans (Ah _ _ _ hk);have K7:=(K2.of b6).set 1<|sP (Qb g6 0) (ss.length+1) Cm;have hz6:w5.heap.size+1<=w6.heap.size:=by have:=AM.size;simpa using this
    have hd7:=RP.of (w':=w6.setCell (zm (w.heap.size+1+1) 1)<|sP (Qb g6 0) (ss.length+1) Cm) (by simp[World.setCell];omega) fun k hk=>(Aw _ _ _ _ (eX k hk).1).trans (xq k (RP.lt k hk) (eX k hk).2);have r7:=AQ.sb La.sb _ (w6.setCell (zm (w.heap.size+1+1) 1)<|sP (Qb g6 0) (ss.length+1) Cm) _ _ _ AM.row fun k hk=>Aw _ _ _ _ (fun e=>oH (by have e:k=w.heap.size+1+1:=e;rw[<- e];exact hk));have n7:Ag W3.heap.size (w6.setCell (zm (w.heap.size+1+1) 1)<|sP (Qb g6 0) (ss.length+1) Cm) F6:=⟨AM.new.once,AM.new.ge,fun k hk=>by have:=AM.new.lt k hk;simpa[World.setCell]using this⟩;have o7:Off ((w.heap.size+1+1)::F) W3 w6:=(((hO1.alloc _).drew.trans Di fun i hi=>(Ky i hi).imp (wj _) id)).trans (G:=G) ⟨AM.os,AM.tape,AM.output,zx,fun k hk hn=>xq k hk hn⟩ fun i hi=> .inr (hN.ge i hi);have DJ:AF (Yd9 W3 (w.heap.size+1+1) p n fs F vs ts (zo ((j+1:Nat):Int))<|w6.setCell (zm (w.heap.size+1+1) 1)<|sP (Qb g6 0) (ss.length+1) Cm):=⟨j+1,_,_,_,F6,F5,zx,rfl,r7,n7,hd7,K7,EP.o,by simp[HSL.o],zx,o7.set _ _ _<|.inl zw,fun i hi=>(Gn i hi).elim (Ky i) (fun h=> .inr zx),fun i hi hj=>by
     rcases h6s i hi with h | h
     .exact(eX i hj).2 h
     .have:=RP.lt i hj;omega⟩
    clear hR hN hW hK hO1 Ky Yu nb hd7 r7 n7 o7 K7 xq AM b6 c6 s6 RP Di hs5 K2 k1 ks hz5 VD R5 N5 eX h6s oH Gn yR hz6;go_wp2
    go_roundw
    .simpa using DJ.o
    simp[intOf];omega
  .obtain rfl:j=ts.length:=zx
   rw[List.drop_length]at VH;simp only[Cc,List.append_nil]at VH;have EP:=AC VH;have K1:=AC<|L1.o.of (IB.block (w.heap.size+1) L1.o.lt fun e=>by rcases Ak.1 e with e | e;omega;have:=H.o.lt _ e;omega);obtain⟨n0,n1,ns⟩:=K1.o.two;obtain⟨pv,cv,rfl⟩:=hrow.form;obtain⟨m0,m1,ms⟩:=Bo.two;clear hrow Bi hwd Bo VH IB Ky Yu nb;go_wp2
   refine Bg (by simp[results,results111,go_sem,n0,n1];try rfl) rfl ?_;have FO:=HB.o;have gg: ∀ k,k∈G->k≠w.heap.size+1:=fun k hk e=>fw (FO.2.1.ge _ hk)
   rw[EP.o];refine⟨_,G,F1,rfl,AQ.sb La.sb _ _ _ _ _ FO.1 fun k hk=>(Aw _ _ _ _<|gg k hk).trans (Aw _ _ _ _<|gg k hk),?_,FO.2.2.1.of (by simp[World.setCell]) fun k hk=>(Aw _ _ _ _ (FO.2.2.2.2.2.2.2.2 k hk).1).trans (Aw _ _ _ _ (FO.2.2.2.2.2.2.2.2 k hk).1),?_,fun i hi=>(FO.2.2.2.2.2.2.1 i hi).imp id zx,FO.2.2.2.2.2.2.2.1⟩
   .exact⟨FO.2.1.once,fun k hk=>fw (FO.2.1.ge k hk),fun k hk=>by have:=FO.2.1.lt k hk;simpa[World.setCell]using this⟩
   .exact(((Off.of B3.o).trans FO.2.2.2.2.2.1 fun i hi=>by rcases Ak.1 hi with e | e;exact .inr zx;exact .inl e).set (w.heap.size+1) 0 _<|.inr<|Ny _).set (w.heap.size+1) 1 _<|.inr<|Ny _
end
def Yct {j:Nat}{m:Ay}(h:MV[j]?=some m):(m.toList==[61,61])=decide (j=0)/\(m.toList==[33,61])=decide (j=1)/\(m.toList==[60])=decide (j=2)/\(m.toList==[60,61])=decide (j=3)/\(m.toList==[62])=decide (j=4)/\(m.toList==[62,61])=decide (j=5)/\j<7:=by
 have hj:j<7:=(DW.1 h).1;have h7:j=0\/j=1\/j=2\/j=3\/j=4\/j=5\/j=6:=zx
 rw[Nw];rcases h7 with rfl | rfl | rfl | rfl | rfl | rfl | rfl <;> (cases h;decide)
def gZ (op:Nat) (same:Bool) (x y:T):Bool:=
 let al:=x.k==y.k
 let nu:=al && (x.k==2 || x.k==5)
 let te:=al && (x.k==3 || x.k==4)
 if op=1 then same else if op=2 then al && !same else if op=3 then nu && decide (x.i<y.i)else if op=4 then nu && decide (x.i<=y.i)else if op=5 then nu && decide (y.i<x.i)else if op=6 then nu && decide (y.i<=x.i)else te && Lib.hasPrefix x.t.data.toList y.t.data.toList
abbrev Pt:=Ay×List Sl
abbrev Gt:=Nat×Sl×Sl
abbrev Hm:=Ay×Nat×Nat
structure BD where
 hd:Pt
 at_:List Pt
 gs:List Gt
 hs:List Hm
def Gf (vs:List T) (xs:Bn):List Gt->Bool
 | []=>true
 | g::gs=>(!((Dr xs g.2.1).2 && (Dr xs g.2.2).2) || gZ g.1 (decide<|(Dr xs g.2.1).1=(Dr xs g.2.2).1) (vs.getD (Dr xs g.2.1).1<|.mk 0 0 ⟨#[]⟩ []) (vs.getD (Dr xs g.2.2).1<|.mk 0 0 ⟨#[]⟩ [])) && Gf vs xs gs
def ui (vs:List T) (xs:Bn) (gs:List Gt):Prop:= ∀ g,g∈gs->(g.2.1.1.size=0->g.2.1.2<vs.length)/\(g.2.2.1.size=0->g.2.2.2<vs.length)/\ ∀ x,x∈xs->x.2<vs.length
end Go.W
set_option linter.unusedSectionVars false
namespace Go.W
section
variable [Mem]
def AQ.at4 {e:TypeId}{w:Bb}{v:Value}{xs:List T}{F:Cg}(h:AQ e 4 Ni w v xs F)(i:Nat)(x:T)(hx:xs[i]?=some x): ∃ g cap q c,v= sP (Qb g 0) xs.length cap/\g∈F/\w.cell? (zm g (i*4))=some (zo x.k)/\w.cell? (zm g (i*4+1))=some (zo x.i)/\w.cell? (zm g (i*4+2))=some (um x.t)/\w.cell? (zm g (i*4+3))=some (sP q x.l.length c):=by
 obtain⟨g,cap,cs,G,rfl,hg,⟨_,q,c,rfl,_⟩,key⟩:=h.nth i x hx;exact⟨g,cap,q,c,rfl,hg,key 0 _ rfl,key 1 _ rfl,key 2 _ rfl,key 3 _ rfl⟩
end
section
variable [Mem]
def Zz4 {a0:Nat->Addr}{w:Bb}{p:Nat}{fs:List Fc}{vs:List T}{F:Cg}(Z:AZ a0 w)(h:Df w p fs vs F)(op a b:Nat)(x y:T)(ha:vs[a]?=some x)(hb:vs[b]?=some y)(ho:1<=op/\op<=7):
  Calls prog 229 #[zq p 0,zo (op:Int),zo (a:Int),zo (b:Int)] w fun e w'=>e=uY (.bool<|gZ op (decide<|a=b) x y)/\Bl w w':=by
 obtain⟨k,r,fv,vv,Ff,Fv,hw⟩:=h;obtain⟨g,cap,q,c,rfl,Yh,x0,x1,x2,x3⟩:=AQ.at4 hw.vals a x ha;obtain⟨g',cap',q',c',e,_,y0,y1,y2,y3⟩:=AQ.at4 hw.vals b y hb;injection e with e1 e2 e3;injection e1 with e1;injection e1 with e1;subst e1;have KM:(a:Int)<(vs.length:Int):=fw ((DW.1 ha).1)
 have hbl:(b:Int)<(vs.length:Int):=fw ((DW.1 hb).1)
 obtain⟨p0,p1,p2,p3,ps⟩:=hw.blk.four;have NU:g<w.heap.size:=hw.new.lt g (by rw[hw.own];simp[Yh]);have hpl:=hw.blk.lt;have VL:17<w.heap.size:=Wx<|Z.ops 0 _ rfl;have HZ:=AC Z;have B2:=fun o o'=>((zv w o).alloc zw o').drew;have CP:=AC fun u=>Znp x.t y.t u;have E:AF (∀ al nu te sm:Bool,(x.k==y.k)=al->(al && (x.k==2 || x.k==5))=nu->(al && (x.k==3 || x.k==4))=te->decide (a=b)=sm->gZ op (decide<|a=b) x y=if op=1 then sm else if op=2 then al && !sm else if op=3 then nu && decide (x.i<y.i)else if op=4 then nu && decide (x.i<=y.i)else if op=5 then nu && decide (y.i<x.i)else if op=6 then nu && decide (y.i<=x.i)else te && Lib.hasPrefix x.t.data.toList y.t.data.toList):=⟨fun _ _ _ _ h1 h2 h3 h4=>by subst h1 h2 h3 h4;rfl⟩;have ks:(x.k==y.k)=false\/((x.k==y.k)=true/\(x.k==2)=true/\(x.k==5)=false/\(x.k==3)=false/\(x.k==4)=false)\/((x.k==y.k)=true/\(x.k==2)=false/\(x.k==5)=true/\(x.k==3)=false/\(x.k==4)=false)\/((x.k==y.k)=true/\(x.k==2)=false/\(x.k==5)=false/\(x.k==3)=true/\(x.k==4)=false)\/((x.k==y.k)=true/\(x.k==2)=false/\(x.k==5)=false/\(x.k==3)=false/\(x.k==4)=true)\/((x.k==y.k)=true/\(x.k==2)=false/\(x.k==5)=false/\(x.k==3)=false/\(x.k==4)=false):=by
  simp only[DR,BJ];omega
 have hsm:((a:Int)==(b:Int))=decide (a=b):=by
  by_cases h:a=b
  .simp[h]
  .simp[h];omega
 have Dp:((a:Int) != (b:Int))= !decide (a=b):=by rw[bne,hsm]
 clear hw ha hb Z;obtain⟨j,rfl⟩: ∃ j,op=j+1:=⟨op-1,zx⟩;obtain⟨m,hm⟩: ∃ m,MV[j]?=some m:=⟨_,A8 (show j<MV.length from by show j<7;omega)⟩;have mk:=fun o o'=>((A9 (a:=(zm 17 j))<|(B2 o o').block _ VL).trans<|HZ.o.ops j m hm);have hwr:IntKind.i64.wrap (j:Int)=(j:Int):=by rw[IntKind.wrap_i64];omega
 have hj7:(j:Int)<7:=zx
 have HM:=AC hm;clear hm;rcases ks with k0 | ⟨k0,k2,k5,k3,k4⟩ | ⟨k0,k2,k5,k3,k4⟩ | ⟨k0,k2,k5,k3,k4⟩ | ⟨k0,k2,k5,k3,k4⟩ | ⟨k0,k2,k5,k3,k4⟩;all_goals
  go_in
  go_wp2
  go_region
 all_goals
  go_wp2_with (go_at_call 191;apply(CP.o _).mono;rintro e w3 ⟨rfl,rfl⟩)
 all_goals
  go_ret
  obtain⟨m0,m1,m2,m3,m4,m5,_⟩:=Yct HM.o;simp only[m0,m1,m2,m3,m4,m5,wA,decide_eq_false_iff_not]at*;refine⟨?_,B2 _ _⟩;rw[E.o _ _ _ _ rfl rfl rfl rfl];repeat (first | rw[xj zx] | rw[xd zx])
  simp[*]
end
variable {n:Ay}{σ:Ay->Nat}{vs:List T}
def P7 (σ:Ay->Nat) (s:Sl):Nat:=if s.1.size=0 then s.2 else σ s.1
def OD (xs:Bn) (σ:Ay->Nat):Prop:= ∀ x,x∈xs->σ x.1=x.2
def Nd (xs:Bn):Prop:=(xs.map (·.1)).Nodup
def Ztv: ∀ (xs:Bn) (i:Nat),GH n xs i=none↔n∉xs.map (·.1)
 | [],i=>by simp[GH]
 | y::xs,i=>by
  rw[GH,xp,Ak];by_cases h:n=y.1
  ·simp[h]
  ·rw[xd h,Ztv xs<|i+1];simp[h]
def vO {k v:Nat}: ∀ (xs:Bn) (i:Nat),GH n xs i=some (k,v)->(n,v)∈xs
 | [],i,h=>by simp[GH]at h
 | y::xs,i,h=>by
  rw[GH]at h;by_cases e:n=y.1
  ·rw[xj e]at h;injection h with h;injection h with _ h;rw[e,<- h];exact List.mem_cons_self
  ·rw[xd e]at h;exact wj _<|vO xs (i+1) h
def Kn (xs:Bn) (s:Sl):Prop:=s.1.size=0\/s.1∈xs.map (·.1)
def kE {xs:Bn}{s:Sl}:(Dr xs s).2=true↔Kn xs s:=by
 unfold Dr Kn;split
 .rename_i h;simp[h]
 .rename_i h;simp only[h,false_or];cases hl:GH s.1 xs 0 with
  | none=>have:=(Ztv xs 0).1 hl;simpa using this
  | some k=>simp only[Option.isSome_some,true_iff];exact List.mem_map.2 ⟨_,vO xs 0 hl,rfl⟩
def Ws {xs:Bn}{s:Sl}(hσ:OD xs σ)(h:Kn xs s):(Dr xs s).1=P7 σ s:=by
 have hk:=kE.2 h;unfold Dr P7 at*;split
 .rfl
 .rename_i h0;rw[xd h0]at hk;cases hl:GH s.1 xs 0 with
  | none=>rw[hl]at hk;cases hk
  | some k=>exact(hσ _<|vO xs 0 hl).symm
def Nd.sat {xs:Bn}(h:Nd xs): ∃ σ,OD xs σ:=by
 induction xs with
 | nil=>exact⟨fun _=>0,fun _ h=>by cases h⟩
 | cons x xs ih=>
  obtain⟨h1,h2⟩:=List.nodup_cons.1 h;obtain⟨σ,hσ⟩:=ih h2;refine⟨fun n=>if n=x.1 then x.2 else σ n,fun y hy=>?_⟩;rcases Ak.1 hy with rfl | hy
  .simp
  .have:y.1≠x.1:=fun e=>h1 (by show x.1∈_;rw[<- e];exact List.mem_map_of_mem hy)
   simp[this,hσ y hy]
def Znm: ∀ (ss:List Sl) (vs:Cg) (xs:Bn),ss.length=vs.length->Nd xs->Nd (GK xs ss vs).2/\((GK xs ss vs).1=true->(∀ σ,OD (GK xs ss vs).2 σ↔OD xs σ/\ss.map (P7 σ)=vs)/\ ∀ n,n∈(GK xs ss vs).2.map (·.1)↔n∈xs.map (·.1)\/ ∃ s,s∈ss/\s.1=n/\s.1.size≠0)/\((GK xs ss vs).1=false-> ∀ σ,OD xs σ->ss.map (P7 σ)≠vs)
 | [],[],xs,_,hn=>by simp[GK,hn]
 | [],_::_,_,h,_=>by simp at h
 | _::_,[],_,h,_=>by simp at h
 | s::ss,v::vs,xs,h,hn=>by
  have hl:ss.length=vs.length:=by simpa using h
  rw[GK];by_cases hk:(Dr xs s).2=false
  .rw[xj hk];have tV: ¬ Kn xs s:=fun q=>by rw[kE.2 q]at hk;cases hk
   have h0:s.1.size≠0:=fun q=>tV (.inl q);have Dp:s.1∉xs.map (·.1):=fun q=>tV (.inr q);have aH:Nd (xs++[(s.1,v)]):=by
    unfold Nd;rw[wb,Mc];exact⟨hn,zw,fun a ha b hb e=>Dp (by simp at hb;rw[<- hb,<- e];exact ha)⟩
   obtain⟨i1,i2,i3⟩:=Znm ss vs (xs++[(s.1,v)]) hl aH;have hA: ∀ σ,OD (xs++[(s.1,v)]) σ↔OD xs σ/\P7 σ s=v:=fun σ=>by
    unfold OD P7;rw[xd h0];simp[or_imp,forall_and]
   refine⟨i1,fun ht=>⟨fun σ=>?_,fun n=>?_⟩,fun hf σ hσ e=>?_⟩
   .rw[(i2 ht).1 σ,hA σ,xp,List.cons.injEq,and_assoc]
   .rw[(i2 ht).2 n,wb,Aj];simp only[xp,List.map_nil,Ak,Lj,or_false];constructor
    .rintro((h | h) | ⟨t,h1,h2⟩)
     .exact .inl h
     .exact .inr ⟨s,.inl rfl,h.symm,h0⟩
     .exact .inr ⟨t,.inr h1,h2⟩
    .rintro(h | ⟨t,rfl | h1,h2,h3⟩)
     .exact .inl<|.inl h
     .exact .inl<|.inr h2.symm
     .exact .inr ⟨t,h1,h2,h3⟩
   .rw[xp,List.cons.injEq]at e;exact i3 hf σ ((hA σ).2 ⟨hσ,e.1⟩) e.2
  .rw[xd hk];have hK:Kn xs s:=kE.1 (by simpa using hk);by_cases hv:(Dr xs s).1=v
   .rw[xj hv];obtain⟨i1,i2,i3⟩:=Znm ss vs xs hl hn;refine⟨i1,fun ht=>⟨fun σ=>?_,fun n=>?_⟩,fun hf σ hσ e=>?_⟩
    .rw[(i2 ht).1 σ,xp,List.cons.injEq];constructor
     .rintro⟨h1,h2⟩;exact⟨h1,(Ws h1 hK).symm.trans hv,h2⟩
     .rintro⟨h1,_,h2⟩;exact⟨h1,h2⟩
    .rw[(i2 ht).2 n];constructor
     .rintro(h | ⟨t,h1,h2⟩)
      .exact .inl h
      .exact .inr ⟨t,wj _ h1,h2⟩
     .rintro(h | ⟨t,h1,h2,h3⟩)
      .exact .inl h
      .rcases Ak.1 h1 with rfl | h1
       .rcases hK with hK | hK
        .exact absurd hK h3
        .exact .inl<|h2▸hK
       .exact .inr ⟨t,h1,h2,h3⟩
    .rw[xp,List.cons.injEq]at e;exact i3 hf σ hσ e.2
   .rw[xd hv];refine⟨hn,fun h=>(by cases h),fun _ σ hσ e=>?_⟩;rw[xp,List.cons.injEq]at e;exact hv<|(Ws hσ hK).trans e.1
def JM (σ:Ay->Nat) (p:Pt):Fc:=(p.1,p.2.map<|P7 σ)
def Wt {xs:Bn}(hn:Nd xs)(p:Pt)(f:Fc):Nd (D8 xs p f).2/\((D8 xs p f).1=true->(∀ σ,OD (D8 xs p f).2 σ↔OD xs σ/\JM σ p=f)/\ ∀ n,n∈(D8 xs p f).2.map (·.1)↔n∈xs.map (·.1)\/ ∃ s,s∈p.2/\s.1=n/\s.1.size≠0)/\((D8 xs p f).1=false-> ∀ σ,OD xs σ->JM σ p≠f):=by
 unfold D8;split
 .rename_i h;obtain⟨i1,i2,i3⟩:=Znm p.2 f.2 xs h.2 hn;refine⟨i1,fun ht=>⟨fun σ=>?_,(i2 ht).2⟩,fun hf σ hσ e=>i3 hf σ hσ (congrArg Prod.snd e)⟩;rw[(i2 ht).1 σ];unfold JM;constructor
  .rintro⟨h1,h2⟩;exact⟨h1,Prod.ext h.1 h2⟩
  .rintro⟨h1,h2⟩;exact⟨h1,congrArg Prod.snd h2⟩
 .rename_i h;refine⟨hn,fun h=>(by cases h),fun _ σ _ e=>h ?_⟩;subst e;simp[JM]
def rQ (vs:List T) (op a b:Nat):Bool:=gZ op (decide<|a=b) (vs.getD a<|.mk 0 0 ⟨#[]⟩ [])<|vs.getD b<|.mk 0 0 ⟨#[]⟩ []
def qZ {xs:Bn}: ∀ {gs:List Gt},Gf vs xs gs=true↔ ∀ g,g∈gs->Kn xs g.2.1->Kn xs g.2.2->rQ vs g.1 (Dr xs g.2.1).1 (Dr xs g.2.2).1=true
 | []=>by simp[Gf]
 | g::gs=>by
  rw[Gf,wx,qZ (gs:=gs)];simp only[Ak,forall_eq_or_imp];refine and_congr_left fun _=>?_;rw[Bool.or_eq_true,Bool.not_eq_true',Bool.and_eq_false_iff];show _↔(Kn xs g.2.1->Kn xs g.2.2->_);rw[<- kE,<- kE];unfold rQ;cases (Dr xs g.2.1).2 <;> cases (Dr xs g.2.2).2 <;> simp
def iM (vs:List T) (gs:List Gt) (σ:Ay->Nat):Prop:= ∀ g,g∈gs->rQ vs g.1 (P7 σ g.2.1) (P7 σ g.2.2)=true
def iM.agree {gs:List Gt}(h:iM vs gs σ){xs:Bn}(hx:OD xs σ):Gf vs xs gs=true:=qZ.2 fun g hg k1 k2=>by
 rw[Ws hx k1,Ws hx k2];exact h g hg
def rW (b:BD) (vs:List T) (x:Pt) (f:Fc):Prop:=(D8 [] x f).1=true/\Gf vs (D8 [] x f).2 b.gs=true
def kX (b:BD) (vs:List T) (x:Pt) (f:Fc) (y:Pt) (g:Fc):Prop:=(D8 (D8 [] x f).2 y g).1=true/\Gf vs (D8 (D8 [] x f).2 y g).2 b.gs=true
def ax:Nd []:=List.nodup_nil
def fQ (σ:Ay->Nat):OD [] σ:=fun _ h=>by cases h
def Z38 {b:BD}(hg:iM vs b.gs σ)(x y:Pt):rW b vs x (JM σ x)/\kX b vs x (JM σ x) y (JM σ y):=by
 obtain⟨n1,t1,f1⟩:=Wt ax x<|JM σ x;have h1:(D8 [] x<|JM σ x).1=true:=by
  cases h:(D8 [] x<|JM σ x).1 with
  | true=>rfl
  | false=>exact absurd rfl<|f1 h σ<|fQ σ
 have a1:=((t1 h1).1 σ).2 ⟨fQ σ,rfl⟩;obtain⟨n2,t2,f2⟩:=Wt n1 y<|JM σ y;have h2:(D8 (D8 [] x<|JM σ x).2 y<|JM σ y).1=true:=by
  cases h:(D8 (D8 [] x<|JM σ x).2 y<|JM σ y).1 with
  | true=>rfl
  | false=>exact absurd rfl<|f2 h σ a1
 exact⟨⟨h1,hg.agree a1⟩,h2,hg.agree<|((t2 h2).1 σ).2 ⟨a1,rfl⟩⟩
def Yhf (b:BD):Prop:= ∀ g,g∈b.gs-> ∀ s,s=g.2.1\/s=g.2.2->s.1.size=0\/ ∃ x,x∈b.at_/\ ∃ t,t∈x.2/\t.1=s.1
def Z95 {b:BD}(hb:Yhf b)(h0:b.at_=[]->Gf vs [] b.gs=true){f:Nat->Fc}(hA: ∀ i x,b.at_[i]?=some x->rW b vs x (f i))(hP: ∀ i k x y,i<k->b.at_[i]?=some x->b.at_[k]?=some y->kX b vs x (f i) y (f k)): ∃ σ,(∀ i x,b.at_[i]?=some x->JM σ x=f i)/\iM vs b.gs σ:=by
 obtain⟨ys,Z8⟩: ∃ ys:Nat->Bn,∀ i x,b.at_[i]?=some x->ys i=(D8 [] x<|f i).2:=⟨fun i=>match b.at_[i]? with | some x=>(D8 [] x<|f i).2 | none=>[],fun i x h=>by simp[h]⟩;have OY: ∀ i x σ,b.at_[i]?=some x->(OD (ys i) σ↔JM σ x=f i):=fun i x σ h=>by
  rw[Z8 i x h,((Wt ax x<|f i).2.1 (hA i x h).1).1 σ];exact⟨fun q=>q.2,fun q=>⟨fQ σ,q⟩⟩
 have Dp: ∀ i x n,b.at_[i]?=some x->(n∈(ys i).map (·.1)↔ ∃ s,s∈x.2/\s.1=n/\s.1.size≠0):=fun i x n h=>by
  rw[Z8 i x h,((Wt ax x<|f i).2.1 (hA i x h).1).2 n];simp
 have QW: ∀ i x,b.at_[i]?=some x->Nd (ys i):=fun i x h=>by rw[Z8 i x h];exact(Wt ax x<|f i).1
 have yU: ∀ i k x y,b.at_[i]?=some x->b.at_[k]?=some y-> ∃ σ,OD (ys i) σ/\OD (ys k) σ:=by
  have key: ∀ i k x y,i<k->b.at_[i]?=some x->b.at_[k]?=some y-> ∃ σ,OD (ys i) σ/\OD (ys k) σ:=fun i k x y hik hx hy=>by
   obtain⟨n2,t2,_⟩:=Wt (Wt ax x<|f i).1 y<|f k;obtain⟨σ,hσ⟩:=n2.sat
   have:=((t2 (hP i k x y hik hx hy).1).1 σ).1 hσ
   exact⟨σ,by rw[Z8 i x hx];exact this.1,(OY k y σ hy).2 this.2⟩
  intro i k x y hx hy;rcases Nat.lt_trichotomy i k with h | h | h
  .exact key i k x y h hx hy
  .subst h;obtain⟨σ,hσ⟩:=(QW i x hx).sat
   exact⟨σ,hσ,hσ⟩
  .obtain⟨σ,h1,h2⟩:=key k i y x h hy hx;exact⟨σ,h2,h1⟩
 have H8: ∀ i k x y n v v',b.at_[i]?=some x->b.at_[k]?=some y->(n,v)∈ys i->(n,v')∈ys k->v=v':=fun i k x y n v v' hx hy h1 h2=>by
  obtain⟨σ,a1,a2⟩:=yU i k x y hx hy;exact(a1 _ h1).symm.trans<|a2 _ h2
 obtain⟨σ,hσ⟩: ∃ σ:Ay->Nat,∀ i x n v,b.at_[i]?=some x->(n,v)∈ys i->σ n=v:=by
  classical
  refine⟨fun n=>if h: ∃ v,∃ i x,b.at_[i]?=some x/\(n,v)∈ys i then h.choose else 0,fun i x n v hx hv=>?_⟩;have h: ∃ v,∃ i x,b.at_[i]?=some x/\(n,v)∈ys i:=⟨v,i,x,hx,hv⟩;simp only[h,dif_pos];obtain⟨k,y,hy,hk⟩:=h.choose_spec;exact H8 k i y x n _ v hy hx hk hv
 have hall: ∀ i x,b.at_[i]?=some x->OD (ys i) σ:=fun i x hx z hz=>hσ i x z.1 z.2 hx hz;refine⟨σ,fun i x hx=>(OY i x σ hx).1 (hall i x hx),fun g hg=>?_⟩;have uA: ∀ s,s=g.2.1\/s=g.2.2->s.1.size=0\/ ∃ i x,b.at_[i]?=some x/\s.1∈(ys i).map (·.1):=fun s hs=>by
  by_cases hz:s.1.size=0
  .exact .inl hz
  rcases hb g hg s hs with h | ⟨x,hx,t,ht,he⟩
  .exact .inl h
  .obtain⟨i,hi⟩:=List.mem_iff_getElem?.1 hx;exact .inr ⟨i,x,hi,(Dp i x s.1 hi).2 ⟨t,ht,he,by rw[he];exact hz⟩⟩
 have one: ∀ i x,b.at_[i]?=some x->Kn (ys i) g.2.1->Kn (ys i) g.2.2->rQ vs g.1 (P7 σ g.2.1) (P7 σ g.2.2)=true:=fun i x hx k1 k2=>by
  have:=qZ.1 (hA i x hx).2 g hg
  rw[<- Z8 i x hx]at this;rw[<- Ws (hall i x hx) k1,<- Ws (hall i x hx) k2];exact this k1 k2
 have two: ∀ i k x y,i<k->b.at_[i]?=some x->b.at_[k]?=some y->(Kn (ys i) g.2.1\/Kn (ys k) g.2.1)->(Kn (ys i) g.2.2\/Kn (ys k) g.2.2)->rQ vs g.1 (P7 σ g.2.1) (P7 σ g.2.2)=true:=fun i k x y hik hx hy k1 k2=>by
  obtain⟨n2,t2,_⟩:=Wt (Wt ax x<|f i).1 y<|f k;have ht:=t2 (hP i k x y hik hx hy).1;have ha:=(ht.1 σ).2 ⟨by rw[<- Z8 i x hx];exact hall i x hx,(OY k y σ hy).1<|hall k y hy⟩;have hk: ∀ s,Kn (ys i) s\/Kn (ys k) s->Kn (D8 (D8 [] x<|f i).2 y<|f k).2 s:=fun s hs=>by
   rcases hs with(h | h) | (h | h)
   .exact .inl h
   .exact .inr<|(ht.2 _).2<|.inl (by rw[<- Z8 i x hx];exact h)
   .exact .inl h
   .exact .inr<|(ht.2 _).2<|.inr<|(Dp k y s.1 hy).1 h
  have:=qZ.1 (hP i k x y hik hx hy).2 g hg (hk _ k1)<|hk _ k2
  rw[Ws ha<|hk _ k1,Ws ha<|hk _ k2]at this;exact this
 rcases uA g.2.1 (.inl rfl)with z1 | ⟨i,x,hx,m1⟩ <;> rcases uA g.2.2 (.inr rfl)with z2 | ⟨k,y,hy,m2⟩
 .cases hat:b.at_ with
  | nil=>
   have:=qZ.1 (h0 hat) g hg (.inl z1) (.inl z2)
   rwa [Ws (fQ σ)<|.inl z1,Ws (fQ σ)<|.inl z2]at this
  | cons x l=>exact one 0 x (by rw[hat];rfl) (.inl z1)<|.inl z2
 .exact one k y hy (.inl z1)<|.inr m2
 .exact one i x hx (.inr m1)<|.inl z2
 .rcases Nat.lt_trichotomy i k with h | h | h
  .exact two i k x y h hx hy (.inl<|.inr m1)<|.inr<|.inr m2
  .subst h;exact one i x hx (.inr m1)<|.inr m2
  .exact two k i y x h hy hx (.inr<|.inr m1)<|.inl<|.inr m2
end Go.W
set_option linter.unusedSectionVars false
namespace Go.W
section
variable {w:Bb}{cs:Ca}
variable [Mem]
def xF (w:Bb) (S:Cg) (pa:Bp) (i:Nat) (x:Pt):Prop:= ∃ ga ps c,pa=some (zm ga 0)/\ga∈S/\w.cell? (zm ga (i*2))=some (um x.1)/\w.cell? (zm ga (i*2+1))=some (sP ps x.2.length c)/\Ap 2 (VW w S) ps x.2/\x.2.length<=6
def Yj6 (w:Bb) (S:Cg) (pa:Bp) (i:Nat) (x:Gt):Prop:= ∃ ga,pa=some (zm ga 0)/\ga∈S/\w.cell? (zm ga (i*5))=some (zo (x.1:Int))/\w.cell? (zm ga (i*5+1))=some (um x.2.1.1)/\w.cell? (zm ga (i*5+2))=some (zo (x.2.1.2:Int))/\w.cell? (zm ga (i*5+3))=some (um x.2.2.1)/\w.cell? (zm ga (i*5+4))=some (zo (x.2.2.2:Int))/\x.2.1.1.size<1000000000/\x.2.2.1.size<1000000000/\1<=x.1/\x.1<=7
def Yj7 (w:Bb) (S:Cg) (pa:Bp) (i:Nat) (x:Hm):Prop:= ∃ ga,pa=some (zm ga 0)/\ga∈S/\w.cell? (zm ga (i*3))=some (um x.1)/\w.cell? (zm ga (i*3+1))=some (zo (x.2.1:Int))/\w.cell? (zm ga (i*3+2))=some (zo (x.2.2:Int))
structure Cx where
 q:Nat
 p:Nat
 m:Nat
 b:BD
 S:Cg
 pa:Bp
 ca:Nat
structure lG (w:Bb) (cs:Ca) (c:Cx):Prop where
 sz:cs.size=972
 c0:cs[0]?=some (zq c.p 0)
 c1:cs[1]?=some (um c.b.hd.1)
 head: ∃ ph ch,cs[2]?=some (sP ph c.b.hd.2.length ch)/\Ap 2 (VW w c.S) ph c.b.hd.2/\c.b.hd.2.length<=6
 atoms:cs[3]?=some (sP c.pa c.b.at_.length c.ca)/\c.b.at_.length<=4/\ ∀ i x,c.b.at_[i]?=some x->xF w c.S c.pa i x
 gu: ∃ pg cg,cs[4]?=some (sP pg c.b.gs.length cg)/\c.b.gs.length<=4/\ ∀ i x,c.b.gs[i]?=some x->Yj6 w c.S pg i x
 homes: ∃ pm cm,cs[5]?=some (sP pm c.b.hs.length cm)/\c.b.hs.length<=24/\ ∀ i x,c.b.hs[i]?=some x->Yj7 w c.S pm i x
 lS: ∀ j,j∈c.S->j<w.heap.size
def lG.WW {c:Cx}(h:lG w cs c): ∃ pa ca,cs[3]?=some (sP pa c.b.at_.length ca)/\c.b.at_.length<=4/\ ∀ i x,c.b.at_[i]?=some x->xF w c.S pa i x:=⟨_,_,h.atoms⟩
def lG.of {w':Bb}{cs':Ca}{c:Cx}(h:lG w cs c)(hs:w.heap.size<=w'.heap.size)(hb: ∀ k,k∈c.S->w'.heap[k]?=w.heap[k]?)(hc:cs'.size=cs.size/\ ∀ j,j<6->cs'[j]?=cs[j]?):lG w' cs' c:=by
 obtain⟨h1,h2,h21,⟨ph,ch,h22,h23,h24⟩,⟨h3,h31,h4⟩,⟨pg,cg,h5,h51,h6⟩,⟨pm,cm,h8,h81,h9⟩,h7⟩:=h;have cell: ∀ g,g∈c.S-> ∀ o,w'.cell? (zm g o)=w.cell? (zm g o):=fun g hg o=>A9 (a:=(zm g o)) (hb g hg);have slot: ∀ b o s,VW w c.S b o s->VW w' c.S b o s:=fun b o s ⟨k0,k1,k2,k3⟩=>⟨k0,by rw[cell b k0];exact k1,by rw[cell b k0];exact k2,k3⟩;refine⟨hc.1.trans h1,(hc.2 0 zx).trans h2,(hc.2 1 zx).trans h21,⟨ph,ch,(hc.2 2 zx).trans h22,h23.cy slot,h24⟩,⟨(hc.2 3 zx).trans h3,h31,fun i x hx=>?_⟩,⟨pg,cg,(hc.2 4 zx).trans h5,h51,fun i x hx=>?_⟩,⟨pm,cm,(hc.2 5 zx).trans h8,h81,fun i x hx=>?_⟩,fun j hj=>BK (h7 j hj) hs⟩
 .obtain⟨ga,ps,cc,e,m1,k1,k2,k3,k4⟩:=h4 i x hx;exact⟨ga,ps,cc,e,m1,by rw[cell ga m1];exact k1,by rw[cell ga m1];exact k2,k3.cy slot,k4⟩
 .obtain⟨ga,e,m1,k0,k1,k2,k3,k4,k5⟩:=h6 i x hx;exact⟨ga,e,m1,by rw[cell ga m1];exact k0,by rw[cell ga m1];exact k1,by rw[cell ga m1];exact k2,by rw[cell ga m1];exact k3,by rw[cell ga m1];exact k4,k5⟩
 .obtain⟨ga,e,m1,k0,k1,k2⟩:=h9 i x hx;exact⟨ga,e,m1,by rw[cell ga m1];exact k0,by rw[cell ga m1];exact k1,by rw[cell ga m1];exact k2⟩
end
section
variable {a:Nat->Addr}{w:Bb}{F:Cg}
variable [Mem]
structure Oq (a:Nat->Addr) (w:Bb):Prop where
 sent:AZ a w
 bits:ZN w
 most:24<=w.heap.size
def Oq.of {w':Bb}(h:Oq a w)(k:Off F w w')(hF: ∀ j,j∈F->24<=j):Oq a w':=by
 obtain⟨⟨w0,h0,h1⟩,h2,h3⟩:=h;have cell: ∀ g,g<24-> ∀ o,w'.cell? (zm g o)=w.cell? (zm g o):=fun g hg o=>A9 (a:=(zm g o)) (k.block g zx fun q=>fw (hF g q));exact⟨⟨w0,h0,fun g o hg=>⟨BK (h1 g o hg).1 k.size,(cell g hg o).trans (h1 g o hg).2⟩⟩,fun i z hz=>(cell _ zu i).trans (h2 i z hz),Ab h3 k.size⟩
structure Ctx (a:Nat->Addr) (c:Cx) (cs:Ca) (fs:List Fc) (vs:List T) (F:Cg) (xs:Bn) (ov:Value) (Fo:Cg) (w:Bb):Prop where
 bd:Bd w c.q 311 6 c.m cs xs ov Fo
 rd:lG w cs c
 wd:Df w c.p fs vs F
 gl:Oq a w
 dB: ∀ j,j∈c.q::c.m::Fo->j∉F/\j∉c.S/\24<=j
 dF: ∀ j,j∈F->j∉c.S/\24<=j
section
variable {a:Nat->Addr} {c:Cx} {w w':Bb} {cs cs':Ca} {fs fs':List Fc} {vs Ia:List T} {F F':Cg} {xs xs':Bn} {ov Br:Value} {Fo Au:Cg}
def Ctx.step (h:Ctx a c cs fs vs F xs ov Fo w)(hb:Bd w' c.q 311 6 c.m cs' xs' Br Au)(ho:Off (c.q::c.m::Fo) w w')(hs: ∀ i,i∈Au->i∈Fo\/w.heap.size<=i)(hc:cs'.size=cs.size/\ ∀ j,j<6->cs'[j]?=cs[j]?):Ctx a c cs' fs vs F xs' Br Au w':=by
 refine⟨hb,h.rd.of ho.size (fun k hk=>ho.block k (h.rd.lS k hk) fun q=>(h.dB k q).2.1 hk) hc,h.wd.off ho fun j hj q=>(h.dB j q).1 hj,h.gl.of ho fun j hj=>(h.dB j hj).2.2,fun j hj=>?_,h.dF⟩;simp only[Ak]at hj;rcases hj with rfl | rfl | hj
 .exact h.dB _ zw
 .exact h.dB _ zw
 .rcases hs j hj with hj | hj
  .exact h.dB j (by simp[hj])
  .exact⟨fun q=>fw (h.wd.lt j q),fun q=>fw (h.rd.lS j q),Ab h.gl.most hj⟩
def Ctx.other {G:Cg}(h:Ctx a c cs fs vs F xs ov Fo w)(ho:Off G w w')(hG: ∀ j,j∈G->j∉c.q::c.m::Fo/\j∉F/\j∉c.S/\24<=j):Ctx a c cs fs vs F xs ov Fo w':=
 ⟨h.bd.off ho fun j hj q=>(hG j q).1 hj,h.rd.of ho.size (fun k hk=>ho.block k (h.rd.lS k hk) fun q=>(hG k q).2.2.1 hk) ⟨rfl,fun _ _=>rfl⟩,h.wd.off ho fun j hj q=>(hG j q).2.1 hj,h.gl.of ho fun j hj=>(hG j hj).2.2.2,h.dB,h.dF⟩
def Ctx.be (h:Ctx a c cs fs vs F xs ov Fo w)(hb:Bl w w'):Ctx a c cs fs vs F xs ov Fo w':=
 h.step (h.bd.off (Off.of (F:=[]) hb) fun _ _=>zw) (Off.of hb) (fun _ h=> .inl h) ⟨rfl,fun _ _=>rfl⟩
def Ctx.world (h:Ctx a c cs fs vs F xs ov Fo w)(hw:Df w' c.p fs' Ia F')(ho:Off F w w')(hs: ∀ i,i∈F'->i∈F\/w.heap.size<=i):Ctx a c cs fs' Ia F' xs ov Fo w':=by
 refine⟨h.bd.off ho fun j hj q=>(h.dB j hj).1 q,h.rd.of ho.size (fun k hk=>ho.block k (h.rd.lS k hk) fun q=>(h.dF k q).1 hk) ⟨rfl,fun _ _=>rfl⟩,hw,h.gl.of ho fun j hj=>(h.dF j hj).2,fun j hj=>⟨fun q=>?_,(h.dB j hj).2⟩,fun j hj=>?_⟩
 .rcases hs j q with q | q
  .exact(h.dB j hj).1 q
  .have:=h.bd.lt j hj;omega
 .rcases hs j hj with q | q
  .exact h.dF j q
  .exact⟨fun r=>fw (h.rd.lS j r),Ab h.gl.most q⟩
def Ctx.cell (h:Ctx a c cs fs vs F xs ov Fo w)(j:Nat)(hj:j≠7):w.cell? (zm c.q j)=cs[j]?:=by
 rw[h.bd.blk.cell,Dy,xd zx]
def Ctx.fact (h:Ctx a c cs fs vs F xs ov Fo w){n:Nat}{fx:Fc}(hf:fs[n]?=some fx): ∃ gf cf,w.cell? (zm c.p 0)=some (sP (Qb gf 0) fs.length cf)/\c.p∈F/\gf∈F/\ ∀ j v,(Dq fx)[j]?=some v->w.cell? (zm gf (n*8+j))=some v:=by
 obtain⟨k,r,fv,vv,Ff,Fv,hw⟩:=h.wd;obtain⟨gf,cf,cs8,G,rfl,hgf,⟨_,rfl⟩,key⟩:=hw.fa.nth n fx hf;exact⟨gf,cf,hw.blk.four.1,by rw[hw.own];simp,by rw[hw.own];simp[hgf],key⟩
end
def Yjc (w:Bb) (vs:List T) (xs:Bn) (gs:List Gt) (iv:Value) (wr:Bb):Prop:= ∃ j:Nat,j<=gs.length/\iv= zo (j:Int)/\Gf vs xs gs=Gf vs xs (gs.drop j)/\Bl w wr
def Zm4 {c:Cx}{cs:Ca}{fs:List Fc}{vs:List T}{xs:Bn}{ov:Value}{Fo:Cg}(h:Ctx a c cs fs vs F xs ov Fo w)(hk:ui vs xs c.b.gs):
  Calls prog 175 #[zq c.q 0] w fun e w'=>e=uY (.bool<|Gf vs xs c.b.gs)/\Bl w w':=by
 obtain⟨pg,cg,c4,hg4,hG⟩:=h.rd.gu;have q4:=(h.cell 4 zx).trans c4;have q0:=(h.cell 0 zx).trans h.rd.c0;have H:=AC h;have HG:=AC hG;have HK:=AC hk;have CO:=AC fun u (hu:Bl w u) (s:Sl) (hs:s.1.size<1000000000)=>Zzz (w:=u) (q:=c.q) (o:=6) (v:= .map<|some c.m) (xs:=xs) (.inr ⟨c.m,rfl,h.bd.map.of<|hu.block c.m h.bd.map.lt⟩) ((A9 (a:=(zm c.q 6))<|hu.block c.q h.bd.blk.lt).trans h.bd.cells.1) (BK h.bd.blk.lt hu.size) (fun j hj=>by injection hj with hj;injection hj with hj;subst hj;exact BK h.bd.map.lt hu.size) s hs;have Ea:=h.bd.blk.lt;clear h hG hk c4;go_in
 go_wp2
 go_loopw [14] (fun iv wr=>Yjc w vs xs c.b.gs iv wr) (fun iv _=>c.b.gs.length-(intOf iv).toNat)
 .exact⟨0,zx,rfl,zw,AR _ _⟩
 .obtain⟨j,hj,rfl,OY,Af⟩:=hrel;have HB:=AC<|AJ OY Af;have XW:=Af.size;by_cases hlt:j<c.b.gs.length
  .have hgj:c.b.gs[j]?=some c.b.gs[j]:=A8 hlt;obtain⟨ga,rfl,zS,y0,y1,y2,y3,y4,z1,z2,o1,o7⟩:=HG.o j _ hgj;obtain⟨kk1,kk2,kk3⟩:=HK.o _<|QO hlt;have EA:AF (Gf vs xs c.b.gs=Gf vs xs (c.b.gs[j]::c.b.gs.drop (j+1))):=⟨by rw[OY,xH hlt]⟩;have NU:=H.o.rd.lS ga zS;have up: ∀ k o,k<w.heap.size->wr.cell? (zm k o)=w.cell? (zm k o):=fun k o hk=>A9 (a:=(zm k o)) (Af.block k hk);have lJ:=(up ga (j*5) NU).trans y0;have y1':=(up ga (j*5+1) NU).trans y1;have y2':=(up ga (j*5+2) NU).trans y2;have y3':=(up ga (j*5+3) NU).trans y3;have y4':=(up ga (j*5+4) NU).trans y4;clear OY Af y0 y1 y2 y3 y4 up hgj;generalize c.b.gs[j]=g at*;obtain⟨op,sa,sb⟩:=g;dsimp only at*;have KA:AF (∀ s:Sl,(s.1.size=0->s.2<vs.length)->(Dr xs s).2=true->(Dr xs s).1<vs.length):=⟨fun s h1 h2=>by
    have hK:=kE.1 h2;unfold Dr at h2⊢;split
    .exact h1 ‹_›
    .rename_i h0;rw[xd h0]at h2;cases hl:GH s.1 xs 0 with
     | none=>rw[hl]at h2;cases h2
     | some k=>exact kk3 _<|vO xs 0 hl⟩
   have ka1:=KA.o sa kk1;have ka2:=KA.o sb kk2;have KV:=AC<|AJ ka1 ka2;clear KA kk1 kk2 kk3 ka1 ka2;have B1: ∀ o,Bl w (wr.alloc o):=fun o=>HB.o.2.alloc HB.o.2.size o;have CC:=AC fun u (hu:Bl w u) n1 n2 x y h1 h2=>Zz4 (H.o.be hu).gl.sent (H.o.be hu).wd op n1 n2 x y h1 h2 ⟨o1,o7⟩;have bX:AF (Gf vs xs c.b.gs=((!((Dr xs sa).2 && (Dr xs sb).2) || gZ op (decide<|(Dr xs sa).1=(Dr xs sb).1) (vs.getD (Dr xs sa).1<|.mk 0 0 ⟨#[]⟩ []) (vs.getD (Dr xs sb).1<|.mk 0 0 ⟨#[]⟩ [])) && Gf vs xs (c.b.gs.drop<|j+1))):=⟨by rw[EA.o,Gf]⟩;clear EA o1 o7;go_wp2
   go_region_with (go_at_call 168;apply(CO.o _ (B1 _).drew sa z1).mono;rintro e w2 ⟨rfl,hb2⟩)
   have LG:=AC<|(AO.new wr #[zo (op:Int),um sa.1,zo (sa.2:Int),um sb.1,zo (sb.2:Int)] 313).of<|hb2.block wr.heap.size zw;have Ey:=AC<|(B1 _).drew.trans<|hb2.mono zc;have g3:=AO.cell LG.o 3;have g4:=AO.cell LG.o 4;simp at g3 g4;clear hb2;go_wp2
   go_region_with (go_at_call 168;apply(CO.o _ Ey.o.drew sb z2).mono;rintro e w3 ⟨rfl,hb3⟩)
   go_simp;have UA:=AC<|Ey.o.drew.trans<|hb3.mono Ey.o.size;have L3:=AC<|LG.o.of<|hb3.block wr.heap.size LG.o.lt;have k0:=AO.cell L3.o 0;simp at k0;have lX:=(A9 (a:=(zm c.q 0))<|UA.o.block c.q Ea).trans q0;have C3:=AC<|CC.o w3.drew UA.o.drew;clear hb3 g3 g4 CO lJ y1' y2' y3' y4' LG CC Ey B1;generalize (Dr xs sa).1=va at*;generalize (Dr xs sb).1=vb at*;generalize (Dr xs sa).2=ka at*;generalize (Dr xs sb).2=kb at*;cases ka with
   | false=>
    clear C3 KV;replace bX:AF (Gf vs xs c.b.gs=Gf vs xs (c.b.gs.drop<|j+1)):=⟨by rw[bX.o];simp⟩
    go_wp2
    go_quiet (fail)
    go_wp2
    go_roundw
    .exact⟨j+1,zx,by go_num,bX.o,MW UA.o⟩
    simp[intOf];omega
   | true=>
    cases kb with
    | false=>
     clear C3 KV;replace bX:AF (Gf vs xs c.b.gs=Gf vs xs (c.b.gs.drop<|j+1)):=⟨by rw[bX.o];simp⟩
     go_wp2
     go_quiet (fail)
     go_wp2
     go_roundw
     .exact⟨j+1,zx,by go_num,bX.o,MW UA.o⟩
     simp[intOf];omega
    | true=>
     obtain⟨mP,mO⟩:=KV.o;have C1:=AC<|C3.o va vb _ _ (A8<|mP rfl)<|A8<|mO rfl;have EB:AF (Gf vs xs c.b.gs=(gZ op (decide<|va=vb) (vs[va]'(mP rfl)) (vs[vb]'(mO rfl)) && Gf vs xs (c.b.gs.drop<|j+1))):=⟨by rw[bX.o,xr,xr,A8<|mP rfl,A8<|mO rfl];simp⟩;generalize gZ op (decide<|va=vb) (vs[va]'(mP rfl)) (vs[vb]'(mO rfl))=r at*;clear C3 KV bX mP mO;have iX:=L3.o.lt;have yl:=BK Ea UA.o.size;go_wp2
     go_region_held3 (fun u=>u.cell? (zm wr.heap.size 0)=some (zo (op:Int))/\u.cell? (zm c.q 0)=some (zq c.p 0)) (first | exact⟨k0,lX⟩ | exact⟨k4,q4'⟩) (first
      | (go_at_call 229;apply mq C1.o;rintro w4 hb4;have k4:=(A9 (a:=(zm wr.heap.size 0))<|hb4.block wr.heap.size iX).trans k0;have q4':=(A9 (a:=(zm c.q 0))<|hb4.block c.q yl).trans lX))
     all_goals
      have U6:=AC<|UA.o.drew.trans<|hb4.mono UA.o.size;clear hb4 C1;cases r with
      | false=>
       go_wp2
       go_ret
       rw[EB.o];exact⟨rfl,U6.o⟩
      | true=>
       replace EB:AF (Gf vs xs c.b.gs=Gf vs xs (c.b.gs.drop<|j+1)):=⟨EB.o⟩
       go_wp2
       go_roundw
       .exact⟨j+1,zx,by go_num,EB.o,U6.o⟩
       simp[intOf];omega
  .obtain rfl:j=c.b.gs.length:=zx
   rw[List.drop_length]at OY;have EA:=AC OY;clear OY Af;go_wp2
   go_ret
   rw[EA.o];exact⟨rfl,HB.o.2⟩
end
end Go.W
