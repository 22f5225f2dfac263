import Derived.Test.YtpmcefkhkkpnbaaGreatDoorW25
import Derived.MapKept
set_option linter.all false
set_option maxRecDepth 100000
set_option maxHeartbeats 8000000
open Go.Proofs Go.RowKit Go.W Tryz
namespace Go.W
variable {t:Ay}{e:Int×Nat}{u:Unit}{x:Tk}{p:Nat}
def Zuk {α:Type}{f:Tk->Nat->Re α}(h:8000<t.size):Gu t f= .error (4,8000):=by unfold Gu;rw[xj h]
def Zul {α:Type}{f:Tk->Nat->Re α}(h: ¬ 8000<t.size)(hr:Np t 0= .error e):Gu t f= .error e:=by unfold Gu;rw[xd h,Es hr]
def Zr4 {α:Type}{f:Tk->Nat->Re α}(h: ¬ 8000<t.size)(hr:Np t 0= .ok (u,x,p))(hf:f x p= .error e):Gu t f= .error e:=by unfold Gu;rw[xd h,Ee hr,hf]
def Z39 {α:Type}{f:Tk->Nat->Re α}(h: ¬ 8000<t.size)(hr:Np t 0= .ok (u,x,p)){y:α}{x2:Tk}{p2:Nat}(hf:f x p= .ok (y,x2,p2)):Gu t f= .ok y:=by unfold Gu;rw[xd h,Ee hr,hf]
variable {a:Nat->Addr}{w:Bb}
def Zn3 (v:Value)(w:Bb):(Instr.typeAssert (.iface 86 v) 20 86 true).run prog w= .ok (.tuple #[v,.bool true]) w:=zt
def Zyo (b L:Nat)(x:Value)(w:Bb)(hc:w.cell? (zm b 0)=some x)(hf:w.frozen? (zm b 0)=false):CallsD prog 69 #[zq b 0] (.panicking [{v:= .iface 86<|zq L 0,recovered:=false}]) w fun e u' w'=>
  e=uY (.tuple #[])/\u'= .panicking [{v:= .iface 86<|zq L 0,recovered:=true}]/\w'=w.setCell (zm b 0) (.iface 86<|zq L 0):=by
 have hbl:=Wx hc;refine callsD_of_wpS func69 rfl fun c₀ cs hu=>?_;apply wpS_seq
 apply wpS_region
 simp[wpOpsS,go_sem,recoverD,hu,ntmps69,Exit.thenS,Array.replicate,List.replicate];refine wpS_of_wp ?_;have ta:=Zn3;go_wp2_with fail
 simp[bodyPostS,results,results69]
def Ygl (b:Nat)(w:Bb):CallsD prog 69 #[zq b 0] .returning w fun e u' w'=>e=uY (.tuple #[])/\u'= .returning/\w'=w:=by
 refine callsD_of_wpS func69 rfl fun c₀ cs hu=>?_;apply wpS_seq
 apply wpS_region
 simp[wpOpsS,go_sem,recoverD,hu,ntmps69,Exit.thenS,Array.replicate,List.replicate];refine wpS_of_wp ?_;go_wp2_with fail
 cases c₀;simp_all [bodyPostS,results,results69]
def vV {α:Type} (a:Nat->Addr) (w:Bb) (zero:Value) (V:Bb->Value->α->Prop) (Y:Except (Int×Nat) α) (e:Ending) (w':Bb):Prop:=
 Bl w w'/\((∃ n p L,Y= .error (n,p)/\n≠0/\w.heap.size<=L/\e=uY (.tuple #[zero,.iface 86<|zq L 0])/\AO w' L #[zo (p:Int),BG a n] 90)\/ ∃ v y,Y= .ok y/\e=uY (.tuple #[v,.nilIface])/\V w' v y)
def Zvc:Da 34:=EH func34 zt rfl
def Z1a (t:Ay)(ht:t.size<1000000000)(Z:AZ a w):
  Calls prog 33 #[um t,.func (.func 34) #[] #[]] w (vV a w (.agg #[zn,zn,zn]) (Ie (Dx AV 4) w.heap.size)<|Gu t<|QG t):=by
 have Ho:=MR;have hg:=Z.size;have Dz: ∀ args w,(callFunc 34 args).run prog w= .ok (.enter 34 args) w:=Zvc;by_cases IG:8000<t.size
 .have Y:=AC<|Zuk (f:=QG t) IG;have g1:decide (8000<(t.size:Int))=true:=zc
  have z4:=fun o o'=>Cb (Cb Z.c4<|(AR _ w).alloc lr o) ((AR _ _).alloc lr o');simp only[BU a (show(4:Int)≠0 by decide)]at z4;clear Z;go_enter_defers func33,ntmps33
  go_wp2
  go_region
  all_goals go_wp2_with fail
  have q0:=AC<|(zv w<|.cells #[zn,zn,zn] 38).alloc zw<|.cells #[.iface 86<|zq (w.heap.size+1+1) 0] 57;have q1:=AC<|(q0.o.alloc zc<|.cells #[zo 8000,zr<|a 3] 90).drew;have q2:=AC<|AO.new ((w.alloc<|.cells #[zn,zn,zn] 38).alloc<|.cells #[.iface 86<|zq (w.heap.size+1+1) 0] 57) #[zo 8000,zr<|a 3] 90;simp only[EV]at q2;simp[bodyPostD,Leaves,results,results33,go_sem];exact⟨q1.o,Or.inl ⟨4,8000,w.heap.size+1+1,Y.o,zu,zx,rfl,q2.o⟩⟩
 .have g1:decide (8000<(t.size:Int))=false:=zc
  have B0:=AC<|((zv w<|.cells #[zn,zn,zn] 38).alloc zw<|.cells #[.nilIface] 57).alloc zc<|.cells #[um t,zo 0,zo 0,sE,zo 0,zo 0,sE,zn] 182;have LR:=AC<|((AO.new w #[zn,zn,zn] 38).alloc<|.cells #[.nilIface] 57).alloc<|.cells #[um t,zo 0,zo 0,sE,zo 0,zo 0,sE,zn] 182;have LE:=AC<|(AO.new (w.alloc<|.cells #[zn,zn,zn] 38) #[.nilIface] 57).alloc<|.cells #[um t,zo 0,zo 0,sE,zo 0,zo 0,sE,zn] 182;have LD:=AC<|AO.new ((w.alloc<|.cells #[zn,zn,zn] 38).alloc<|.cells #[.nilIface] 57) #[um t,zo 0,zo 0,sE,zo 0,zo 0,sE,zn] 182;simp only[EV]at LE LD;have rq:Rd (((w.alloc<|.cells #[zn,zn,zn] 38).alloc<|.cells #[.nilIface] 57).alloc<|.cells #[um t,zo 0,zo 0,sE,zo 0,zo 0,sE,zn] 182) (w.heap.size+1+1) t 0 (KR 0):=⟨LD.o,zx,zx,zx⟩;have C:=AC<|Zv5 (Z.be B0.o) rq;have ZZ:=AC Z;clear Z LD rq;go_enter_defers func33,ntmps33
  go_wp2_with fail
  apply C.o.mono;rintro e w1 ⟨AX,⟨n,r,hy,hn,L,hL,rfl,hB⟩ | ⟨v,u,x1,r1,hy,rfl,hv,hr1⟩⟩
  .have NF:=LR.o.of<|AX.block w.heap.size zc zx;have JD:=LE.o.of<|AX.block (w.heap.size+1) zw zx;have B1:=AC<|B0.o.trans<|AX.be (B:=w.heap.size) zx zc;obtain⟨y0,sy⟩:=JD.one;simp at hL;have q0:=AC<|NF.away (w.heap.size+1) 0 zx<|.iface 86<|zq L 0;have q1:=AC<|JD.set 0<|.iface 86<|zq L 0;have q2:=AC<|B1.o.setCell (p:=(zm (w.heap.size+1) 0)) (by show w.heap.size<=w.heap.size+1;omega)<|.iface 86<|zq L 0;have q3:=AC<|hB.away (w.heap.size+1) 0 zx<|.iface 86<|zq L 0;refine Vn (f:=69) (args:=#[zq (w.heap.size+1) 0]) zw (by simp[go_sem]) ?_;apply(Zyo _ _ _ w1 y0<|sy 0).mono;rintro e u' w'' ⟨rfl,rfl,hw⟩;rw[<- hw]at q0 q1 q2 q3;obtain⟨z0,z1,z2,sz⟩:=q0.o.three;obtain⟨x0,sx⟩:=AO.one (a:= .iface 86<|zq L 0) q1.o;clear hw;simp[Leaves,settle,results,results33,go_sem,z0,z1,z2,x0];exact⟨q2.o,Or.inl ⟨n,r,L,Zul IG hy,hn,zx,rfl,q3.o⟩⟩
  obtain rfl:v= .tuple #[]:=hv;have hx1:=Zv4 zx hy;have Z1:=(ZZ.o.be B0.o).keeps AX zx;have NF:=AC<|LR.o.of<|AX.block w.heap.size zc zx;have JD:=AC<|LE.o.of<|AX.block (w.heap.size+1) zw zx;have B1:=AC<|B0.o.trans<|AX.be (B:=w.heap.size) zx zc;have hs1:=AX.size;simp at hs1;have CB:=AC<|Z58 Z1 hr1 hx1;have HY:=AC hy;clear AX hy hr1 C LR LE Z1;go_wp2_with fail
  apply CB.o.mono;rintro e w2 ⟨hk2,⟨n,r,hy,hn,L,hL,rfl,hB⟩ | ⟨v,k,x2,r2,hy,rfl,⟨vs,F,rfl,hQ,hN⟩,hr2⟩⟩
  .have Vt:=NF.o.of<|hk2.block w.heap.size zx zx;have Tv:=JD.o.of<|hk2.block (w.heap.size+1) zx zx;have B2:=AC<|B1.o.trans<|hk2.be (B:=w.heap.size) zx zx;obtain⟨y0,sy⟩:=Tv.one;have q0:=AC<|Vt.away (w.heap.size+1) 0 zx<|.iface 86<|zq L 0;have q1:=AC<|Tv.set 0<|.iface 86<|zq L 0;have q2:=AC<|B2.o.setCell (p:=(zm (w.heap.size+1) 0)) (by show w.heap.size<=w.heap.size+1;omega)<|.iface 86<|zq L 0;have q3:=AC<|hB.away (w.heap.size+1) 0 zx<|.iface 86<|zq L 0;refine Vn (f:=69) (args:=#[zq (w.heap.size+1) 0]) zw (by simp[go_sem]) ?_;apply(Zyo _ _ _ w2 y0<|sy 0).mono;rintro e u' w'' ⟨rfl,rfl,hw⟩;rw[<- hw]at q0 q1 q2 q3;obtain⟨z0,z1,z2,sz⟩:=q0.o.three;obtain⟨x0,sx⟩:=AO.one (a:= .iface 86<|zq L 0) q1.o;clear hw;simp[Leaves,settle,results,results33,go_sem,z0,z1,z2,x0];exact⟨q2.o,Or.inl ⟨n,r,L,Zr4 IG HY.o hy,hn,zx,rfl,q3.o⟩⟩
  have HQ:=AC hQ;obtain⟨fv,rv,cv,F1,F2,F3,rfl,h1,h2,h3,hF⟩:=hQ;obtain⟨p1,c1,rfl⟩:=AQ.form h1;obtain⟨p2,c2,rfl⟩:=AQ.form h2;obtain⟨p3,c3,rfl⟩:=AQ.form h3;have Vt:=AC<|NF.o.of<|hk2.block w.heap.size zx zx;have Tv:=AC<|JD.o.of<|hk2.block (w.heap.size+1) zx zx;have B2:=AC<|B1.o.trans<|hk2.be (B:=w.heap.size) zx zx;have Y:=AC<|Z39 IG HY.o hy;have HN:=AC hN;clear h1 h2 h3 hF hk2 hr2 hy hN CB NF JD B1;obtain⟨z0,z1,z2,sz⟩:=Vt.o.three;obtain⟨e0,se⟩:=Tv.o.one;have q0:=AC<|(((Vt.o.set 0<|sP p1 k.fa.length c1).set 1<|sP p2 k.ru.length c2).set 2<|sP p3 k.ck.length c3).away (w.heap.size+1) 0 zx .nilIface;have q1:=AC<|(((Tv.o.away w.heap.size 0 zx<|sP p1 k.fa.length c1).away w.heap.size 1 zx<|sP p2 k.ru.length c2).away w.heap.size 2 zx<|sP p3 k.ck.length c3).set 0 .nilIface;have q2:=AC<|(((B2.o.setCell (p:=(zm w.heap.size 0)) lr<|sP p1 k.fa.length c1).setCell (p:=(zm w.heap.size 1)) lr<|sP p2 k.ru.length c2).setCell (p:=(zm w.heap.size 2)) lr<|sP p3 k.ck.length c3).setCell (p:=(zm (w.heap.size+1) 0)) (by show w.heap.size<=w.heap.size+1;omega) .nilIface;have q3:AF (∀ j,j∈F->((((w2.setCell (zm w.heap.size 0)<|sP p1 k.fa.length c1).setCell (zm w.heap.size 1)<|sP p2 k.ru.length c2).setCell (zm w.heap.size 2)<|sP p3 k.ck.length c3).setCell (zm (w.heap.size+1) 0) .nilIface).heap[j]?=w2.heap[j]?):=⟨fun j hj=>by
   have g1:=HN.o.ge j hj;rw[Aw _ _ _ _ (by show j≠w.heap.size+1;omega),Vd zx]⟩
  have q4:AF (Ag w.heap.size ((((w2.setCell (zm w.heap.size 0)<|sP p1 k.fa.length c1).setCell (zm w.heap.size 1)<|sP p2 k.ru.length c2).setCell (zm w.heap.size 2)<|sP p3 k.ck.length c3).setCell (zm (w.heap.size+1) 0) .nilIface) F):=⟨HN.o.la zx zw⟩;go_wp2_with fail
  clear z0 z1 z2 sz e0 se;refine Vn (f:=69) (args:=#[zq (w.heap.size+1) 0]) zw (by simp[go_sem]) ?_;apply(Ygl _ _).mono;rintro e u' w'' ⟨rfl,rfl,hw⟩;rw[<- hw]at q0 q1 q2 q3 q4;obtain⟨z0,z1,z2,sz⟩:=AO.three (a:= sP p1 k.fa.length c1) (b:= sP p2 k.ru.length c2) (c:= sP p3 k.ck.length c3) q0.o;obtain⟨x0,sx⟩:=AO.one (a:= .nilIface) q1.o;clear hw;simp[Leaves,settle,results,results33,go_sem,z0,z1,z2,x0];exact⟨q2.o,Or.inr ⟨_,k,Y.o,rfl,⟨_,F,rfl,Dx.sb (ty:=AV) 4 _ _ _ _ _ HQ.o q3.o,q4.o⟩⟩⟩
def Z96 (t:Ay)(ht:t.size<1000000000)(Z:AZ a w):
  Calls prog 19 #[um t] w (vV a w (.agg #[zn,zn,zn]) (Ie (Dx AV 4) w.heap.size)<|Gu t<|QG t):=by
 have Ho:=MR;have B0:=AC<|(AR _ w).alloc lr<|.cells #[zn,zn,zn] 38;have L0:=AC<|AO.new w #[zn,zn,zn] 38;have C:=AC<|Z1a t ht<|Z.be B0.o;clear Z;go_in
 go_wp2_with fail
 apply C.o.mono;rintro e w1 ⟨hb1,⟨n,p,L,hy,hn,hL,rfl,hB⟩ | ⟨v,k,hy,rfl,⟨vs,F,rfl,hQ,hN⟩⟩⟩
 .obtain⟨y0,y1,y2,sy⟩:=(L0.o.of<|hb1.block _ zw).three;have R:=AC<|AJ (B0.o.trans<|hb1.mono zw)<|AJ hy hB;simp at hL;clear hb1 hy hB C;go_wp2
  refine Bg (by simp[results,results19,go_sem,y0,y1,y2];try rfl) rfl ?_;exact⟨((R.o.1.setCell (p:=(zm w.heap.size 0)) lr _).setCell (p:=(zm w.heap.size 1)) lr _).setCell (p:=(zm w.heap.size 2)) lr _,Or.inl ⟨n,p,L,R.o.2.1,hn,zx,rfl,((R.o.2.2.away _ _ zx _).away _ _ zx _).away _ _ zx _⟩⟩
 .have HQ:=AC hQ;obtain⟨fv,rv,cv,F1,F2,F3,rfl,h1,h2,h3,hF⟩:=hQ;obtain⟨p1,c1,rfl⟩:=AQ.form h1;obtain⟨p2,c2,rfl⟩:=AQ.form h2;obtain⟨p3,c3,rfl⟩:=AQ.form h3;obtain⟨y0,y1,y2,sy⟩:=(L0.o.of<|hb1.block _ zw).three;have R:=AC<|AJ (B0.o.trans<|hb1.mono zw)<|AJ hy hN;clear h1 h2 h3 hF hb1 hy hN C;go_wp2
  refine Bg (by simp[results,results19,go_sem,y0,y1,y2];try rfl) rfl ?_;exact⟨((R.o.1.setCell (p:=(zm w.heap.size 0)) lr _).setCell (p:=(zm w.heap.size 1)) lr _).setCell (p:=(zm w.heap.size 2)) lr _,Or.inr ⟨_,k,R.o.2.1,rfl,⟨_,F,rfl,Dx.sb (ty:=AV) 4 _ _ _ _ _ HQ.o fun j hj=>Vd (by have:=R.o.2.2.ge j hj;simp at this;omega),R.o.2.2.la zw zw⟩⟩⟩
def Zyp (b L:Nat)(x:Value)(w:Bb)(hc:w.cell? (zm b 0)=some x)(hf:w.frozen? (zm b 0)=false):CallsD prog 75 #[zq b 0] (.panicking [{v:= .iface 86<|zq L 0,recovered:=false}]) w fun e u' w'=>
  e=uY (.tuple #[])/\u'= .panicking [{v:= .iface 86<|zq L 0,recovered:=true}]/\w'=w.setCell (zm b 0) (.iface 86<|zq L 0):=by
 have hbl:=Wx hc;refine callsD_of_wpS func75 rfl fun c₀ cs hu=>?_;apply wpS_seq
 apply wpS_region
 simp[wpOpsS,go_sem,recoverD,hu,ntmps75,Exit.thenS,Array.replicate,List.replicate];refine wpS_of_wp ?_;have ta:=Zn3;go_wp2_with fail
 simp[bodyPostS,results,results75]
def Ygm (b:Nat)(w:Bb):CallsD prog 75 #[zq b 0] .returning w fun e u' w'=>e=uY (.tuple #[])/\u'= .returning/\w'=w:=by
 refine callsD_of_wpS func75 rfl fun c₀ cs hu=>?_;apply wpS_seq
 apply wpS_region
 simp[wpOpsS,go_sem,recoverD,hu,ntmps75,Exit.thenS,Array.replicate,List.replicate];refine wpS_of_wp ?_;go_wp2_with fail
 cases c₀;simp_all [bodyPostS,results,results75]
def Zo6:Da 36:=EH func36 zt rfl
def Z1b (t:Ay)(ht:t.size<1000000000)(Z:AZ a w):
  Calls prog 35 #[um t,.func (.func 36) #[] #[]] w (vV a w (zn) (S9 189 2 (DY AV 4) w.heap.size)<|Gu t<|Vh t):=by
 have Ho:=MR;have hg:=Z.size;have Dz: ∀ args w,(callFunc 36 args).run prog w= .ok (.enter 36 args) w:=Zo6;by_cases IG:8000<t.size
 .have Y:=AC<|Zuk (f:=Vh t) IG;have g1:decide (8000<(t.size:Int))=true:=zc
  have z4:=fun o=>Cb Z.c4 ((AR _ w).alloc lr o);simp only[BU a (show(4:Int)≠0 by decide)]at z4;clear Z;go_enter_defers func35,ntmps35
  go_wp2
  go_region
  all_goals go_wp2_with fail
  have q0:=AC<|zv w<|.cells #[.iface 86<|zq (w.heap.size+1) 0] 57;have q1:=AC<|(q0.o.alloc zw<|.cells #[zo 8000,zr<|a 3] 90).drew;have q2:=AC<|AO.new (w.alloc<|.cells #[.iface 86<|zq (w.heap.size+1) 0] 57) #[zo 8000,zr<|a 3] 90;simp only[EV]at q2;simp[bodyPostD,Leaves,results,results35,go_sem];exact⟨q1.o,Or.inl ⟨4,8000,w.heap.size+1,Y.o,zu,zx,rfl,q2.o⟩⟩
 .have g1:decide (8000<(t.size:Int))=false:=zc
  have B0:=AC<|(zv w<|.cells #[.nilIface] 57).alloc zw<|.cells #[um t,zo 0,zo 0,sE,zo 0,zo 0,sE,zn] 182;have LE:=AC<|(AO.new w #[.nilIface] 57).alloc<|.cells #[um t,zo 0,zo 0,sE,zo 0,zo 0,sE,zn] 182;have LD:=AC<|AO.new (w.alloc<|.cells #[.nilIface] 57) #[um t,zo 0,zo 0,sE,zo 0,zo 0,sE,zn] 182;simp only[EV]at LD;have rq:Rd ((w.alloc<|.cells #[.nilIface] 57).alloc<|.cells #[um t,zo 0,zo 0,sE,zo 0,zo 0,sE,zn] 182) (w.heap.size+1) t 0 (KR 0):=⟨LD.o,zx,zx,zx⟩;have C:=AC<|Zv5 (Z.be B0.o) rq;have ZZ:=AC Z;clear Z LD rq;go_enter_defers func35,ntmps35
  go_wp2_with fail
  apply C.o.mono;rintro e w1 ⟨AX,⟨n,r,hy,hn,L,hL,rfl,hB⟩ | ⟨v,u,x1,r1,hy,rfl,hv,hr1⟩⟩
  .have JD:=LE.o.of<|AX.block w.heap.size zc zx;have B1:=AC<|B0.o.trans<|AX.be (B:=w.heap.size) zx zc;simp at hL;obtain⟨y0,sy⟩:=JD.one;have q1:=AC<|JD.set 0<|.iface 86<|zq L 0;have q2:=AC<|B1.o.setCell (p:=(zm w.heap.size 0)) lr<|.iface 86<|zq L 0;have q3:=AC<|hB.away w.heap.size 0 zx<|.iface 86<|zq L 0;refine Vn (f:=75) (args:=#[zq w.heap.size 0]) zw (by simp[go_sem]) ?_;apply(Zyp _ _ _ w1 y0<|sy 0).mono;rintro e u' w'' ⟨rfl,rfl,hw⟩;rw[<- hw]at q1 q2 q3;obtain⟨x0,sx⟩:=AO.one (a:= .iface 86<|zq L 0) q1.o;clear hw;simp[Leaves,settle,results,results35,go_sem,x0];exact⟨q2.o,Or.inl ⟨n,r,L,Zul IG hy,hn,zx,rfl,q3.o⟩⟩
  obtain rfl:v= .tuple #[]:=hv;have hx1:=Zv4 zx hy;have Z1:=(ZZ.o.be B0.o).keeps AX zx;have JD:=AC<|LE.o.of<|AX.block w.heap.size zc zx;have B1:=AC<|B0.o.trans<|AX.be (B:=w.heap.size) zx zc;have hs1:=AX.size;simp at hs1;have CB:=AC<|Zv7 Z1 hr1 hx1;have HY:=AC hy;clear AX hy hr1 C LE Z1;go_wp2_with fail
  apply CB.o.mono;rintro e w2 ⟨hk2,⟨n,r,hy,hn,L,hL,rfl,hB⟩ | ⟨v,k,x2,r2,hy,rfl,⟨F,hR,hN⟩,hr2⟩⟩
  .have Tv:=JD.o.of<|hk2.block w.heap.size zx zx;have B2:=AC<|B1.o.trans<|hk2.be (B:=w.heap.size) zx zx;obtain⟨y0,sy⟩:=Tv.one;have q1:=AC<|Tv.set 0<|.iface 86<|zq L 0;have q2:=AC<|B2.o.setCell (p:=(zm w.heap.size 0)) lr<|.iface 86<|zq L 0;have q3:=AC<|hB.away w.heap.size 0 zx<|.iface 86<|zq L 0;refine Vn (f:=75) (args:=#[zq w.heap.size 0]) zw (by simp[go_sem]) ?_;apply(Zyp _ _ _ w2 y0<|sy 0).mono;rintro e u' w'' ⟨rfl,rfl,hw⟩;rw[<- hw]at q1 q2 q3;obtain⟨x0,sx⟩:=AO.one (a:= .iface 86<|zq L 0) q1.o;clear hw;simp[Leaves,settle,results,results35,go_sem,x0];exact⟨q2.o,Or.inl ⟨n,r,L,Zr4 IG HY.o hy,hn,zx,rfl,q3.o⟩⟩
  have HQ:=AC hR;obtain⟨p1,c1,rfl⟩:=AQ.form hR;have Tv:=AC<|JD.o.of<|hk2.block w.heap.size zx zx;have B2:=AC<|B1.o.trans<|hk2.be (B:=w.heap.size) zx zx;have Y:=AC<|Z39 IG HY.o hy;have HN:=AC hN;clear hR hk2 hr2 hy hN CB JD B1;obtain⟨e0,se⟩:=Tv.o.one;have q1:=AC<|Tv.o.set 0 .nilIface;have q2:=AC<|B2.o.setCell (p:=(zm w.heap.size 0)) lr .nilIface;have q3:AF (∀ j,j∈F->(w2.setCell (zm w.heap.size 0) .nilIface).heap[j]?=w2.heap[j]?):=⟨fun j hj=>by
   have g1:=HN.o.ge j hj;exact Aw _ _ _ _ (by show j≠w.heap.size;omega)⟩
  have q4:AF (Ag w.heap.size (w2.setCell (zm w.heap.size 0) .nilIface) F):=⟨HN.o.la zx zw⟩;go_wp2_with fail
  clear e0 se;refine Vn (f:=75) (args:=#[zq w.heap.size 0]) zw (by simp[go_sem]) ?_;apply(Ygm _ _).mono;rintro e u' w'' ⟨rfl,rfl,hw⟩;rw[<- hw]at q1 q2 q3 q4;obtain⟨x0,sx⟩:=AO.one (a:= .nilIface) q1.o;clear hw;simp[Leaves,settle,results,results35,go_sem,x0];exact⟨q2.o,Or.inr ⟨_,k,Y.o,rfl,⟨F,AQ.sb (DY.sb (ty:=AV) 4) _ _ _ _ _ HQ.o q3.o,q4.o⟩⟩⟩
def Zno (t:Ay)(ht:t.size<1000000000)(Z:AZ a w):
  Calls prog 20 #[um t] w (vV a w (zn) (S9 189 2 (DY AV 4) w.heap.size)<|Gu t<|Vh t):=by
 have Ho:=MR;have C:=AC<|Z1b t ht Z;clear Z;go_in
 go_wp2_with fail
 apply C.o.mono;rintro e w1 ⟨hb1,⟨n,p,L,hy,hn,hL,rfl,hB⟩ | ⟨v,k,hy,rfl,⟨F,hR,hN⟩⟩⟩
 .go_wp2
  refine Bg (by simp[results,results20,go_sem];try rfl) rfl ?_;exact⟨hb1,Or.inl ⟨n,p,L,hy,hn,hL,rfl,hB⟩⟩
 .have R:=AC<|AJ hb1<|AJ hy<|AJ hR hN;obtain⟨p1,c1,rfl⟩:=AQ.form hR;clear hb1 hy hR hN C;go_wp2
  refine Bg (by simp[results,results20,go_sem];try rfl) rfl ?_;exact⟨R.o.1,Or.inr ⟨_,k,R.o.2.1,rfl,⟨F,R.o.2.2.1,R.o.2.2.2⟩⟩⟩
variable {n:Int}
def Ygo (h:PO n): ∃ k:Nat,n=(k:Int)+1/\k<10:=⟨(n-1).toNat,by have:=h.1;omega,by have:=h.2;have:=h.1;omega⟩
def wu (a:Nat->Addr)(k:Nat):BG a ((k:Int)+1)= .iface 430 (.pointer<|some<|a k):=by
 rw[BU a zx,show((k:Int)+1).toNat-1=k by omega]
def kD (w:Bb):Calls prog 16 #[.nilIface] w fun e w'=>e=uY (.tuple #[zo 0,zo (-1)])/\w'=w:=by
 go_in
 go_wp2
 go_ret2
 exact⟨rfl,rfl⟩
def Z9y (Z:AZ a w)(E:IL a w)(h:Wr n):Calls prog 16 #[BG a n] w fun e w'=>e=uY (.tuple #[zo n,zo (-1)])/\Bl w w':=by
 rcases h with rfl | h
 .rw[JR];exact(kD w).mono fun e w' ⟨h1,h2⟩=>⟨h1,h2▸AR _ _⟩
 .obtain⟨k,rfl,hk⟩:=Ygo h;rw[wu];exact Zoj Z E k hk
def XT (s:(Option Addr×Nat×Nat)×(Option Addr×Nat×Nat)×Bp×Nat×Nat):Ca:=#[sP s.1.1 s.1.2.1 s.1.2.2,sP s.2.1.1 s.2.1.2.1 s.2.1.2.2,sP s.2.2.1 s.2.2.2.1 s.2.2.2.2]
def Yad {x:Value}{J:(Option Addr×Nat×Nat)×(Option Addr×Nat×Nat)×Bp×Nat×Nat->Value->Bb->Prop}{K:(Option Addr×Nat×Nat)×(Option Addr×Nat×Nat)×Bp×Nat×Nat->Int->Bb->Prop}
  (CP: ∀ u,Bl w u->w.heap.size<u.heap.size->Calls prog 19 #[x] u fun e w'=> ∃ s er,e=uY (.tuple #[.agg<|XT s,er])/\J s er w'/\Bl u w')
  (sJ: ∀ s er u v,J s er u->Bl u v->J s er v) (sK: ∀ s m u v,K s m u->Off [w.heap.size] u v->K s m v)
  (CN: ∀ s er u,J s er u->Bl w u->Calls prog 16 #[er] u fun e w'=> ∃ m p,e=uY (.tuple #[zo m,zo p])/\K s m w'/\Bl u w'):
  Calls prog 10 #[x] w fun e w'=> ∃ s m p,e=uY (.tuple #[.agg<|XT s,zo m,zo p])/\K s m w'/\Bl w w':=by
 have C:=AC CP;have SJ:=AC sJ;have SK:=AC sK;have N:=AC CN;clear CP sJ sK CN;go_in
 go_wp2_with fail
 have B0:=zv w<|.cells #[zn,zn,zn] 38;have N0:=AO.new w #[zn,zn,zn] 38;generalize w.alloc (.cells #[zn,zn,zn] 38)=W0 at*;apply(C.o _ B0 N0.lt).mono;rintro e w1 ⟨⟨⟨p,n,c⟩,⟨p1,n1,c1⟩,p2,n2,c2⟩,er,rfl,j,hb⟩;have N1:=N0.of<|hb.block _ N0.lt;have B1:=B0.trans<|hb.mono B0.size;have J1:=AC<|SJ.o _ _ _ _ j<|(AR _ w1).alloc lr<|.cells #[sP p n c,sP p1 n1 c1,sP p2 n2 c2] 38;have B2:=B1.alloc B1.size<|.cells #[sP p n c,sP p1 n1 c1,sP p2 n2 c2] 38;have N2:=N1.alloc<|.cells #[sP p n c,sP p1 n1 c1,sP p2 n2 c2] 38;have M2:=AO.new w1 #[sP p n c,sP p1 n1 c1,sP p2 n2 c2] 38;have Ey:=AC B2;have N8:=AC N2;have HM2:=AC M2;clear j hb N1 B1 N0 B0 B2 N2 M2;simp only[XT];go_wp2_with fail
 apply(N.o _ _ _ J1.o Ey.o).mono;rintro e w2 ⟨m,q,rfl,k2,hb2⟩;have N3:=N8.o.of<|hb2.block _ N8.o.lt;have M3:=HM2.o.of<|hb2.block _ HM2.o.lt;have B3:=tr Ey hb2;obtain⟨y0,y1,y2,ys⟩:=N3.three;obtain⟨z0,z1,z2,zs⟩:=M3.three;have K2:=AC k2;clear k2 hb2 N3 M3 J1;go_wp2
 refine Bg (by simp[results,results10,go_sem,y0,y1,y2];try rfl) rfl ?_;refine⟨((p,n,c),(p1,n1,c1),p2,n2,c2),m,q,rfl,SK.o _ _ _ _ K2.o (((Off.refl _ w2).set _ _ _<|.inl zw).set _ _ _ (.inl zw) |>.set _ _ _ (.inl zw)),((B3.o.setCell lr _).setCell lr _).setCell lr _⟩
def xe (w:Bb) (Y:Prop) (G:Bk->Prop) (s:(Option Addr×Nat×Nat)×(Option Addr×Nat×Nat)×Bp×Nat×Nat) (m:Int) (u:Bb):Prop:=(Y/\m≠0/\s=((none,0,0),(none,0,0),none,0,0))\/(m=0/\ ∃ x F,G x/\Dx AV 4 u (XT s).toList x F/\Ag (w.heap.size+1) u F)
def xe.off {u v:Bb}{Y:Prop}{G:Bk->Prop}{s:(Option Addr×Nat×Nat)×(Option Addr×Nat×Nat)×Bp×Nat×Nat}{m:Int}(h:xe w Y G s m u)(ho:Off [w.heap.size] u v):xe w Y G s m v:=by
 rcases h with h | ⟨h1,x,F,h2,h3,h4⟩
 .exact .inl h
 .exact .inr ⟨h1,x,F,h2,Dx.sb (ty:=AV) 4 _ _ _ _ _ h3 fun j hj=>ho.block j (h4.lt j hj) (by have:=h4.ge j hj;simp;omega),h4.la lr ho.size⟩
def Yi2 {ty:U2}{d:Nat}{vs:Bu}{x:Bk}{F:Cg}(h:Dx ty d w vs x F): ∃ s,vs=(XT s).toList:=by
 obtain⟨p,c,p1,c1,p2,c2,rfl⟩:=Dx.vals h;exact⟨((p,_,c),(p1,_,c1),p2,_,c2),rfl⟩
def Zua (t:Ay)(ht:t.size<1000000000)(Z:AZ a w)(E:IL a w):Calls prog 10 #[um t] w fun e w'=> ∃ s m p,e=uY (.tuple #[.agg<|XT s,zo m,zo p])/\xe w (∃ er,Gu t (QG t)= .error er) (fun x=>Gu t (QG t)= .ok x) s m w'/\Bl w w':=by
 refine Yad (J:=fun s er u=>(∃ n p L,Gu t (QG t)= .error (n,p)/\s=((none,0,0),(none,0,0),none,0,0)/\er= .iface 86 (zq L 0)/\AO u L #[zo (p:Int),BG a n] 90)\/(er= .nilIface/\ ∃ x F,Gu t (QG t)= .ok x/\Dx AV 4 u (XT s).toList x F/\Ag (w.heap.size+1) u F)) (fun u hu hl=>(Z96 t ht<|Z.be hu).mono ?_) ?_ (fun _ _ _ _ h ho=>h.off ho) ?_
 .rintro e w1 ⟨hb,(⟨n,p,L,hY,hn,hL,rfl,hF⟩ | ⟨v,y,hY,rfl,vs,F,rfl,hO,hN⟩)⟩
  .exact⟨((none,0,0),(none,0,0),none,0,0),_,rfl,.inl ⟨n,p,L,hY,rfl,rfl,hF⟩,hb⟩
  .obtain⟨s,rfl⟩:=Yi2 hO;exact⟨s,_,rfl,.inr ⟨rfl,y,F,hY,hO,hN.la hl lr⟩,hb⟩
 .rintro s er u v (⟨n,p,L,hY,hs,he,hF⟩ | ⟨he,x,F,hY,hO,hN⟩) hv
  .exact .inl ⟨n,p,L,hY,hs,he,hF.of<|hv.block _ hF.lt⟩
  .exact .inr ⟨he,x,F,hY,Dx.sb (ty:=AV) 4 _ _ _ _ _ hO fun j hj=>hv.block j (hN.lt j hj),hN.la lr hv.size⟩
 .rintro s er u (⟨n,p,L,hY,rfl,rfl,hF⟩ | ⟨rfl,x,F,hY,hO,hN⟩) hu
  .obtain⟨k,rfl,hk⟩:=Ygo<|Z97 t _ hY;refine(Zoi (Z.be hu) (E.be hu) L 0 k p hk hF.two.1 (by have:=hF.two.2.1;rwa [wu]at this)).mono ?_;rintro e w' ⟨rfl,hb⟩;exact⟨_,_,rfl,.inl ⟨⟨_,hY⟩,zx,rfl⟩,hb⟩
  .refine(kD u).mono ?_;rintro e w' ⟨rfl,rfl⟩;exact⟨_,_,rfl,.inr ⟨rfl,x,F,hY,hO,hN⟩,AR _ _⟩
def Zvu (w:Bb):(Instr.makeMap 141 none).run prog w= .ok (.map<|some w.heap.size) (w.alloc<|.map #[] 0):=zt
def Zjv (w:Bb):(Instr.makeMap 142 none).run prog w= .ok (.map<|some w.heap.size) (w.alloc<|.map #[] 0):=zt
def Zyb (w:Bb):Calls prog 53 #[] w fun e w'=>e=uY (zq (w.heap.size+2) 0)/\w'=((w.alloc<|.map #[] 0).alloc<|.map #[] 0).alloc (.cells #[zn,.map<|some w.heap.size,zn,.map<|some<|w.heap.size+1] 144):=by
 have h1:=Zvu w;have h2:=fun o=>Zjv (w.alloc o);go_in
 go_wp2
 go_ret
 exact⟨rfl,rfl⟩
def vU (n:Nat)(hn:n<=60)(w:Bb):Calls prog 172 #[zo (n:Int)] w fun e w'=>e=uY (.int .u64 ((2 ^ n-1:Nat):Int))/\w'=w:=by
 have h0:(1:Nat)<=2 ^ n:=Nat.one_le_two_pow;have h1:(2:Nat) ^ n<=2 ^ 60:=wi zu hn;have e0:((2:Int) ^ n)=((2 ^ n:Nat):Int):=zw
 have e1:IntKind.u64.wrap ((2:Int) ^ n)=((2 ^ n:Nat):Int):=by
  rw[e0];generalize (2:Nat) ^ n=m at*;rw[IntKind.wrap_u64];omega
 have e2:IntKind.u64.wrap (((2 ^ n:Nat):Int)-1)=((2 ^ n-1:Nat):Int):=by
  clear e0 e1;generalize (2:Nat) ^ n=m at*;rw[IntKind.wrap_u64];omega
 have E:=AC<|AJ e1 e2;clear e0 e1 e2;go_in
 go_wp2
 go_ret
 exact⟨by rw[<- E.o.2,<- E.o.1];rfl,rfl⟩
def Ug (w:Bb) (r:Nat) (bs:List Ay):Prop:= ∃ es clock,w.heap[r]?=some (.map es clock)/\es.toList.map (fun e=>(e.key,e.val))=bs.mapIdx fun i b=>(Value.string b,zo (i:Int))
def TP (s:Ay):List Ay->Nat->Option Nat
 | [],_=>none
 | b::bs,i=>if s=b then some i else TP s bs (i+1)
def Zk2 (s:Ay): ∀ (l:List MapEntry) (bs:List Ay) (i:Nat),l.map (fun e=>(e.key,e.val))=bs.mapIdx (fun j b=>(Value.string b,zo ((j+i:Nat):Int)))->Instr.findNow .string (um s) l i=some ((TP s bs i).map fun(k:Nat)=>(k,zo (k:Int)))
 | [],bs,i,h=>by
  have:bs=[]:=by
   have:=congrArg List.length h
   simp at this;exact M9 this.symm
  subst this;rfl
 | e::l,[],i,h=>by simp at h
 | e::l,b::bs,i,h=>by
  rw[xp,List.mapIdx_cons]at h;injection h with h1 h2;injection h1 with hk hv;have ih:=Zk2 s l bs (i+1) (by rw[h2];congr 1;funext j b;congr 3;omega);obtain⟨r,hr,E6⟩:=Go.MapKept.sameNow_of_keys (d:= .string) (a:= um s) (b:= um b) trivial trivial;unfold Instr.findNow TP;rw[hk,hr];cases r with
  | true=>
   obtain rfl:s=b:=by injection E6.1 rfl
   rw[xj rfl,hv];simp
  | false=>
   rw[xd (fun e=>by have:=E6.2 (by rw[e]);cases this)];exact ih
variable {r:Nat}{bs:List Ay}
def Z5v (h:Ug w r bs)(s:Ay):(Instr.lookup 142 (.map<|some r) (um s) true).run prog w= .ok (.tuple #[zo (((TP s bs 0).getD 0:Nat):Int),.bool (TP s bs 0).isSome]) w:=by
 obtain⟨es,clock,hb,hm⟩:=h;have hf:=Zk2 s es.toList bs 0 (by simpa using hm);have hz:(zeroValue 3).run prog w= .ok (zo 0) w:=zt
 have FP:=Go.MapKept.run_checkKey (P:=prog) (w:=w) underlying9 (k:= um s) trivial es.isEmpty 9999;have hgo:=Zi (P:=prog) hb;have E8:=Go.MapKept.run_findKey (P:=prog) (w:=w) underlying9 hf;have FP:(Instr.checkKey es.isEmpty 10000 9<|um s).run prog w= .ok () w:=FP;cases hp:TP s bs 0 with
 | none=>
  rw[hp]at E8;simp only[Option.map_none]at E8;simp[Instr.lookup,J5 underlying142,hgo,E8,hz,FP]
 | some k=>
  rw[hp]at E8;simp only[Option.map_some]at E8;simp[Instr.lookup,J5 underlying142,hgo,E8,FP]
def Z61 (h:Ug w r bs)(s:Ay)(hp:TP s bs 0=none): ∃ o,(Instr.mapUpdate 142 (.map<|some r) (um s)<|zo (bs.length:Int)).run prog w= .ok () {w with heap:=w.heap.setIfInBounds r o}/\Ug {w with heap:=w.heap.setIfInBounds r o} r (bs++[s]):=by
 obtain⟨es,clock,hb,hm⟩:=h;have hf:=Zk2 s es.toList bs 0 (by simpa using hm);rw[hp]at hf;have FP:=Go.MapKept.run_checkKey (P:=prog) (w:=w) underlying9 (k:= um s) trivial false 9999;replace FP:(Instr.checkKey false 10000 9<|um s).run prog w= .ok () w:=FP
 have hgo:=Zi (P:=prog) hb;have E8:=Go.MapKept.run_findKey (P:=prog) (w:=w) underlying9 hf;simp only[Option.map_none]at E8;have UJ:=Go.MapKept.run_setObj_map (P:=prog) (.map (es.push {key:= um s,val:= zo (bs.length:Int),born:=clock})<|clock+1) hb;refine⟨.map (es.push {key:= um s,val:= zo (bs.length:Int),born:=clock})<|clock+1,?_,es.push {key:= um s,val:= zo (bs.length:Int),born:=clock},clock+1,(Go.MapKept.heap_set hb).1,?_⟩
 .simp[Instr.mapUpdate,J5 underlying142,hgo,FP,E8,UJ]
 .simp[hm]
def TX (w:Bb) (m:Nat) (xs:List (Ay×Nat)):Prop:= ∃ es clock,w.heap[m]?=some (.map es clock)/\es.toList.map (fun e=>(e.key,e.val))=xs.map fun x=>(Value.string x.1,zo (x.2:Int))
def ZS (w:Bb) (v:Value) (xs:List (Ay×Nat)):Prop:=(v= .map none/\xs=[])\/ ∃ m,v= .map (some m)/\TX w m xs
def ZS.of {w':Bb}{v:Value}{xs:List (Ay×Nat)}(h:ZS w v xs)(hb: ∀ m,v= .map (some m)->w'.heap[m]?=w.heap[m]?):ZS w' v xs:=by
 rcases h with h | ⟨m,rfl,es,c,h1,h2⟩
 .exact .inl h
 .exact .inr ⟨m,rfl,es,c,(hb m rfl).trans h1,h2⟩
def GH (s:Ay):List (Ay×Nat)->Nat->Option (Nat×Nat)
 | [],_=>none
 | b::bs,i=>if s=b.1 then some (i,b.2)else GH s bs (i+1)
def wR (s:Ay): ∀ (l:List MapEntry) (xs:List (Ay×Nat)) (i:Nat),l.map (fun e=>(e.key,e.val))=xs.map (fun x=>(Value.string x.1,zo (x.2:Int)))->Instr.findNow .string (um s) l i=some ((GH s xs i).map fun k=>(k.1,zo (k.2:Int)))
 | [],xs,i,h=>by
  have:xs=[]:=by simpa using h.symm
  subst this;rfl
 | e::l,[],i,h=>by simp at h
 | e::l,b::xs,i,h=>by
  rw[xp,xp]at h;injection h with h1 h2;injection h1 with hk hv;have ih:=wR s l xs (i+1) h2;obtain⟨r,hr,E6⟩:=Go.MapKept.sameNow_of_keys (d:= .string) (a:= um s) (b:= um b.1) trivial trivial;unfold Instr.findNow GH;rw[hk,hr];cases r with
  | true=>
   obtain rfl:s=b.1:=by injection E6.1 rfl
   rw[xj rfl,hv];simp
  | false=>
   rw[xd (fun e=>by have:=E6.2 (by rw[e]);cases this)];exact ih
def Qf:Du Ay:=fun _ vs x F=>F=[]/\vs=[um x]
def Qf.sb:Ii Qf:=fun _ _ _ _ _ h _=>h
def Qf.one {vs:Bu}{x:Ay}{F:Cg}(h:Qf w vs x F): ∀ u,u∈vs->u.oneCell'=true:=by
 obtain⟨_,rfl⟩:=h;intro u hu;simp at hu;rw[hu];rfl
def Dr (xs:List (Ay×Nat)) (s:Ay×Nat):Nat×Bool:=if s.1.size=0 then(s.2,true)else((((GH s.1 xs 0).map (·.2)).getD 0),(GH s.1 xs 0).isSome)
variable {v:Value}{xs:List (Ay×Nat)}
def Z0v (h:ZS w v xs)(s:Ay):(Instr.lookup 142 v (um s) true).run prog w= .ok (.tuple #[zo ((((GH s xs 0).map (·.2)).getD 0:Nat):Int),.bool (GH s xs 0).isSome]) w:=by
 have hz:(zeroValue 3).run prog w= .ok (zo 0) w:=zt
 rcases h with⟨rfl,rfl⟩ | ⟨r,rfl,es,clock,hb,hm⟩
 .have FP:=Go.MapKept.run_checkKey (P:=prog) (w:=w) underlying9 (k:= um s) trivial true 9999;replace FP:(Instr.checkKey true 10000 9<|um s).run prog w= .ok () w:=FP
  have E8:=Go.MapKept.run_findKey (P:=prog) (w:=w) (k:= um s) (l:=[]) (a:=none) underlying9 rfl;simp[Instr.lookup,J5 underlying142,E8,hz,FP,GH]
 have hf:=wR s es.toList xs 0 hm;have FP:=Go.MapKept.run_checkKey (P:=prog) (w:=w) underlying9 (k:= um s) trivial es.isEmpty 9999;have hgo:=Zi (P:=prog) hb;have E8:=Go.MapKept.run_findKey (P:=prog) (w:=w) underlying9 hf;have FP:(Instr.checkKey es.isEmpty 10000 9<|um s).run prog w= .ok () w:=FP;cases hp:GH s xs 0 with
 | none=>
  rw[hp]at E8;simp only[Option.map_none]at E8;simp[Instr.lookup,J5 underlying142,hgo,E8,hz,FP]
 | some k=>
  rw[hp]at E8;simp only[Option.map_some]at E8;simp[Instr.lookup,J5 underlying142,hgo,E8,FP]
def Z1r {r:Nat}(h:TX w r xs)(s:Ay)(v:Nat)(hp:GH s xs 0=none): ∃ o,(Instr.mapUpdate 142 (.map<|some r) (um s)<|zo (v:Int)).run prog w= .ok () {w with heap:=w.heap.setIfInBounds r o}/\TX {w with heap:=w.heap.setIfInBounds r o} r (xs++[(s,v)]):=by
 obtain⟨es,clock,hb,hm⟩:=h;have hf:=wR s es.toList xs 0 hm;rw[hp]at hf;have FP:=Go.MapKept.run_checkKey (P:=prog) (w:=w) underlying9 (k:= um s) trivial false 9999;replace FP:(Instr.checkKey false 10000 9<|um s).run prog w= .ok () w:=FP
 have hgo:=Zi (P:=prog) hb;have E8:=Go.MapKept.run_findKey (P:=prog) (w:=w) underlying9 hf;simp only[Option.map_none]at E8;have UJ:=Go.MapKept.run_setObj_map (P:=prog) (.map (es.push {key:= um s,val:= zo (v:Int),born:=clock})<|clock+1) hb;refine⟨.map (es.push {key:= um s,val:= zo (v:Int),born:=clock})<|clock+1,?_,es.push {key:= um s,val:= zo (v:Int),born:=clock},clock+1,(Go.MapKept.heap_set hb).1,?_⟩
 .simp[Instr.mapUpdate,J5 underlying142,hgo,FP,E8,UJ]
 .simp[hm]
def Zzz {q o:Nat}(h:ZS w v xs)(c0:w.cell? (zm q o)=some v)(hq:q<w.heap.size)(hv: ∀ m,v= .map (some m)->m<w.heap.size)(s:Ay×Nat)(hs:s.1.size<1000000000):
  Calls prog 168 #[zq q o,.agg #[um s.1,zo (s.2:Int)]] w fun e w'=>e=uY (.tuple #[zo ((Dr xs s).1:Int),.bool (Dr xs s).2])/\Bl w w':=by
 have hl:=fun o n=>Z0v (w:=(w.alloc o).drewN n) (h.of fun m hm=>Ah _ _ _ (hv m hm)) s.1;obtain⟨x,n⟩:=s;dsimp only at hs hl⊢;have B0:=fun o=>zv w o;by_cases h0:x.size=0
 .have E:AF (Dr xs (x,n)=(n,true)):=⟨xj h0⟩;rw[E.o];have g:(x.toList==[])=true:=by rw[X4];simp[h0]
  clear hl;go_in
  go_wp2
  go_ret2
  exact⟨rfl,B0 _⟩
 .have E:AF (Dr xs (x,n)=((((GH x xs 0).map (·.2)).getD 0),(GH x xs 0).isSome)):=⟨xd h0⟩;rw[E.o];have g:(x.toList==[])=false:=by rw[X4];simp[h0]
  generalize ((GH x xs 0).map (·.2)).getD 0=k at*;generalize (GH x xs 0).isSome=kn at*;have fB:=fun ob=>(Ah w ob q hq);have c1: ∀ ob,(w.alloc ob).cell? (zm q o)=some v:=fun ob=>(A9 (a:=(zm q o))<|fB ob).trans c0;clear fB c0;go_in
  go_wp2
  go_quiet (fail)
  go_wp2
  go_ret2
  exact⟨rfl,MW<|B0 _⟩
variable {m:Nat}
def TX.lt (h:TX w m xs):m<w.heap.size:=by
 obtain⟨es,c,h,_⟩:=h;exact(PN.1 h).1
def TX.of {w':Bb}(h:TX w m xs)(hb:w'.heap[m]?=w.heap[m]?):TX w' m xs:=by
 obtain⟨es,c,h,h2⟩:=h;exact⟨es,c,hb.trans h,h2⟩
variable {q o:Nat}{cs:Ca}{ov:Value}{Fo:Cg}
structure Bd (w:Bb) (q:Nat) (T:TypeId) (o m:Nat) (cs:Ca) (xs:List (Ay×Nat)) (ov:Value) (Fo:Cg):Prop where
 blk:AO w q (cs.setIfInBounds (o+1) ov) T
 c0:cs[o]?=some (.map<|some m)
 sz:o+1<cs.size
 row:AQ 9 1 Qf w ov (xs.map (·.1)) Fo
 map:TX w m xs
 ne:q≠m
 new:Ag 0 w Fo
 qF:q∉Fo
 mF:m∉Fo
section
variable {w w':Bb} {q o m:Nat} {T:TypeId} {cs:Ca} {xs:List (Ay×Nat)} {ov:Value} {Fo G:Cg}
def Bd.of (h:Bd w q T o m cs xs ov Fo)(hs:w.heap.size<=w'.heap.size)(hb: ∀ k,k∈q::m::Fo->w'.heap[k]?=w.heap[k]?):Bd w' q T o m cs xs ov Fo:=
 ⟨h.blk.of<|hb _ zw,h.c0,h.sz,AQ.sb Qf.sb _ _ _ _ _ h.row fun j hj=>hb j (by simp[hj]),h.map.of<|hb _ zw,h.ne,h.new.la lr hs,h.qF,h.mF⟩
def Bd.lt (h:Bd w q T o m cs xs ov Fo): ∀ k,k∈q::m::Fo->k<w.heap.size:=by
 intro k hk;simp at hk;rcases hk with rfl | rfl | hk
 .exact h.blk.lt
 .exact h.map.lt
 .exact h.new.lt k hk
def Bd.off (h:Bd w q T o m cs xs ov Fo)(k:Off G w w')(hd: ∀ j,j∈q::m::Fo->j∉G):Bd w' q T o m cs xs ov Fo:=
 h.of k.size fun j hj=>k.block j (h.lt j hj) (hd j hj)
def Bd.cells (h:Bd w q T o m cs xs ov Fo):w.cell? (zm q o)=some (.map<|some m)/\w.cell? (zm q (o+1))=some ov/\ ∀ j,w.frozen? (zm q j)=false:=by
 refine⟨?_,?_,h.blk.soft⟩
 .rw[h.blk.cell];simp only[Dy];rw[xd zx];exact h.c0
 .rw[h.blk.cell];simp[h.sz]
end
def Yfv:J3 prog 29 9 1 16:=by
 obtain⟨i0,hi,hz0,hz1,hz2⟩:=info_parts (by kernel_rfl:(prog.info? 9).map (fun i=>(i.zero,i.size,i.bytes))=some (some<|sE,1,16));exact⟨i0,_,underlying29,hi,hz0,hz1,hz2,rfl,zu,zu⟩
def Z2a {T:TypeId}{xs:List (Ay×Nat)}(h:Bd w q T o m cs xs ov Fo)(x:Ay)(k:Nat)(hx:GH x xs 0=none)(hl:xs.length<1000):
  Calls prog 233 #[zq q o,um x,zo (k:Int)] w fun e w'=>e=uY (.tuple #[])/\ ∃ Br Au,Bd w' q T o m cs (xs++[(x,k)]) Br Au/\Off (q::m::Fo) w w'/\ ∀ i,i∈Au->i∈Fo\/w.heap.size<=i:=by
 obtain⟨c0,c1,sf⟩:=h.cells;obtain⟨ob,Xb,zh⟩:=Z1r h.map x k hx;obtain⟨W1,hW1⟩:=cK ({w with heap:=w.heap.setIfInBounds m ob});rw[hW1.o]at Xb zh;have O1:AF (Off [m] w W1):=⟨hW1.o▸(Off.refl _ w).put m ob zw⟩;have H:=AC h;have b1:W1.heap[q]?=w.heap[q]?:=O1.o.block q h.blk.lt (by simpa using h.ne);have fB:W1.cell? (zm q o)=some (.map<|some m):=(A9 (a:=(zm q o)) b1).trans c0;have Sn:W1.cell? (zm q (o+1))=some ov:=(A9 (a:=(zm q (o+1))) b1).trans c1;have sf': ∀ j,W1.frozen? (zm q j)=false:=fun j=>(bQ (a:=(zm q j)) b1).trans (sf j);have R1:=AC (AQ.sb Qf.sb _ W1 _ _ _ h.row fun j hj=>O1.o.block j (h.new.lt j hj) (fun e=>by simp at e;subst e;exact h.mF hj));have HBM:=AC zh;have hs1:=O1.o.size;have N1:AF (Ag 0 W1 Fo):=⟨h.new.la lr O1.o.size⟩;have Ea:q<W1.heap.size:=BK h.blk.lt hs1;have Yc:(xs.map (·.1)).length<100000000:=zc
 clear h zh hx c1 sf;go_in
 go_wp2_with (at_builtin;go_must (refine Nu Yfv rfl (.tmp 16) (.tmp 18) rfl Qf.sb (fun _ _ _ _ h=>Qf.one h) 0 ov (xs.map (·.1)) Fo rfl (AQ.sb Qf.sb _ _ _ _ _ R1.o fun j hj=>Ah _ _ _ (N1.o.lt j hj)) W1.heap.size #[um x] 9 (0,0) x [] rfl (Hw _ _) rfl ⟨rfl,rfl⟩ Yc (Eg _) (N1.o.la lr zw) (Ag.nil _ _) (fun _ _ h=>by cases h) ?_);intro g8 UU w8 F8 AM;have b8:=(AM.same q zc H.o.qF).trans<|Ah _ _ _ Ea;have c8:=(A9 (a:=(zm q (o+1))) b8).trans Sn;have s8:=fun j=>(bQ (a:=(zm q j)) b8).trans (sf' j))
 go_end0
 have VL:=HBM.o.lt;have hz:W1.heap.size<w8.heap.size:=by have:=AM.size;simp at this;omega
 have nF: ∀ j,j<W1.heap.size->j∉Fo->j∉F8:=fun j hj hn hF=>by
  rcases AM.sub j hF with h | h | h
  .exact hn h
  .cases h
  .simp at h;omega
 have hsm: ∀ j,j<W1.heap.size->j∉Fo->w8.heap[j]?=W1.heap[j]?:=fun j hj hn=>(AM.same j zc hn).trans (Ah _ _ _ hj);have hqF:=nF q Ea H.o.qF;refine⟨rfl,sP (Qb g8 0) (xs.length+1) UU,F8,⟨?_,H.o.c0,H.o.sz,?_,?_,H.o.ne,⟨AM.new.once,fun _ _=>Eg _,fun j hj=>by have:=AM.new.lt j hj;simpa[World.setCell]using this⟩,hqF,nF m VL H.o.mF⟩,?_,?_⟩
 .have:=(H.o.blk.of<|b8.trans b1).set (o+1) (sP (Qb g8 0) (xs.length+1) UU)
  rwa [rM]at this
 .have:=AQ.sb Qf.sb _ (w8.setCell (zm q (o+1))<|sP (Qb g8 0) (xs.length+1) UU) _ _ _ AM.row fun j hj=>Aw _ _ _ _ (fun e=>hqF (by rw[show q=j from e.symm];exact hj))
  simpa using this
 .exact HBM.o.of<|(Aw _ _ _ _ fun e=>H.o.ne e.symm).trans<|hsm m VL H.o.mF
 .refine Off.set ⟨AM.os.trans O1.o.os,AM.tape.trans O1.o.tape,AM.output.trans O1.o.output,zx,fun j hj hn=>?_⟩ q (o+1) _ zw;simp at hn;exact(hsm j zx hn.2.2).trans<|O1.o.block j hj (by simpa using hn.2.1)
 .intro i hi;rcases AM.sub i hi with h | h | h
  .exact .inl h
  .cases h
  .simp at h;exact .inr zx
def Z8y {T:TypeId}(h:Bd w q T o m cs [] ov Fo):
  Calls prog 227 #[zq q o,zo 0] w fun e w'=>e=uY (.tuple #[])/\ ∃ Br,Bd w' q T o m cs [] Br Fo/\Off (q::m::Fo) w w':=by
 obtain⟨c0,c1,sf⟩:=h.cells;obtain⟨p,c,rfl⟩:=h.row.form;have H:=AC h;clear h;simp only[List.map_nil,JC]at c1 H;go_in
 go_wp2
 refine YA 1 ?_;rw[Tt];go_wp2
 go_end0
 refine⟨rfl,sP p 0 c,⟨?_,H.o.c0,H.o.sz,?_,?_,H.o.ne,⟨H.o.new.once,fun _ _=>Eg _,fun j hj=>by have:=H.o.new.lt j hj;simpa[World.setCell]using this⟩,H.o.qF,H.o.mF⟩,(Off.refl _ w).set q (o+1) _ zw⟩
 .have:=H.o.blk.set (o+1) (sP p 0 c)
  rwa [rM]at this
 .exact AQ.sb Qf.sb _ _ _ _ _ H.o.row fun j hj=>Aw _ _ _ _ (fun e=>H.o.qF (by rw[show q=j from e.symm];exact hj))
 .exact H.o.map.of<|Aw _ _ _ _ fun e=>H.o.ne e.symm
def AQ.cut {e:TypeId}{w:Bb}{v:Value}{xs:List Ay}{F:Cg}(h:AQ e 1 Qf w v xs F)(k:Nat)(hk:k<=xs.length):(v= zn/\xs=[])\/ ∃ g c,v= sP (Qb g 0) xs.length c/\xs.length<=c/\g∈F/\AQ e 1 Qf w (sP (Qb g 0) k c) (xs.take k) F/\ ∀ i x,xs[i]?=some x->w.cell? (zm g i)=some (um x):=by
 obtain⟨zs,hown,hz,rfl,rfl,hl⟩:=h;rw[Dj]at hk;have h1: ∀ z,z∈zs->z.1=[um z.2.1]/\z.2.2=[]:=fun z J9=>by
  obtain⟨_,q1,q2⟩:=hz z J9;exact⟨q2,q1⟩
 have uD: ∀ (l:List (List Value×Ay×Cg)),(∀ z,z∈l->z.1=[um z.2.1]/\z.2.2=[])->(l.map (·.1)).flatten=l.map (fun z=>Value.string z.2.1)/\(l.map (·.2.2)).flatten=[]:=by
  intro l;induction l with
  | nil=>intro _;exact⟨rfl,rfl⟩
  | cons z l ih=>
   intro hl;obtain⟨a,b⟩:=ih fun y hy=>hl y (wj _ hy);obtain⟨c,d⟩:=hl z List.mem_cons_self;simp[a,b,c,d]
 obtain⟨f1,f2⟩:=uD zs h1;have h1t: ∀ z,z∈zs.take k->z.1=[um z.2.1]/\z.2.2=[]:=fun z J9=>h1 z (List.mem_of_mem_take J9);obtain⟨f3,f4⟩:=uD (zs.take k) h1t;rcases hown.2 with⟨h0,hn⟩ | ⟨g,cap,cur,rfl,q1,q2,q3,q4,q5,q6⟩
 .refine .inl ⟨h0,?_⟩;rw[M9 hn];rfl
 .refine .inr ⟨g,cap,by rw[Dj],by rw[Dj];simpa using q3,by simp[Value.ownBlock],⟨zs.take k,⟨?_,.inr ⟨g,cap,cur,by rw[wt,Nat.min_eq_left hk],q1,q2,?_,q4,q5,?_⟩⟩,fun z J9=>hz z (List.mem_of_mem_take J9),by rw[List.map_take],?_,?_⟩,fun i x hx=>?_⟩
  .rw[f3,Dj,Nat.mul_one]
  .rw[wt,Nat.min_eq_left hk];exact Ab hk q3
  .rw[f1]at q6;rw[f3,wt,Nat.min_eq_left hk,List.map_take]
   have:=congrArg (List.take k) q6
   simpa[List.take_take,Nat.min_eq_left hk]using this
  .rw[f2,f4];rfl
  .rw[wt];omega
  .have:=hown.cells (g:=g) rfl i (um x) (by rw[f1,FK];rw[FK]at hx;cases J9:zs[i]? with
    | none=>rw[J9]at hx;cases hx
    | some z=>rw[J9]at hx;cases hx;rfl)
   rwa [Addr.add_lit,Gx]at this
def Z20 {s:Ay}{v:Nat}{post:List (Ay×Nat)}: ∀ (pre:List (Ay×Nat)) (i:Nat),(∀ x,x∈pre->x.1≠s)->GH s (pre++(s,v)::post) i=some (i+pre.length,v)
 | [],i,_=>by simp[GH]
 | y::pre,i,h=>by
  rw[EC,GH,xd fun e=>h y zw e.symm,Z20 pre (i+1) fun x hx=>h x (by simp[hx])]
  simp;omega
def Z46 {r:Nat}{s:Ay}{v:Nat}{pre post:List (Ay×Nat)}(h:TX w r (pre++(s,v)::post))(hn: ∀ x,x∈pre->x.1≠s): ∃ o,(∀ ty,(Builtin.delete_ #[142,9] ty #[.map<|some r,um s]).run prog w= .ok (.tuple #[]) {w with heap:=w.heap.setIfInBounds r o})/\TX {w with heap:=w.heap.setIfInBounds r o} r (pre++post):=by
 obtain⟨es,clock,hb,hm⟩:=h;have hf:=wR s es.toList _ 0 hm;rw[Z20 pre 0 hn]at hf;have FP:=Go.MapKept.run_checkKey (P:=prog) (w:=w) underlying9 (k:= um s) trivial es.isEmpty 9999;replace FP:(Instr.checkKey es.isEmpty 10000 9<|um s).run prog w= .ok () w:=FP
 have hgo:=Zi (P:=prog) hb;have E8:=Go.MapKept.run_findKey (P:=prog) (w:=w) underlying9 hf;simp only[Option.map_some,Gx]at E8;have UJ:=Go.MapKept.run_setObj_map (P:=prog) (.map (es.eraseIdxIfInBounds pre.length) clock) hb;refine⟨.map (es.eraseIdxIfInBounds pre.length) clock,fun ty=>?_,es.eraseIdxIfInBounds pre.length,clock,(Go.MapKept.heap_set hb).1,?_⟩
 .unfold Builtin.delete_;simp only[Uz,Tu,List.getElem?_cons_zero,List.getElem?_cons_succ,J5 underlying142,Vs,hgo,FP];rw[E8];simp[UJ]
 .have hlen:es.toList.length=pre.length+(post.length+1):=by have:=congrArg List.length hm;simpa using this
  have hlt:pre.length<es.size:=by rw[<- Vp];omega
  unfold Array.eraseIdxIfInBounds;rw[dif_pos hlt,Array.toList_eraseIdx,List.eraseIdx_eq_take_drop_succ,wb,List.map_take,List.map_drop,hm,<- List.map_take,<- List.map_drop,<- wb];simp
def Ye2 (w:Bb) (m k:Nat) (xs:List (Ay×Nat)) (iv:Value) (wr:Bb):Prop:= ∃ j:Nat,k+j<=xs.length/\iv= zo (j:Int)/\Off [m] w wr/\TX wr m (xs.take k++xs.drop (k+j))
def Zvf {q o m:Nat}{T:TypeId}{cs:Ca}{xs:List (Ay×Nat)}{ov:Value}{Fo:Cg}(h:Bd w q T o m cs xs ov Fo)(QW:(xs.map (·.1)).Nodup)(k:Nat)(hk:k<=xs.length):
  Calls prog 227 #[zq q o,zo (k:Int)] w fun e w'=>e=uY (.tuple #[])/\ ∃ Br,Bd w' q T o m cs (xs.take k) Br Fo/\Off (q::m::Fo) w w':=by
 rcases AQ.cut h.row k (by simpa using hk)with⟨rfl,hx⟩ | ⟨g,c,rfl,hlc,Yh,hrow,hcell⟩
 .obtain rfl:xs=[]:=by simpa using hx
  obtain rfl:k=0:=by simpa using hk
  exact Z8y h
 obtain⟨c0,c1,sf⟩:=h.cells;have H:=AC h;have HX:=AC hcell;have HN:=AC QW;have Yc:=h.row.len;rw[Dj]at c1 hlc Yc H;have hmF:=h.mF;have uB:g≠m:=fun e=>h.mF (e▸Yh);have NU:=h.new.lt g Yh;have Ea:=h.blk.lt;have hqm:=h.ne;have FN:AF (∀ u,Off [m] w u->TX u m (xs.take k)-> ∃ Br,Bd (u.setCell (zm q (o+1))<|sP (Qb g 0) k c) q T o m cs (xs.take k) Br Fo/\Off (q::m::Fo) w (u.setCell (zm q (o+1))<|sP (Qb g 0) k c)):=⟨fun u ho hm=>by
  have nF:=h.new;have b1:u.heap[q]?=w.heap[q]?:=ho.block q h.blk.lt (by simpa using h.ne);refine⟨sP (Qb g 0) k c,⟨?_,h.c0,h.sz,?_,?_,h.ne,⟨nF.once,fun _ _=>Eg _,fun j hj=>BK (nF.lt j hj) (by simpa[World.setCell]using ho.size)⟩,h.qF,h.mF⟩,(ho.mono zw).set q (o+1) _ zw⟩
  .have:=(h.blk.of b1).set (o+1) (sP (Qb g 0) k c)
   rwa [rM]at this
  .rw[List.map_take];exact AQ.sb Qf.sb _ _ _ _ _ hrow fun j hj=>(Aw _ _ _ _ fun e=>h.qF (by rw[show q=j from e.symm];exact hj)).trans (ho.block j (nF.lt j hj) fun e=>h.mF (by rw[<- Bh.1 e];exact hj))
  .exact hm.of<|Aw _ _ _ _ fun e=>h.ne e.symm⟩
 clear h hrow hcell QW;go_in
 go_wp2_with fail
 all_goals
  go_loopw [13] (fun iv wr=>Ye2 w m k xs iv wr) (fun iv _=>xs.length-k-(intOf iv).toNat)
  .exact⟨0,zx,rfl,Off.refl _ _,by rw[Qs,List.take_append_drop];exact H.o.map⟩
  .obtain⟨j,hj,rfl,ho,hm⟩:=hrel;have HO:=AC ho;have b1:wr.heap[q]?=w.heap[q]?:=ho.block q Ea (by simpa using hqm);have fB:=(A9 (a:=(zm q o)) b1).trans c0;have Sn:=(A9 (a:=(zm q (o+1))) b1).trans c1;have sf': ∀ j,wr.frozen? (zm q j)=false:=fun j=>(bQ (a:=(zm q j)) b1).trans (sf j);by_cases hlt:k+j<xs.length
   .obtain⟨y,hy⟩: ∃ y,xs[k+j]?=some y:=⟨_,A8 hlt⟩;have d1:xs.drop (k+j)=y::xs.drop (k+(j+1)):=by
     rw[xH hlt];congr 1
     exact Gw<|(A8 hlt).symm.trans hy
    have cy:=(A9 (a:=(zm g (k+j)))<|ho.block g NU (by simpa using uB)).trans<|HX.o (k+j) y.1 (by rw[FK,hy];rfl);rw[d1]at hm;obtain⟨ob,hd,Jp⟩:=Z46 hm fun x hx e=>by
     have hn:=HN.o;rw[<- List.take_append_drop k xs,wb,Mc]at hn;exact hn.2.2 x.1 (List.mem_map_of_mem hx) y.1 (List.mem_map_of_mem<|Ej (i:=j) (by rw[List.getElem?_drop];exact hy)) e
    obtain⟨W1,hW1⟩:=cK ({wr with heap:=wr.heap.setIfInBounds m ob});rw[hW1.o]at hd Jp;have DJ:AF (Off [m] w W1/\TX W1 m (xs.take k++xs.drop (k+(j+1)))):=⟨hW1.o▸ho.put m ob zw,Jp⟩;clear hm Jp ho d1 hy;all_goals first
     | omega
     | (go_wp2
        go_roundw
        .exact⟨j+1,zx,by go_num,DJ.o.1,DJ.o.2⟩
        simp[intOf];omega)
   .have HM:=AC hm;clear hm ho;go_wp2
    go_end0
    have Jp:=HM.o;rw[List.drop_eq_nil_of_le zx,List.append_nil]at Jp;have r:=FN.o _ HO.o Jp;first
     | exact⟨rfl,r⟩
     | (rw[h]at r;exact⟨rfl,r⟩)
end Go.W
