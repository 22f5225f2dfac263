import Derived.Test.YtaoiihbjdonaoaaGreatDoorW04
import Derived.Defers
import Derived.Recover
set_option linter.defProp false
set_option maxRecDepth 100000
set_option maxHeartbeats 8000000
set_option linter.unusedSimpArgs false
open Go.Proofs Go.RowKit Go.W Tryz
namespace Go.P
variable {a:Nat->Addr}{B D:Nat}{w:World}{vs:List Value}
def Zn0 (V:D9){x:R}(Z:AZ a w)(hB:B<=w.heap.size)(hS:Jy B w D vs x):
  Calls prog 142 #[.agg vs.toArray] w (FT a (SE x) w):=by
 have C2:=AC fun u (hu:Bl w u)=>Zmw V (Z.below hu) (Ab hB hu.size) (Jy.carry hS<|Bq hu hB);obtain⟨va,p1,c1,p2,c2,rfl,⟨p0,c0,rfl,_,_,Jo⟩,_,hr1,_,hr2⟩:=hS;have hl0:=Jo.len;have F:AF (SE x=if x.head.name.size≠0\/0<x.head.terms.length then 2 else JQ x):=⟨rfl⟩;have z2:=fun o=>Cb Z.c2 ((AR _ w).alloc lr o);have e0:=X4 x.head.name;have B0:=AC<|(AR w.heap.size w).alloc lr<|.cells #[.string x.head.name,.slice p0 x.head.terms.length c0,.slice p1 x.body.length c1,.slice p2 x.guards.length c2] 44;clear Jo hr1 hr2 Z;generalize SE x=ans at*;generalize JQ x=n2 at*;generalize x.head.terms.length=n at*;generalize x.head.name=nm at*;have W:((nm.toList==[])=false/\ans=2)\/((nm.toList==[])=true/\(0:Int)<n/\ans=2)\/((nm.toList==[])=true/\ ¬ 0<n/\ans=n2):=by
  simp only[e0,decide_eq_false_iff_not,decide_eq_true_eq];have f1:(nm.size≠0\/0<n)->ans=2:=fun h=>by rw[F.out,if_pos h]
  have f2: ¬ (nm.size≠0\/0<n)->ans=n2:=fun h=>by rw[F.out,if_neg h]
  omega
 clear F e0;go_in
 rcases W with⟨g1,r⟩ | ⟨g1,g2,r⟩ | ⟨g1,g2,r⟩;iterate 2
  have R:=AC r;clear r C2;go_wp2_with fail
  go_ret
  exact⟨by rw[R.out];rfl,B0.out⟩
 have R:=AC r;clear r z2;go_wp2_with fail
 refine(C2.out _ B0.out).mono ?_;rintro e w1 ⟨rfl,hb⟩;go_wp2_with fail
 go_ret
 exact⟨by rw[R.out];rfl,B0.out.trans<|hb.mono B0.out.size⟩
def Zj3 (V:D9){p:Option Addr}{xs:List R}{c:Nat}(Z:AZ a w)(hB:B<=w.heap.size)(hrow:Ap 4 (FJ B w<|D+1) p xs):
  Calls prog 97 #[.slice p xs.length c] w (FT a (J4 xs) w):=by
 have C1:=AC (Zj2 (c:=c) (m:=4) (B:=B) Z0f (first:=#[]) (cap:=#[]) (f:=SE) Z hrow hB fun u vs y hy hu hS=>Zn0 V (Z.below hu) (Ab hB hu.size) hS);have F:AF (J4 xs=if xs.length=0 then 2 else Ei SE 4 xs):=⟨rfl⟩;have z2:=Z.c2;clear hrow Z;generalize Ei SE 4 xs=n1 at*;generalize J4 xs=ans at*;generalize xs.length=n at*;have W:(((n:Int)==0)=true/\ans=2)\/(((n:Int)==0)=false/\ans=n1):=by
  simp only[DR,BJ];have f1:n=0->ans=2:=fun h=>by rw[F.out,if_pos h]
  have f2: ¬ n=0->ans=n1:=fun h=>by rw[F.out,if_neg h]
  omega
 clear F;go_in
 rcases W with⟨g1,r⟩ | ⟨g1,r⟩
 ·have R:=AC r;clear r C1;go_wp2_with fail
  go_ret
  exact⟨by rw[R.out];rfl,AR _ _⟩
 ·have R:=AC r;clear r z2;go_wp2_with fail
  refine mq C1.out ?_;rintro w1 hb;go_wp2_with fail
  go_ret
  exact⟨by rw[R.out];rfl,hb⟩
def Zs4 (V:D9){x:List R}(Z:AZ a w)(hB:B<=w.heap.size)(hS:Wi B w D vs x):
  Calls prog 56 #[.agg vs.toArray] w (FT a (J4 x) w):=by
 obtain⟨p,c,rfl,_,hr⟩:=hS;have C1:=AC fun u (hu:Bl w u)=>Zj3 V (c:=c) (Z.below hu) (Ab hB hu.size) (hr.carry fun _ _ _ r=>r.carry (Bq hu hB) lr);have B0:=AC<|(AR w.heap.size w).alloc lr<|.cells #[.slice p x.length c] 52;clear hr Z;go_in
 go_wp2_with fail
 refine(C1.out _ B0.out).mono ?_;rintro e w1 ⟨rfl,hb⟩;go_wp2_with fail
 go_ret
 exact⟨rfl,B0.out.trans<|hb.mono B0.out.size⟩
def Zhn (V:D9){x:Bk}(Z:AZ a w)(hB:B<=w.heap.size)(hS:EZ B w D vs x):
  Calls prog 25 #[.agg vs.toArray] w (FT a (IU x) w):=by
 obtain⟨p,c,p1,c1,p2,c2,rfl,_,hr,_,hr1,_,hr2⟩:=hS;have C1:=AC (fun u (hu:Bl w u)=>Zr7 (c:=c) (m:=24) (B:=B) Z0g (first:=#[]) (cap:=#[]) (f:=Ul) (Z.below hu) (hr.carry fun _ _ _ r=>r.carry (Bq hu hB) lr) (Ab hB hu.size) fun u2 vs y hy Gm hS=>Zwi V ((Z.below hu).below Gm) (Ab hB<|Ab hu.size Gm.size) hS);have C2:=AC (fun u (hu:Bl w u)=>Zj2 (c:=c1) (m:=24) (B:=B) Z0h (first:=#[]) (cap:=#[]) (f:=TZ) (Z.below hu) (hr1.carry fun _ _ _ r=>r.carry (Bq hu hB) lr) (Ab hB hu.size) fun u2 vs y hy Gm hS=>Zwj V ((Z.below hu).below Gm) (Ab hB<|Ab hu.size Gm.size) hS);have C3:=AC (fun u (hu:Bl w u)=>Zpe (c:=c2) (m:=24) (B:=B) Zxm (first:=#[]) (cap:=#[]) (f:=J4) (Z.below hu) (hr2.carry fun _ _ _ r=>r.carry (Bq hu hB) lr) (Ab hB hu.size) fun u2 vs y hy Gm hS=>Zs4 V ((Z.below hu).below Gm) (Ab hB<|Ab hu.size Gm.size) hS);have F:AF (IU x=if Ei Ul 24 x.facts≠0 then Ei Ul 24 x.facts else if Ei TZ 24 x.rules≠0 then Ei TZ 24 x.rules else Ei J4 24 x.checks):=⟨rfl⟩;have B0:=AC<|(AR w.heap.size w).alloc lr<|.cells #[.slice p x.facts.length c,.slice p1 x.rules.length c1,.slice p2 x.checks.length c2] 33;clear hr hr1 hr2 Z;generalize IU x=ans at*;generalize Ei Ul 24 x.facts=n1 at*;generalize Ei TZ 24 x.rules=n2 at*;generalize Ei J4 24 x.checks=n3 at*;have F1:AF ((n1≠0->ans=n1)/\(n1=0->n2≠0->ans=n2)/\(n1=0->n2=0->ans=n3)):=⟨fun h=>by rw[F.out,if_pos h],fun h h'=>by rw[F.out,if_neg zx,if_pos h'],fun h h'=>by rw[F.out,if_neg zx,if_neg zx]⟩;clear F;go_in
 go_wp2_with fail
 refine(C1.out _ B0.out).mono ?_;rintro e w1 ⟨rfl,hb⟩;have B1:=tr B0 hb;have L1:=AC<|TY (AO.new w #[.slice p x.facts.length c,.slice p1 x.rules.length c1,.slice p2 x.checks.length c2] 33) hb;clear hb;by_cases hn:n1=0
 ·obtain⟨y0,y1,y2,sf⟩:=L1.out.three;rw[hn,JR];go_wp2_with fail
  refine(C2.out _ B1.out).mono ?_;rintro e w2 ⟨rfl,hb⟩;have B2:=tr B1 hb;have L2:=AC<|TY L1.out hb;clear y0 y1 y2 sf hb;by_cases Hl:n2=0
  ·obtain⟨y0,y1,y2,sf⟩:=L2.out.three;rw[Hl,JR];go_wp2_with fail
   refine(C3.out _ B2.out).mono ?_;rintro e w3 ⟨rfl,hb⟩;go_wp2_with fail
   go_ret
   exact⟨by rw[F1.out.2.2 hn Hl];rfl,B2.out.trans<|hb.mono B2.out.size⟩
  ·rw[BU _ Hl];go_wp2_with fail
   go_ret
   exact⟨by rw[F1.out.2.1 hn Hl,BU _ Hl];rfl,B2.out⟩
 ·rw[BU _ hn];go_wp2_with fail
  go_ret
  exact⟨by rw[F1.out.1 hn,BU _ hn];rfl,B1.out⟩
end Go.P
namespace Go.W
def Dx.toS {ty:U2}{d B:Nat}{w:World}{vs:List Value}{x:Bk}{F:List Nat}(h:Dx ty (d+1) w vs x F)(hF: ∀ k,k∈F->k<B):EZ B w d vs x:=by
 obtain⟨fv,rv,cv,F1,F2,F3,rfl,h1,h2,h3,rfl⟩:=h;obtain⟨p1,c1,rfl,l1,r1⟩:=PG.Ll h1 fun k hk=>hF k (by simp[hk]);obtain⟨p2,c2,rfl,l2,r2⟩:=VY.Ll h2 fun k hk=>hF k (by simp[hk]);obtain⟨p3,c3,rfl,l3,r3⟩:=bI.Ll h3 fun k hk=>hF k (by simp[hk]);exact⟨p1,c1,p2,c2,p3,c3,rfl,l1,r1,l2,r2,l3,r3⟩
end Go.W
namespace Go.P
variable {n:Int}{l:By}{a:Nat->Addr}{w:World}
def Zkq (v:Value)(w:World):(Instr.typeAssert (.iface 236 v) 20 236 true).run prog w= .ok (.tuple #[v,.bool true]) w:=zt
def Zkt (b:Nat)(x:Value)(a:Nat->Addr)(hn:n≠0)(w:World)(hc:w.cell? (zm b 0)=some x)(hf:w.frozen? (zm b 0)=false):CallsD prog 230 #[zq b 0] (.panicking [{v:= .iface 236<|.agg #[BG a n],recovered:=false}]) w fun e u' w'=>
  e= .returned (.tuple #[])/\u'= .panicking [{v:= .iface 236<|.agg #[BG a n],recovered:=true}]/\w'=(w.alloc<|.cells #[BG a n] 236).setCell (zm b 0) (BG a n):=by
 rw[BU _ hn];have hbl:=Wx hc;refine callsD_of_wpS func230 rfl fun c₀ cs hu=>?_;apply wpS_seq
 apply wpS_region
 simp[wpOpsS,go_sem,recoverD,hu,ntmps230,Exit.thenS,Array.replicate,List.replicate];refine wpS_of_wp ?_;have ta:=Zkq;go_wp2_with fail
 simp[bodyPostS,results,results230]
def Zz1 (b:Nat)(w:World):CallsD prog 230 #[zq b 0] .returning w fun e u' w'=>e= .returned (.tuple #[])/\u'= .returning/\w'=w:=by
 refine callsD_of_wpS func230 rfl fun c₀ cs hu=>?_;apply wpS_seq
 apply wpS_region
 simp[wpOpsS,go_sem,recoverD,hu,ntmps230,Exit.thenS,Array.replicate,List.replicate];refine wpS_of_wp ?_;go_wp2_with fail
 cases c₀;simp_all [bodyPostS,results,results230]
def Zos {α:Type}{f:De α}{e:Int}(h:f l= .error e):GZ f l= .error e:=by unfold GZ;rw[h]
def Zy9 {α:Type}{f:De α}{r:By}{x:α}(h:f l= .ok (x,r)):GZ f l=if r=[]then .ok x else .error 7:=by unfold GZ;rw[h]
def Zwv (a:Nat->Addr) (w:World) (Y:Except Int Bk) (e:Ending) (w':World):Prop:=
 Bl w w'/\((∃ n,Y= .error n/\n≠0/\e= .returned (.tuple #[.agg #[zn,zn,zn],BG a n]))\/ ∃ x vs F,Y= .ok x/\e= .returned (.tuple #[.agg vs.toArray,.nilIface])/\Dx AV 4 w' vs x F/\Ag w.heap.size w' F)
def Zu8:Da 206:=EH func206 zt rfl
def Zqf (CL:Gg)(Z:AZ a w)(hg:23<=w.heap.size)(hl:l.length<1000000000):
  Calls prog 205 #[.string<|ba l,.func (.func 206) #[] #[]] w (Zwv a w<|GZ Xp l):=by
 have Ho:=MR;have Dz: ∀ args w,(callFunc 206 args).run prog w= .ok (.enter 206 args) w:=Zu8;have B0:=AC<|(((AR w.heap.size w).alloc lr<|.cells #[zn,zn,zn] 33).alloc zw<|.cells #[.nilIface] 67).alloc (by simp;omega)<|.cells #[.string<|ba l] 238;have LR:=AC<|((AO.new w #[zn,zn,zn] 33).alloc<|.cells #[.nilIface] 67).alloc<|.cells #[.string<|ba l] 238;have LE:=AC<|(AO.new (w.alloc<|.cells #[zn,zn,zn] 33) #[.nilIface] 67).alloc<|.cells #[.string<|ba l] 238;have LD:=AC<|AO.new ((w.alloc<|.cells #[zn,zn,zn] 33).alloc<|.cells #[.nilIface] 67) #[.string<|ba l] 238;simp only[EV]at LE LD;have C:=AC<|Z4x CL (Z.below B0.out) (b:=w.heap.size+1+1) (l:=l) ⟨LD.out,hl,zx⟩;have ZZ:=AC Z;clear Z CL LD;go_enter_defers func205,ntmps205
 go_wp2_with fail
 refine C.out.mono ?_;rintro e w1 ⟨AX,⟨n,hy,hn,rfl⟩ | ⟨x,r,v,hy,rfl,⟨vs,F,rfl,hQ,hN⟩,Bc⟩⟩
 ·have NF:=LR.out.of<|AX.block w.heap.size (by simp;omega) zx;have JD:=LE.out.of<|AX.block (w.heap.size+1) zw zx;have B1:=AC<|B0.out.trans<|AX.below (B:=w.heap.size) zx (by simp;omega);obtain⟨y0,sy⟩:=JD.one;have q0:=AC<|(NF.alloc<|.cells #[BG a n] 236).away (w.heap.size+1) 0 zx<|BG a n;have q1:=AC<|(JD.alloc<|.cells #[BG a n] 236).set 0<|BG a n;have q2:=AC<|(B1.out.alloc (by have:=NF.lt;omega)<|.cells #[BG a n] 236).setCell (p:=(zm (w.heap.size+1) 0)) (by show w.heap.size<=w.heap.size+1;omega)<|BG a n;refine Vn (f:=230) (args:=#[zq (w.heap.size+1) 0]) zw (by simp[go_sem]) ?_;refine(Zkt _ _ a hn w1 y0<|sy 0).mono ?_;rintro e u' w'' ⟨rfl,rfl,hw⟩;rw[<- hw]at q0 q1 q2;obtain⟨z0,z1,z2,sz⟩:=q0.out.three;obtain⟨x0,sx⟩:=AO.one (a:=BG a n) q1.out;clear hw;simp[Leaves,settle,results,results205,go_sem,z0,z1,z2,x0];exact⟨q2.out,Or.inl ⟨n,Zos hy,hn,rfl⟩⟩
 ·have HQ:=AC hQ;obtain⟨fv,rv,cv,F1,F2,F3,rfl,h1,h2,h3,hF⟩:=hQ;obtain⟨p1,c1,rfl⟩:=AQ.form h1;obtain⟨p2,c2,rfl⟩:=AQ.form h2;obtain⟨p3,c3,rfl⟩:=AQ.form h3;have NF:=AC<|LR.out.of<|AX.block w.heap.size (by simp;omega) zx;have JD:=AC<|LE.out.of<|AX.block (w.heap.size+1) zw zx;have B1:=AC<|B0.out.trans<|AX.below (B:=w.heap.size) zx (by simp;omega);have Y:=AC<|Zy9 hy;have HD:=AC Bc;have HN:=AC hN;have Z1:=AC<|ZZ.out.below B1.out;have x0:=fun o=>(Bc.1.alloc o).one.1;have hr:(ba r).toList=[]↔r=[]:=by
   rw[Nw];simp[ba]
  clear h1 h2 h3 hF AX Bc hN hy C LR LE;by_cases Jo:r=[]
  ·have Y1:AF (GZ Xp l= .ok x):=⟨by rw[Y.out,if_pos Jo]⟩;have g:=hr.2 Jo;clear hr Jo Y;generalize ba r=s at*;have z0:=fun o=>(NF.out.alloc o).three.1;have z1:=fun o=>(NF.out.alloc o).three.2.1;have z2:=fun o=>(NF.out.alloc o).three.2.2.1;have z3:=fun o=>(NF.out.alloc o).three.2.2.2;have e0:=fun o=>(JD.out.alloc o).one.1;have e1:=fun o=>(JD.out.alloc o).one.2;have q0:=AC<|((((NF.out.alloc<|.cells #[.slice p1 x.facts.length c1,.slice p2 x.rules.length c2,.slice p3 x.checks.length c3] 33).set 0<|.slice p1 x.facts.length c1).set 1<|.slice p2 x.rules.length c2).set 2<|.slice p3 x.checks.length c3).away (w.heap.size+1) 0 zx .nilIface;have q1:=AC<|((((JD.out.alloc<|.cells #[.slice p1 x.facts.length c1,.slice p2 x.rules.length c2,.slice p3 x.checks.length c3] 33).away w.heap.size 0 zx<|.slice p1 x.facts.length c1).away w.heap.size 1 zx<|.slice p2 x.rules.length c2).away w.heap.size 2 zx<|.slice p3 x.checks.length c3).set 0 .nilIface;have hs1:=B1.out.size;have q2:=AC<|((((B1.out.alloc hs1<|.cells #[.slice p1 x.facts.length c1,.slice p2 x.rules.length c2,.slice p3 x.checks.length c3] 33).setCell (p:=(zm w.heap.size 0)) lr<|.slice p1 x.facts.length c1).setCell (p:=(zm w.heap.size 1)) lr<|.slice p2 x.rules.length c2).setCell (p:=(zm w.heap.size 2)) lr<|.slice p3 x.checks.length c3).setCell (p:=(zm (w.heap.size+1) 0)) (by show w.heap.size<=w.heap.size+1;omega) .nilIface;have q3:AF (∀ j,j∈F->(((((w1.alloc<|.cells #[.slice p1 x.facts.length c1,.slice p2 x.rules.length c2,.slice p3 x.checks.length c3] 33).setCell (zm w.heap.size 0)<|.slice p1 x.facts.length c1).setCell (zm w.heap.size 1)<|.slice p2 x.rules.length c2).setCell (zm w.heap.size 2)<|.slice p3 x.checks.length c3).setCell (zm (w.heap.size+1) 0) .nilIface).heap[j]?=w1.heap[j]?):=⟨fun j hj=>by
    have g1:=HN.out.ge j hj;have g2:=HN.out.lt j hj;simp at g1;rw[Aw _ _ _ _ (by show j≠w.heap.size+1;omega),Vd zx];exact Ah _ _ _ g2⟩
   have q4:AF (Ag w.heap.size (((((w1.alloc<|.cells #[.slice p1 x.facts.length c1,.slice p2 x.rules.length c2,.slice p3 x.checks.length c3] 33).setCell (zm w.heap.size 0)<|.slice p1 x.facts.length c1).setCell (zm w.heap.size 1)<|.slice p2 x.rules.length c2).setCell (zm w.heap.size 2)<|.slice p3 x.checks.length c3).setCell (zm (w.heap.size+1) 0) .nilIface) F):=⟨HN.out.later (by simp;omega) zw⟩;go_wp2_with fail
   clear z0 z1 z2 z3 e0 e1 x0;refine Vn (f:=230) (args:=#[zq (w.heap.size+1) 0]) zw (by simp[go_sem]) ?_;refine(Zz1 _ _).mono ?_;rintro e u' w'' ⟨rfl,rfl,hw⟩;rw[<- hw]at q0 q1 q2 q3 q4;obtain⟨z0,z1,z2,sz⟩:=AO.three (a:= .slice p1 x.facts.length c1) (b:= .slice p2 x.rules.length c2) (c:= .slice p3 x.checks.length c3) q0.out;obtain⟨x0,sx⟩:=AO.one (a:= .nilIface) q1.out;clear hw;simp[Leaves,settle,results,results205,go_sem,z0,z1,z2,x0];exact⟨q2.out,Or.inr ⟨x,_,F,Y1.out,rfl,Dx.stable (ty:=AV) 4 _ _ _ _ _ HQ.out q3.out,q4.out⟩⟩
  ·have Y1:AF (GZ Xp l= .error 7):=⟨by rw[Y.out,if_neg Jo]⟩;have g:(ba r).toList.isEmpty=false:=by rw[List.isEmpty_eq_false_iff];exact fun q=>Jo (hr.1 q)
   clear hr Jo Y;generalize ba r=s at*;have z7:=fun o=>Cb Z1.out.c7 ((AR _ w1).alloc lr o);have hs1:=B1.out.size;have CR:=AC<|QL a (w.heap.size+1+1) (w1.alloc<|.cells #[.slice p1 x.facts.length c1,.slice p2 x.rules.length c2,.slice p3 x.checks.length c3] 33) (n:=7) zu;have Tv:=AC<|JD.out.alloc<|.cells #[.slice p1 x.facts.length c1,.slice p2 x.rules.length c2,.slice p3 x.checks.length c3] 33;have q0:=AC<|((NF.out.alloc<|.cells #[.slice p1 x.facts.length c1,.slice p2 x.rules.length c2,.slice p3 x.checks.length c3] 33).alloc<|.cells #[BG a 7] 236).away (w.heap.size+1) 0 zx<|BG a 7;have q1:=AC<|(Tv.out.alloc<|.cells #[BG a 7] 236).set 0<|BG a 7;have q2:=AC<|((B1.out.alloc hs1<|.cells #[.slice p1 x.facts.length c1,.slice p2 x.rules.length c2,.slice p3 x.checks.length c3] 33).alloc (by simp;omega)<|.cells #[BG a 7] 236).setCell (p:=(zm (w.heap.size+1) 0)) (by show w.heap.size<=w.heap.size+1;omega)<|BG a 7;obtain⟨y0,sy⟩:=Tv.out.one;go_wp2_with fail
   refine mq CR.out ?_;rintro w2 rfl;refine Vn (f:=230) (args:=#[zq (w.heap.size+1) 0]) zw (by simp[go_sem]) ?_;refine(Zkt _ _ a (n:=7) zu _ y0<|sy 0).mono ?_;rintro e u' w'' ⟨rfl,rfl,hw⟩;rw[<- hw]at q0 q1 q2;obtain⟨z0,z1,z2,sz⟩:=q0.out.three;obtain⟨u0,sx⟩:=AO.one (a:=BG a 7) q1.out;clear hw;simp[Leaves,settle,results,results205,go_sem,z0,z1,z2,u0];exact⟨q2.out,Or.inl ⟨7,Y1.out,zu,rfl⟩⟩
def Z0a (h:4000<l.length):Qn l= .error 4:=if_pos h
def Zu6 (h: ¬ 4000<l.length)(hw:GZ Xp l= .error n):Qn l= .error n:=by unfold Qn;rw[if_neg h,hw]
def Z42 {x:Bk}(h: ¬ 4000<l.length)(hw:GZ Xp l= .ok x):Qn l=if IU x≠0 then .error (IU x)else .ok x:=by unfold Qn;rw[if_neg h,hw]
def Z43 (V:D9)(CL:Gg)(Z:AZ a w)(hg:23<=w.heap.size)(hl:l.length<1000000000):
  Calls prog 173 #[.string<|ba l] w (Zwv a w<|Qn l):=by
 have QU:(ba l).size<1000000000:=by rw[Uk];exact hl
 have HS:=AC<|Uk l;have B0:=AC<|(AR w.heap.size w).alloc lr<|.cells #[zn,zn,zn] 33;have CW:=AC<|Zqf CL (Z.below B0.out) (by simp;omega) hl;have z4:=Z.c4;have hz:=AC Z;clear Z CL;by_cases hb:4000<l.length
 ·have Y:=AC<|Z0a hb;have g:(4000:Int)<((ba l).size:Int):=by have:=HS.out;omega
  generalize ba l=s at*;have z4':=fun o=>Cb z4 ((AR _ w).alloc lr o);clear CW z4;go_in
  go_wp2
  go_region
  all_goals
   go_wp2
   refine Bg (by simp[results,results173,go_sem];try rfl) rfl ?_;exact⟨((AR w.heap.size w).alloc lr _).drew,Or.inl ⟨4,Y.out,zu,rfl⟩⟩
 ·have YE:=AC fun n h=>Zu6 (n:=n) hb h;have YO:=AC fun x h=>Z42 (x:=x) hb h;have g: ¬ (4000:Int)<((ba l).size:Int):=by have:=HS.out;omega
  have L0:=AC<|AO.new w #[zn,zn,zn] 33;clear z4;generalize ba l=s at*;go_in
  go_wp2_with fail
  refine CW.out.mono ?_;rintro e w1 ⟨hb1,⟨n,hy,hn,rfl⟩ | ⟨x,vs,F,hy,rfl,hQ,hN⟩⟩
  ·have Y:=AC<|YE.out n hy;have L1:=AC<|TY L0.out hb1;have B1:=AC<|B0.out.trans<|hb1.mono zw;have z0:=fun o=>(L1.out.alloc o).three.1;have z1:=fun o=>(L1.out.alloc o).three.2.1;have z2:=fun o=>(L1.out.alloc o).three.2.2.1;have z3:=fun o=>(L1.out.alloc o).three.2.2.2;rw[BU _ hn];clear hy hb1 CW YE YO;go_wp2
   refine Bg (by simp[results,results173,go_sem,z0,z1,z2];try rfl) rfl ?_;exact⟨(((B1.out.alloc B1.out.size _).setCell (p:=(zm w.heap.size 0)) lr _).setCell (p:=(zm w.heap.size 1)) lr _).setCell (p:=(zm w.heap.size 2)) lr _,Or.inl ⟨n,Y.out,hn,by rw[BU _ hn]⟩⟩
  ·have Y:=AC<|YO.out x hy;have L1:=AC<|TY L0.out hb1;have B1:=AC<|B0.out.trans<|hb1.mono zw;have hs1:=B1.out.size;have HQ:=AC hQ;have HN:=AC hN;have HS5:=AC<|Dx.toS hQ (B:=w1.heap.size) fun k hk=>hN.lt k hk;obtain⟨fv,rv,cv,F1,F2,F3,rfl,h1,h2,h3,hF⟩:=hQ;obtain⟨p1,c1,rfl⟩:=AQ.form h1;obtain⟨p2,c2,rfl⟩:=AQ.form h2;obtain⟨p3,c3,rfl⟩:=AQ.form h3;have CB:=AC fun u (hu:Bl w1 u)=>Zhn V ((hz.out.below B1.out).below hu) hu.size (EZ.carry HS5.out<|Bq hu lr);have LB:=AC<|AO.new w1 #[.slice p1 x.facts.length c1,.slice p2 x.rules.length c2,.slice p3 x.checks.length c3] 33;have BB:=AC<|(AR w1.heap.size w1).alloc lr<|.cells #[.slice p1 x.facts.length c1,.slice p2 x.rules.length c2,.slice p3 x.checks.length c3] 33;clear h1 h2 h3 hF hy hb1 hN CW YE YO HS5;generalize IU x=n at*;go_wp2_with fail
   refine(CB.out _ BB.out).mono ?_;rintro e w2 ⟨rfl,hb2⟩;have B2:=AC<|BB.out.trans<|hb2.mono zw;have Vt:=AC<|(L1.out.of<|B2.out.block _ L1.out.lt);have LB2:=AC<|TY LB.out hb2;obtain⟨y0,y1,y2,sy⟩:=LB2.out.three;obtain⟨z0,z1,z2,sz⟩:=Vt.out.three;have BW:=AC<|B1.out.trans<|B2.out.mono hs1;clear hb2 CB LB L1;by_cases hn:n=0
   ·rw[hn,JR];go_wp2
    refine Bg (by simp[results,results173,go_sem,z0,z1,z2];try rfl) rfl ?_;refine⟨((BW.out.setCell (p:=(zm w.heap.size 0)) lr _).setCell (p:=(zm w.heap.size 1)) lr _).setCell (p:=(zm w.heap.size 2)) lr _,Or.inr ⟨x,_,F,by rw[Y.out,if_neg zx],rfl,Dx.stable (ty:=AV) 4 _ _ _ _ _ HQ.out fun j hj=>(Vd (by have:=HN.out.ge j hj;simp at this;omega)).trans (B2.out.block j<|HN.out.lt j hj),HN.out.later zw (by simp;exact B2.out.size)⟩⟩
   ·rw[BU _ hn];go_wp2
    refine Bg (by simp[results,results173,go_sem,z0,z1,z2];try rfl) rfl ?_;exact⟨((BW.out.setCell (p:=(zm w.heap.size 0)) lr _).setCell (p:=(zm w.heap.size 1)) lr _).setCell (p:=(zm w.heap.size 2)) lr _,Or.inl ⟨n,by rw[Y.out,if_pos hn],hn,by rw[BU _ hn]⟩⟩
end Go.P
namespace Go.W
variable {x:Bk}{t:By}
variable {ty:U2} {d:Nat} {w:World} {vs:List Value} {F:List Nat}
def Iu (ty:U2) (d:Nat):Du (ByteArray×Bk):=fun w vs x F=> ∃ vb,vs= .string x.1::vb/\x.1.size<1000000000/\Dx ty d w vb x.2 F
def Dx.vals (h:Dx ty d w vs x F): ∃ p c p' c' p2 c2,vs=[.slice p x.facts.length c,.slice p' x.rules.length c',.slice p2 x.checks.length c2]:=by
 obtain⟨fv,rv,cv,F1,F2,F3,rfl,h1,h2,h3,_⟩:=h;obtain⟨p,c,rfl⟩:=AQ.form h1;obtain⟨p',c',rfl⟩:=AQ.form h2;obtain⟨p2,c2,rfl⟩:=AQ.form h3;exact⟨p,c,p',c',p2,c2,rfl⟩
def Iu.vals {x:ByteArray×Bk}(h:Iu ty d w vs x F): ∃ p c p' c' p2 c2,vs=[.string x.1,.slice p x.2.facts.length c,.slice p' x.2.rules.length c',.slice p2 x.2.checks.length c2]:=by
 obtain⟨vb,rfl,_,h⟩:=h;obtain⟨p,c,p',c',p2,c2,rfl⟩:=Dx.vals h;exact⟨p,c,p',c',p2,c2,rfl⟩
def Iu.stable (d:Nat):Ii (Iu ty d):=by
 intro w w' vs x F h k;obtain⟨vb,rfl,h1,h2⟩:=h;exact⟨vb,rfl,h1,Dx.stable d _ _ _ _ _ h2 k⟩
def Iu.one {x:ByteArray×Bk}(h:Iu ty d w vs x F): ∀ u,u∈vs->u.oneCell'=true:=by
 obtain⟨p,c,p',c',p2,c2,rfl⟩:=Iu.vals h;intro u hu;simp at hu;rcases hu with rfl | rfl | rfl | rfl <;> rfl
structure Ch where
 sealed:Bool
 links:List (ByteArray×Bk)
 tag:List UInt8
def Xh (t:By):De (ByteArray×Bk):=match Qn t with
 | .error e=>fun _=> .error e
 | .ok x=>fun r=> .ok ((ba t,x),r)
def Z0u {e:Int}(h:Qn t= .error e)(r:By):Xh t r= .error e:=by unfold Xh;rw[h]
def Z2y (h:Qn t= .ok x)(r:By):Xh t r= .ok ((ba t,x),r):=by unfold Xh;rw[h]
def Sv:De (ByteArray×Bk):=Qm.then fun n=>if 4000<n then fun _=> .error 4 else(Jt n).then Xh
def Nr:By:=[119,114,116,49]
def jU (s:Nat) (l:List (ByteArray×Bk)):De Ch:=if l.length=0 then fun _=> .error 7 else(Jt 32).map fun t=>⟨s==1,l,t⟩
def fP (s:Nat):De Ch:=if 1<s then fun _=> .error 7 else(DF 8 Sv).then (jU s)
def Hu:De Ch:=(Jt 4).then fun m=>if m≠Nr then fun _=> .error 7 else LY.then fP
end Go.W
namespace Go.P
def Z89:(prog.info? 110).map (fun i=>(i.zero,i.size,i.bytes))=some (some<|.agg #[.string ⟨#[]⟩,zn,zn,zn],4,88):=zt
def Zxj:J3 prog 78 110 4 88:=by
 obtain⟨i0,hi,hz0,hz1,hz2⟩:=info_parts Z89;exact⟨i0,_,underlying78,hi,hz0,hz1,hz2,rfl,zu,zu⟩
def Zqe {K d:Nat}(hen:Da K){first cap:Array Value}{f:De (ByteArray×Bk)}{a:Nat->Addr}{w:World}{b m:Nat}{l:By}(Z:AZ a w)(h:Dc w b l)(hm:m<1000)
  (HC: ∀ u r,Hr a b w u r->Calls prog K (first++cap) u (Iw a b (Ie (Iu AV d) u.heap.size) u<|f r)):
  Calls prog 132 #[zq b 0,.int .u64 (m:Int),.func (.func K) first cap] w (Iw a b (S9 110 4 (Iu AV d) w.heap.size) w<|DF m f l):=by
 have C:=AC<|Ze Z h;have HH:=AC HC;have Dz: ∀ args w,(callFunc K args).run prog w= .ok (.enter K args) w:=hen;have hgb:=h.2.2;have ZZ:=AC Z;have E9:=h.1.lt;clear HC hen Z h;go_in
 go_wp2_with fail
 refine C.out.mono ?_;rintro e w1 ⟨AX,⟨i,hy,hi,rfl⟩ | ⟨n,r1,v,hy,rfl,⟨rfl,hn⟩,Bc⟩⟩
 ·exact⟨rfl,AX,Or.inl ⟨i,De.Ae hy,hi,rfl⟩⟩
 have Y:=AC<|De.then_ok (g:=fun n=>if m<n then fun _=>Except.error 4 else FR f n) hy;have D1:AF (Hr a b w w1 r1):=⟨Bc,AX,ZZ.out.keeps AX hgb⟩;clear AX Bc hy C;by_cases hlt:m<n
 ·have Y4:AF (DF m f l= .error 4):=⟨by rw[DF,Y.out,if_pos hlt]⟩;have g:(m:Int)<(n:Int):=zx
  have z4:=D1.out.2.2.c4;have CR:=AC<|QL a b w1 (n:=4) zu;clear HH Y;go_wp2_with fail
  refine mq CR.out ?_;rintro w2 rfl;exact⟨rfl,D1.out.2.1,Or.inl ⟨4,Y4.out,zu,rfl⟩⟩
 ·have Y4:AF (DF m f l=FR f n r1):=⟨by rw[DF,Y.out,if_neg hlt]⟩;have g: ¬ (m:Int)<(n:Int):=zx
  clear Y;go_wp2
  go_loopw [8,18] (fun tv iv wr=>Iy 110 4 (Iu AV d) f n (DF m f l) (Hr a b w) w tv iv wr) (fun _ iv _=>n-(intOf iv).toNat)
  case atStart=>exact⟨0,[],r1,[],none,0,zx,rfl,rfl,rfl,AQ.nil,Ag.nil _ _,by rw[Y4.out];simp[De.map];cases FR f n r1 <;> rfl,D1.out⟩
  case round=>
   obtain⟨q,xs,r,F,p,c,hq,rfl,rfl,FY,hR,hN,hY,hD⟩:=hrel;by_cases Pe:q<n
   ·have HR:=AC hR;have HN:=AC hN;have HY:=AC hY;have HD:=AC hD;have HX:=AC FY;have CC:=AC<|HH.out _ _ hD;have g2:(q:Int)<(n:Int):=zx
    clear hR hN hY hD FY HH;go_wp2_with fail
    refine CC.out.mono ?_;rintro e w2 ⟨hk2,⟨i,hy,hi,rfl⟩ | ⟨x,r2,v,hy,rfl,⟨vs,F2,rfl,hQ,BZ⟩,Cj⟩⟩
    ·exact⟨rfl,HD.out.2.1.trans hk2,Or.inl ⟨i,Iy.stop Pe HY.out hy,hi,rfl⟩⟩
    obtain⟨p1,c1,p2,c2,p3,c3,rfl⟩:=Iu.vals hQ;have NY:=AC<|Iy.step Pe HY.out hy;have D2:AF (Hr a b w w2 r2):=⟨Cj,HD.out.2.1.trans hk2,HD.out.2.2.keeps hk2 hgb⟩;have hs2:=hk2.size;have hsw:=HD.out.2.1.size;have bF:AF (∀ j,j∈F->j≠b):=⟨fun j hj=>by have:=HN.out.ge j hj;omega⟩;have Ao:AF (AQ 110 4 (Iu AV d) w2 (.slice p q c) xs F):=⟨AQ.stable (Iu.stable (ty:=AV) d) _ _ _ _ _ HR.out fun j hj=>hk2.block j (HN.out.lt j hj) (bF.out j hj)⟩;have HQ:=AC hQ;have N8:AF (Ag w.heap.size w2 F2):=⟨BZ.later zx lr⟩;have IW:AF (Ag w.heap.size w2 F):=⟨HN.out.later lr zx⟩;have XO:AF (∀ j,j∈F->j∉F2):=⟨fun j hj Am=>by have:=HN.out.lt j hj;have:=BZ.ge j Am;omega⟩;have GU:xs.length<100000000:=by rw[HX.out];omega
    clear hQ BZ hk2 Cj hy CC HR HY HN;go_wp2_with (at_builtin;go_must (refine Nu Zxj rfl (.tmp 20) (.tmp 23) rfl (Iu.stable (ty:=AV) d) (fun _ _ _ _ h=>Iu.one h) w.heap.size (.slice p q c) xs F rfl (AQ.stable (Iu.stable (ty:=AV) d) _ _ _ _ _ Ao.out fun j hj=>Ah _ _ _ (IW.out.lt j hj)) w2.heap.size #[.string x.1,.slice p1 x.2.facts.length c1,.slice p2 x.2.rules.length c2,.slice p3 x.2.checks.length c3] 110 (0,0) x F2 rfl (Hw _ _) rfl (Iu.stable (ty:=AV) d _ _ _ _ _ HQ.out fun j hj=>Ah _ _ _ (N8.out.lt j hj)) GU (by simp;omega) (IW.out.later lr zw) (N8.out.later lr zw) XO.out ?_);intro g3 cap3 w4 F3 AM)
    have R4:=AM.row;rw[HX.out]at R4;have hb4:w4.heap[b]?=w2.heap[b]?:=(AM.same b (by have:=D2.out.1.1.lt;simp;omega) (fun hj=>by have:=IW.out.ge b hj;omega)).trans<|Ah _ _ _ D2.out.1.1.lt;have K4:=Ad.UW AM (D2.out.2.1.alloc _) fun j hj=>IW.out.ge j hj;have D4:AF (Hr a b w w4 r2):=⟨D2.out.1.of hb4,K4,ZZ.out.keeps K4 hgb⟩;try rw[HX.out]
    go_roundw
    case rel=>exact⟨q+1,xs++[x],r2,F3,_,_,zx,by go_num,rfl,by simp[HX.out],R4,AM.new,NY.out,D4.out⟩
    case measure=>simp[intOf];omega
   ·obtain rfl:q=n:=zx
    have Y5:=AC<|Iy.done hY;have g2: ¬ (q:Int)<(q:Int):=zx
    have H5:=AC<|AJ hR<|AJ hN hD;clear hR hN hY hD HH;go_wp2
    go_ret
    exact⟨H5.out.2.2.2.1,Or.inr ⟨xs,r,_,Y5.out,rfl,⟨F,H5.out.1,H5.out.2.1⟩,H5.out.2.2.1⟩⟩
end Go.P
