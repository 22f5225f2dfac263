import Derived.Test.YtghnjdpgbldlkaaGreatDoorW21
import Derived.Test.YtghnjdpgbldlkaaGreatDoorW31
set_option linter.defProp false
set_option maxRecDepth 100000
set_option maxHeartbeats 8000000
set_option linter.unusedSimpArgs false
open Go.Proofs Go.RowKit Go.W Tryz
namespace Go.W
variable {t:ByteArray}{e:Int×Nat}{u:Unit}{x:Tk}{p:Nat}
def Zsw {α:Type}{f:Tk->Nat->Re α}(h:8000<t.size):Et t f= .error (4,8000):=by unfold Et;rw[if_pos h]
def Zsx {α:Type}{f:Tk->Nat->Re α}(h: ¬ 8000<t.size)(hr:BD t 0= .error e):Et t f= .error e:=by unfold Et;rw[if_neg h,Ef hr]
def Zqr {α:Type}{f:Tk->Nat->Re α}(h: ¬ 8000<t.size)(hr:BD t 0= .ok (u,x,p))(hf:f x p= .error e):Et t f= .error e:=by unfold Et;rw[if_neg h,Cc hr,hf]
def Z1h {α:Type}{f:Tk->Nat->Re α}(h: ¬ 8000<t.size)(hr:BD t 0= .ok (u,x,p)){y:α}{x2:Tk}{p2:Nat}(hf:f x p= .ok (y,x2,p2)):Et t f= .ok y:=by unfold Et;rw[if_neg h,Cc hr,hf]
end Go.W
namespace Go.P
variable {a:Nat->Addr}{w:World}
def Zna (v:Value)(w:World):(Instr.typeAssert (.iface 83 v) 20 83 true).run prog w= .ok (.tuple #[v,.bool true]) w:=zt
def Zwx (b L:Nat)(x:Value)(w:World)(hc:w.cell? ⟨b,0,none⟩=some x)(hf:w.frozen? ⟨b,0,none⟩=false):CallsD prog 62 #[.pointer<|Qb b 0] (.panicking [{v:= .iface 83<|.pointer<|Qb L 0,recovered:=false}]) w fun e u' w'=>
  e= .returned (.tuple #[])/\u'= .panicking [{v:= .iface 83<|.pointer<|Qb L 0,recovered:=true}]/\w'=w.setCell ⟨b,0,none⟩ (.iface 83<|.pointer<|Qb L 0):=by
 have hbl:=Ll hc;refine callsD_of_wpS func62 rfl fun c₀ cs hu=>?_;apply wpS_seq
 apply wpS_region
 simp[wpOpsS,go_sem,recoverD,hu,ntmps62,Exit.thenS,Array.replicate,List.replicate];refine wpS_of_wp ?_;have ta:=Zna;go_wp2_with fail
 simp[bodyPostS,results,results62]
def Yct (b:Nat)(w:World):CallsD prog 62 #[.pointer<|Qb b 0] .returning w fun e u' w'=>e= .returned (.tuple #[])/\u'= .returning/\w'=w:=by
 refine callsD_of_wpS func62 rfl fun c₀ cs hu=>?_;apply wpS_seq
 apply wpS_region
 simp[wpOpsS,go_sem,recoverD,hu,ntmps62,Exit.thenS,Array.replicate,List.replicate];refine wpS_of_wp ?_;go_wp2_with fail
 cases c₀;simp_all [bodyPostS,results,results62]
def mW {α:Type} (a:Nat->Addr) (w:World) (zero:Value) (V:World->Value->α->Prop) (Y:Except (Int×Nat) α) (e:Ending) (w':World):Prop:=
 Bl w w'/\((∃ n p L,Y= .error (n,p)/\n≠0/\w.heap.size<=L/\e= .returned (.tuple #[zero,.iface 83<|.pointer<|Qb L 0])/\AJ w' L #[.int .i64 (p:Int),BS a n] 87)\/ ∃ v y,Y= .ok y/\e= .returned (.tuple #[v,.nilIface])/\V w' v y)
def Ztn:Bj 30:=DL func30 zt rfl
def Zza (t:ByteArray)(ht:t.size<1000000000)(Z:Aa a w):
  Calls prog 29 #[.string t,.func (.func 30) #[] #[]] w (mW a w (.agg #[.slice none 0 0,.slice none 0 0,.slice none 0 0]) (G5 (Dq AY 4) w.heap.size)<|Et t<|Jj t):=by
 have Dw:=G6;have hg:=Z.size;have Cb: ∀ args w,(callFunc 30 args).run prog w= .ok (.enter 30 args) w:=Ztn;by_cases Gp:8000<t.size
 ·have Y:=AA<|Zsw (f:=Jj t) Gp;have g1:decide (8000<(t.size:Int))=true:=by simp;omega
  have z4:=fun o o'=>Aq (Aq Z.c4<|(AQ _ w).alloc lr o) ((AQ _ _).alloc lr o');simp only[DC a (show(4:Int)≠0 by decide)]at z4;clear Z;go_enter_defers func29,ntmps29
  go_wp2
  go_region
  all_goals go_wp2_with fail
  have q0:=AA<|((AQ w.heap.size w).alloc lr<|.cells #[.slice none 0 0,.slice none 0 0,.slice none 0 0] 38).alloc zw<|.cells #[.iface 83<|.pointer<|Qb (w.heap.size+1+1) 0] 56;have q1:=AA<|(q0.out.alloc (by simp;omega)<|.cells #[.int .i64 8000,.iface 411<|.pointer<|some<|a 3] 87).drew;have q2:=AA<|AJ.new ((w.alloc<|.cells #[.slice none 0 0,.slice none 0 0,.slice none 0 0] 38).alloc<|.cells #[.iface 83<|.pointer<|Qb (w.heap.size+1+1) 0] 56) #[.int .i64 8000,.iface 411<|.pointer<|some<|a 3] 87;simp only[EH]at q2;simp[bodyPostD,Leaves,results,results29,go_sem];exact⟨q1.out,Or.inl ⟨4,8000,w.heap.size+1+1,Y.out,zu,zx,rfl,q2.out⟩⟩
 ·have g1:decide (8000<(t.size:Int))=false:=by simp;omega
  have B0:=AA<|(((AQ w.heap.size w).alloc lr<|.cells #[.slice none 0 0,.slice none 0 0,.slice none 0 0] 38).alloc zw<|.cells #[.nilIface] 56).alloc (by simp;omega)<|.cells #[.string t,.int .i64 0,.int .i64 0,.string ⟨#[]⟩,.int .i64 0,.int .i64 0,.string ⟨#[]⟩,.slice none 0 0] 155;have LR:=AA<|((AJ.new w #[.slice none 0 0,.slice none 0 0,.slice none 0 0] 38).alloc<|.cells #[.nilIface] 56).alloc<|.cells #[.string t,.int .i64 0,.int .i64 0,.string ⟨#[]⟩,.int .i64 0,.int .i64 0,.string ⟨#[]⟩,.slice none 0 0] 155;have LE:=AA<|(AJ.new (w.alloc<|.cells #[.slice none 0 0,.slice none 0 0,.slice none 0 0] 38) #[.nilIface] 56).alloc<|.cells #[.string t,.int .i64 0,.int .i64 0,.string ⟨#[]⟩,.int .i64 0,.int .i64 0,.string ⟨#[]⟩,.slice none 0 0] 155;have LD:=AA<|AJ.new ((w.alloc<|.cells #[.slice none 0 0,.slice none 0 0,.slice none 0 0] 38).alloc<|.cells #[.nilIface] 56) #[.string t,.int .i64 0,.int .i64 0,.string ⟨#[]⟩,.int .i64 0,.int .i64 0,.string ⟨#[]⟩,.slice none 0 0] 155;simp only[EH]at LE LD;have jf:Rd (((w.alloc<|.cells #[.slice none 0 0,.slice none 0 0,.slice none 0 0] 38).alloc<|.cells #[.nilIface] 56).alloc<|.cells #[.string t,.int .i64 0,.int .i64 0,.string ⟨#[]⟩,.int .i64 0,.int .i64 0,.string ⟨#[]⟩,.slice none 0 0] 155) (w.heap.size+1+1) t 0 (ED 0):=⟨LD.out,zx,zx,zx⟩;have C:=AA<|uW (Z.below B0.out) jf;have ZZ:=AA Z;clear Z LD jf;go_enter_defers func29,ntmps29
  go_wp2_with fail
  refine C.out.mono ?_;rintro e w1 ⟨AZ,⟨n,r,hy,hn,L,hL,rfl,hB⟩ | ⟨v,u,x1,r1,hy,rfl,hv,hr1⟩⟩
  ·have Jw:=LR.out.of<|AZ.block w.heap.size (by simp;omega) zx;have Hu:=LE.out.of<|AZ.block (w.heap.size+1) zw zx;have B1:=AA<|B0.out.trans<|AZ.below (B:=w.heap.size) zx (by simp;omega);obtain⟨y0,sy⟩:=Hu.one;simp at hL;have q0:=AA<|Jw.away (w.heap.size+1) 0 zx<|.iface 83<|.pointer<|Qb L 0;have q1:=AA<|Hu.set 0<|.iface 83<|.pointer<|Qb L 0;have q2:=AA<|B1.out.setCell (p:=⟨w.heap.size+1,0,none⟩) (by show w.heap.size<=w.heap.size+1;omega)<|.iface 83<|.pointer<|Qb L 0;have q3:=AA<|hB.away (w.heap.size+1) 0 zx<|.iface 83<|.pointer<|Qb L 0;refine Ru (f:=62) (args:=#[.pointer<|Qb (w.heap.size+1) 0]) zw (by simp[go_sem]) ?_;refine(Zwx _ _ _ w1 y0<|sy 0).mono ?_;rintro e u' w'' ⟨rfl,rfl,hw⟩;rw[<- hw]at q0 q1 q2 q3;obtain⟨z0,z1,z2,sz⟩:=q0.out.three;obtain⟨x0,sx⟩:=AJ.one (a:= .iface 83<|.pointer<|Qb L 0) q1.out;clear hw;simp[Leaves,settle,results,results29,go_sem,z0,z1,z2,x0];exact⟨q2.out,Or.inl ⟨n,r,L,Zsx Gp hy,hn,zx,rfl,q3.out⟩⟩
  obtain rfl:v= .tuple #[]:=hv;have hx1:=uX zx hy;have Z1:=(ZZ.out.below B0.out).keeps AZ zx;have Jw:=AA<|LR.out.of<|AZ.block w.heap.size (by simp;omega) zx;have Hu:=AA<|LE.out.of<|AZ.block (w.heap.size+1) zw zx;have B1:=AA<|B0.out.trans<|AZ.below (B:=w.heap.size) zx (by simp;omega);have hs1:=AZ.size;simp at hs1;have CB:=AA<|Z3a Z1 hr1 hx1;have HY:=AA hy;clear AZ hy hr1 C LR LE Z1;go_wp2_with fail
  refine CB.out.mono ?_;rintro e w2 ⟨hk2,⟨n,r,hy,hn,L,hL,rfl,hB⟩ | ⟨v,k,x2,r2,hy,rfl,⟨vs,F,rfl,hQ,hN⟩,hr2⟩⟩
  ·have SG:=Jw.out.of<|hk2.block w.heap.size zx zx;have QO:=Hu.out.of<|hk2.block (w.heap.size+1) zx zx;have B2:=AA<|B1.out.trans<|hk2.below (B:=w.heap.size) zx zx;obtain⟨y0,sy⟩:=QO.one;have q0:=AA<|SG.away (w.heap.size+1) 0 zx<|.iface 83<|.pointer<|Qb L 0;have q1:=AA<|QO.set 0<|.iface 83<|.pointer<|Qb L 0;have q2:=AA<|B2.out.setCell (p:=⟨w.heap.size+1,0,none⟩) (by show w.heap.size<=w.heap.size+1;omega)<|.iface 83<|.pointer<|Qb L 0;have q3:=AA<|hB.away (w.heap.size+1) 0 zx<|.iface 83<|.pointer<|Qb L 0;refine Ru (f:=62) (args:=#[.pointer<|Qb (w.heap.size+1) 0]) zw (by simp[go_sem]) ?_;refine(Zwx _ _ _ w2 y0<|sy 0).mono ?_;rintro e u' w'' ⟨rfl,rfl,hw⟩;rw[<- hw]at q0 q1 q2 q3;obtain⟨z0,z1,z2,sz⟩:=q0.out.three;obtain⟨x0,sx⟩:=AJ.one (a:= .iface 83<|.pointer<|Qb L 0) q1.out;clear hw;simp[Leaves,settle,results,results29,go_sem,z0,z1,z2,x0];exact⟨q2.out,Or.inl ⟨n,r,L,Zqr Gp HY.out hy,hn,zx,rfl,q3.out⟩⟩
  have HQ:=AA hQ;obtain⟨fv,rv,cv,F1,F2,F3,rfl,h1,h2,h3,hF⟩:=hQ;obtain⟨p1,c1,rfl⟩:=AO.form h1;obtain⟨p2,c2,rfl⟩:=AO.form h2;obtain⟨p3,c3,rfl⟩:=AO.form h3;have SG:=AA<|Jw.out.of<|hk2.block w.heap.size zx zx;have QO:=AA<|Hu.out.of<|hk2.block (w.heap.size+1) zx zx;have B2:=AA<|B1.out.trans<|hk2.below (B:=w.heap.size) zx zx;have Y:=AA<|Z1h Gp HY.out hy;have HN:=AA hN;clear h1 h2 h3 hF hk2 hr2 hy hN CB Jw Hu B1;obtain⟨z0,z1,z2,sz⟩:=SG.out.three;obtain⟨e0,se⟩:=QO.out.one;have q0:=AA<|(((SG.out.set 0<|.slice p1 k.facts.length c1).set 1<|.slice p2 k.rules.length c2).set 2<|.slice p3 k.checks.length c3).away (w.heap.size+1) 0 zx .nilIface;have q1:=AA<|(((QO.out.away w.heap.size 0 zx<|.slice p1 k.facts.length c1).away w.heap.size 1 zx<|.slice p2 k.rules.length c2).away w.heap.size 2 zx<|.slice p3 k.checks.length c3).set 0 .nilIface;have q2:=AA<|(((B2.out.setCell (p:=⟨w.heap.size,0,none⟩) lr<|.slice p1 k.facts.length c1).setCell (p:=⟨w.heap.size,1,none⟩) lr<|.slice p2 k.rules.length c2).setCell (p:=⟨w.heap.size,2,none⟩) lr<|.slice p3 k.checks.length c3).setCell (p:=⟨w.heap.size+1,0,none⟩) (by show w.heap.size<=w.heap.size+1;omega) .nilIface;have q3:AC (∀ j,j∈F->((((w2.setCell ⟨w.heap.size,0,none⟩<|.slice p1 k.facts.length c1).setCell ⟨w.heap.size,1,none⟩<|.slice p2 k.rules.length c2).setCell ⟨w.heap.size,2,none⟩<|.slice p3 k.checks.length c3).setCell ⟨w.heap.size+1,0,none⟩ .nilIface).heap[j]?=w2.heap[j]?):=⟨fun j hj=>by
   have g1:=HN.out.ge j hj;rw[Au _ _ _ _ (by show j≠w.heap.size+1;omega),Rk zx]⟩
  have q4:AC (Af w.heap.size ((((w2.setCell ⟨w.heap.size,0,none⟩<|.slice p1 k.facts.length c1).setCell ⟨w.heap.size,1,none⟩<|.slice p2 k.rules.length c2).setCell ⟨w.heap.size,2,none⟩<|.slice p3 k.checks.length c3).setCell ⟨w.heap.size+1,0,none⟩ .nilIface) F):=⟨HN.out.later zx zw⟩;go_wp2_with fail
  clear z0 z1 z2 sz e0 se;refine Ru (f:=62) (args:=#[.pointer<|Qb (w.heap.size+1) 0]) zw (by simp[go_sem]) ?_;refine(Yct _ _).mono ?_;rintro e u' w'' ⟨rfl,rfl,hw⟩;rw[<- hw]at q0 q1 q2 q3 q4;obtain⟨z0,z1,z2,sz⟩:=AJ.three (a:= .slice p1 k.facts.length c1) (b:= .slice p2 k.rules.length c2) (c:= .slice p3 k.checks.length c3) q0.out;obtain⟨x0,sx⟩:=AJ.one (a:= .nilIface) q1.out;clear hw;simp[Leaves,settle,results,results29,go_sem,z0,z1,z2,x0];exact⟨q2.out,Or.inr ⟨_,k,Y.out,rfl,⟨_,F,rfl,Dq.stable (ty:=AY) 4 _ _ _ _ _ HQ.out q3.out,q4.out⟩⟩⟩
def Z6j (t:ByteArray)(ht:t.size<1000000000)(Z:Aa a w):
  Calls prog 17 #[.string t] w (mW a w (.agg #[.slice none 0 0,.slice none 0 0,.slice none 0 0]) (G5 (Dq AY 4) w.heap.size)<|Et t<|Jj t):=by
 have Dw:=G6;have B0:=AA<|(AQ _ w).alloc lr<|.cells #[.slice none 0 0,.slice none 0 0,.slice none 0 0] 38;have L0:=AA<|AJ.new w #[.slice none 0 0,.slice none 0 0,.slice none 0 0] 38;have C:=AA<|Zza t ht<|Z.below B0.out;clear Z;go_in
 go_wp2_with fail
 refine C.out.mono ?_;rintro e w1 ⟨hb1,⟨n,p,L,hy,hn,hL,rfl,hB⟩ | ⟨v,k,hy,rfl,⟨vs,F,rfl,hQ,hN⟩⟩⟩
 ·obtain⟨y0,y1,y2,sy⟩:=(L0.out.of<|hb1.block _ zw).three;have R:=AA<|AF (B0.out.trans<|hb1.mono zw)<|AF hy hB;simp at hL;clear hb1 hy hB C;go_wp2
  refine CQ (by simp[results,results17,go_sem,y0,y1,y2];try rfl) rfl ?_;exact⟨((R.out.1.setCell (p:=⟨w.heap.size,0,none⟩) lr _).setCell (p:=⟨w.heap.size,1,none⟩) lr _).setCell (p:=⟨w.heap.size,2,none⟩) lr _,Or.inl ⟨n,p,L,R.out.2.1,hn,zx,rfl,((R.out.2.2.away _ _ zx _).away _ _ zx _).away _ _ zx _⟩⟩
 ·have HQ:=AA hQ;obtain⟨fv,rv,cv,F1,F2,F3,rfl,h1,h2,h3,hF⟩:=hQ;obtain⟨p1,c1,rfl⟩:=AO.form h1;obtain⟨p2,c2,rfl⟩:=AO.form h2;obtain⟨p3,c3,rfl⟩:=AO.form h3;obtain⟨y0,y1,y2,sy⟩:=(L0.out.of<|hb1.block _ zw).three;have R:=AA<|AF (B0.out.trans<|hb1.mono zw)<|AF hy hN;clear h1 h2 h3 hF hb1 hy hN C;go_wp2
  refine CQ (by simp[results,results17,go_sem,y0,y1,y2];try rfl) rfl ?_;exact⟨((R.out.1.setCell (p:=⟨w.heap.size,0,none⟩) lr _).setCell (p:=⟨w.heap.size,1,none⟩) lr _).setCell (p:=⟨w.heap.size,2,none⟩) lr _,Or.inr ⟨_,k,R.out.2.1,rfl,⟨_,F,rfl,Dq.stable (ty:=AY) 4 _ _ _ _ _ HQ.out fun j hj=>Rk (by have:=R.out.2.2.ge j hj;simp at this;omega),R.out.2.2.later zw zw⟩⟩⟩
end Go.P
namespace Go.P
variable {a:Nat->Addr}{w:World}
def Zwy (b L:Nat)(x:Value)(w:World)(hc:w.cell? ⟨b,0,none⟩=some x)(hf:w.frozen? ⟨b,0,none⟩=false):CallsD prog 68 #[.pointer<|Qb b 0] (.panicking [{v:= .iface 83<|.pointer<|Qb L 0,recovered:=false}]) w fun e u' w'=>
  e= .returned (.tuple #[])/\u'= .panicking [{v:= .iface 83<|.pointer<|Qb L 0,recovered:=true}]/\w'=w.setCell ⟨b,0,none⟩ (.iface 83<|.pointer<|Qb L 0):=by
 have hbl:=Ll hc;refine callsD_of_wpS func68 rfl fun c₀ cs hu=>?_;apply wpS_seq
 apply wpS_region
 simp[wpOpsS,go_sem,recoverD,hu,ntmps68,Exit.thenS,Array.replicate,List.replicate];refine wpS_of_wp ?_;have ta:=Zna;go_wp2_with fail
 simp[bodyPostS,results,results68]
def Ycu (b:Nat)(w:World):CallsD prog 68 #[.pointer<|Qb b 0] .returning w fun e u' w'=>e= .returned (.tuple #[])/\u'= .returning/\w'=w:=by
 refine callsD_of_wpS func68 rfl fun c₀ cs hu=>?_;apply wpS_seq
 apply wpS_region
 simp[wpOpsS,go_sem,recoverD,hu,ntmps68,Exit.thenS,Array.replicate,List.replicate];refine wpS_of_wp ?_;go_wp2_with fail
 cases c₀;simp_all [bodyPostS,results,results68]
def Zn5:Bj 33:=DL func33 zt rfl
def Zzb (t:ByteArray)(ht:t.size<1000000000)(Z:Aa a w):
  Calls prog 32 #[.string t,.func (.func 33) #[] #[]] w (mW a w (.slice none 0 0) (Px 162 2 (EA AY 4) w.heap.size)<|Et t<|T9 t):=by
 have Dw:=G6;have hg:=Z.size;have Cb: ∀ args w,(callFunc 33 args).run prog w= .ok (.enter 33 args) w:=Zn5;by_cases Gp:8000<t.size
 ·have Y:=AA<|Zsw (f:=T9 t) Gp;have g1:decide (8000<(t.size:Int))=true:=by simp;omega
  have z4:=fun o=>Aq Z.c4 ((AQ _ w).alloc lr o);simp only[DC a (show(4:Int)≠0 by decide)]at z4;clear Z;go_enter_defers func32,ntmps32
  go_wp2
  go_region
  all_goals go_wp2_with fail
  have q0:=AA<|(AQ w.heap.size w).alloc lr<|.cells #[.iface 83<|.pointer<|Qb (w.heap.size+1) 0] 56;have q1:=AA<|(q0.out.alloc zw<|.cells #[.int .i64 8000,.iface 411<|.pointer<|some<|a 3] 87).drew;have q2:=AA<|AJ.new (w.alloc<|.cells #[.iface 83<|.pointer<|Qb (w.heap.size+1) 0] 56) #[.int .i64 8000,.iface 411<|.pointer<|some<|a 3] 87;simp only[EH]at q2;simp[bodyPostD,Leaves,results,results32,go_sem];exact⟨q1.out,Or.inl ⟨4,8000,w.heap.size+1,Y.out,zu,zx,rfl,q2.out⟩⟩
 ·have g1:decide (8000<(t.size:Int))=false:=by simp;omega
  have B0:=AA<|((AQ w.heap.size w).alloc lr<|.cells #[.nilIface] 56).alloc zw<|.cells #[.string t,.int .i64 0,.int .i64 0,.string ⟨#[]⟩,.int .i64 0,.int .i64 0,.string ⟨#[]⟩,.slice none 0 0] 155;have LE:=AA<|(AJ.new w #[.nilIface] 56).alloc<|.cells #[.string t,.int .i64 0,.int .i64 0,.string ⟨#[]⟩,.int .i64 0,.int .i64 0,.string ⟨#[]⟩,.slice none 0 0] 155;have LD:=AA<|AJ.new (w.alloc<|.cells #[.nilIface] 56) #[.string t,.int .i64 0,.int .i64 0,.string ⟨#[]⟩,.int .i64 0,.int .i64 0,.string ⟨#[]⟩,.slice none 0 0] 155;simp only[EH]at LD;have jf:Rd ((w.alloc<|.cells #[.nilIface] 56).alloc<|.cells #[.string t,.int .i64 0,.int .i64 0,.string ⟨#[]⟩,.int .i64 0,.int .i64 0,.string ⟨#[]⟩,.slice none 0 0] 155) (w.heap.size+1) t 0 (ED 0):=⟨LD.out,zx,zx,zx⟩;have C:=AA<|uW (Z.below B0.out) jf;have ZZ:=AA Z;clear Z LD jf;go_enter_defers func32,ntmps32
  go_wp2_with fail
  refine C.out.mono ?_;rintro e w1 ⟨AZ,⟨n,r,hy,hn,L,hL,rfl,hB⟩ | ⟨v,u,x1,r1,hy,rfl,hv,hr1⟩⟩
  ·have Hu:=LE.out.of<|AZ.block w.heap.size (by simp;omega) zx;have B1:=AA<|B0.out.trans<|AZ.below (B:=w.heap.size) zx (by simp;omega);simp at hL;obtain⟨y0,sy⟩:=Hu.one;have q1:=AA<|Hu.set 0<|.iface 83<|.pointer<|Qb L 0;have q2:=AA<|B1.out.setCell (p:=⟨w.heap.size,0,none⟩) lr<|.iface 83<|.pointer<|Qb L 0;have q3:=AA<|hB.away w.heap.size 0 zx<|.iface 83<|.pointer<|Qb L 0;refine Ru (f:=68) (args:=#[.pointer<|Qb w.heap.size 0]) zw (by simp[go_sem]) ?_;refine(Zwy _ _ _ w1 y0<|sy 0).mono ?_;rintro e u' w'' ⟨rfl,rfl,hw⟩;rw[<- hw]at q1 q2 q3;obtain⟨x0,sx⟩:=AJ.one (a:= .iface 83<|.pointer<|Qb L 0) q1.out;clear hw;simp[Leaves,settle,results,results32,go_sem,x0];exact⟨q2.out,Or.inl ⟨n,r,L,Zsx Gp hy,hn,zx,rfl,q3.out⟩⟩
  obtain rfl:v= .tuple #[]:=hv;have hx1:=uX zx hy;have Z1:=(ZZ.out.below B0.out).keeps AZ zx;have Hu:=AA<|LE.out.of<|AZ.block w.heap.size (by simp;omega) zx;have B1:=AA<|B0.out.trans<|AZ.below (B:=w.heap.size) zx (by simp;omega);have hs1:=AZ.size;simp at hs1;have CB:=AA<|Zt7 Z1 hr1 hx1;have HY:=AA hy;clear AZ hy hr1 C LE Z1;go_wp2_with fail
  refine CB.out.mono ?_;rintro e w2 ⟨hk2,⟨n,r,hy,hn,L,hL,rfl,hB⟩ | ⟨v,k,x2,r2,hy,rfl,⟨F,hR,hN⟩,hr2⟩⟩
  ·have QO:=Hu.out.of<|hk2.block w.heap.size zx zx;have B2:=AA<|B1.out.trans<|hk2.below (B:=w.heap.size) zx zx;obtain⟨y0,sy⟩:=QO.one;have q1:=AA<|QO.set 0<|.iface 83<|.pointer<|Qb L 0;have q2:=AA<|B2.out.setCell (p:=⟨w.heap.size,0,none⟩) lr<|.iface 83<|.pointer<|Qb L 0;have q3:=AA<|hB.away w.heap.size 0 zx<|.iface 83<|.pointer<|Qb L 0;refine Ru (f:=68) (args:=#[.pointer<|Qb w.heap.size 0]) zw (by simp[go_sem]) ?_;refine(Zwy _ _ _ w2 y0<|sy 0).mono ?_;rintro e u' w'' ⟨rfl,rfl,hw⟩;rw[<- hw]at q1 q2 q3;obtain⟨x0,sx⟩:=AJ.one (a:= .iface 83<|.pointer<|Qb L 0) q1.out;clear hw;simp[Leaves,settle,results,results32,go_sem,x0];exact⟨q2.out,Or.inl ⟨n,r,L,Zqr Gp HY.out hy,hn,zx,rfl,q3.out⟩⟩
  have HQ:=AA hR;obtain⟨p1,c1,rfl⟩:=AO.form hR;have QO:=AA<|Hu.out.of<|hk2.block w.heap.size zx zx;have B2:=AA<|B1.out.trans<|hk2.below (B:=w.heap.size) zx zx;have Y:=AA<|Z1h Gp HY.out hy;have HN:=AA hN;clear hR hk2 hr2 hy hN CB Hu B1;obtain⟨e0,se⟩:=QO.out.one;have q1:=AA<|QO.out.set 0 .nilIface;have q2:=AA<|B2.out.setCell (p:=⟨w.heap.size,0,none⟩) lr .nilIface;have q3:AC (∀ j,j∈F->(w2.setCell ⟨w.heap.size,0,none⟩ .nilIface).heap[j]?=w2.heap[j]?):=⟨fun j hj=>by
   have g1:=HN.out.ge j hj;exact Au _ _ _ _ (by show j≠w.heap.size;omega)⟩
  have q4:AC (Af w.heap.size (w2.setCell ⟨w.heap.size,0,none⟩ .nilIface) F):=⟨HN.out.later zx zw⟩;go_wp2_with fail
  clear e0 se;refine Ru (f:=68) (args:=#[.pointer<|Qb w.heap.size 0]) zw (by simp[go_sem]) ?_;refine(Ycu _ _).mono ?_;rintro e u' w'' ⟨rfl,rfl,hw⟩;rw[<- hw]at q1 q2 q3 q4;obtain⟨x0,sx⟩:=AJ.one (a:= .nilIface) q1.out;clear hw;simp[Leaves,settle,results,results32,go_sem,x0];exact⟨q2.out,Or.inr ⟨_,k,Y.out,rfl,⟨F,AO.stable (EA.stable (ty:=AY) 4) _ _ _ _ _ HQ.out q3.out,q4.out⟩⟩⟩
def Zmq (t:ByteArray)(ht:t.size<1000000000)(Z:Aa a w):
  Calls prog 20 #[.string t] w (mW a w (.slice none 0 0) (Px 162 2 (EA AY 4) w.heap.size)<|Et t<|T9 t):=by
 have Dw:=G6;have C:=AA<|Zzb t ht Z;clear Z;go_in
 go_wp2_with fail
 refine C.out.mono ?_;rintro e w1 ⟨hb1,⟨n,p,L,hy,hn,hL,rfl,hB⟩ | ⟨v,k,hy,rfl,⟨F,hR,hN⟩⟩⟩
 ·go_wp2
  refine CQ (by simp[results,results20,go_sem];try rfl) rfl ?_;exact⟨hb1,Or.inl ⟨n,p,L,hy,hn,hL,rfl,hB⟩⟩
 ·have R:=AA<|AF hb1<|AF hy<|AF hR hN;obtain⟨p1,c1,rfl⟩:=AO.form hR;clear hb1 hy hR hN C;go_wp2
  refine CQ (by simp[results,results20,go_sem];try rfl) rfl ?_;exact⟨R.out.1,Or.inr ⟨_,k,R.out.2.1,rfl,⟨F,R.out.2.2.1,R.out.2.2.2⟩⟩⟩
end Go.P
namespace Go.P
variable {w:World}
def Ye3 {n:Int}(h:VD n): ∃ k:Nat,n=(k:Int)+1/\k<10:=⟨(n-1).toNat,by have:=h.1;omega,by have:=h.2;have:=h.1;omega⟩
def Yat (a:Nat->Addr)(k:Nat):BS a ((k:Int)+1)= .iface 411 (.pointer<|some<|a k):=by
 rw[DC a zx,show((k:Int)+1).toNat-1=k by omega]
def bX (w:World):Calls prog 16 #[.nilIface] w fun e w'=>e= .returned (.tuple #[.int .i64 0,.int .i64 (-1)])/\w'=w:=by
 go_in
 go_wp2
 go_ret2
 exact⟨rfl,rfl⟩
def SL (s:(Option Addr×Nat×Nat)×(Option Addr×Nat×Nat)×Option Addr×Nat×Nat):Array Value:=#[.slice s.1.1 s.1.2.1 s.1.2.2,.slice s.2.1.1 s.2.1.2.1 s.2.1.2.2,.slice s.2.2.1 s.2.2.2.1 s.2.2.2.2]
def Z6r {x:Value}{J:(Option Addr×Nat×Nat)×(Option Addr×Nat×Nat)×Option Addr×Nat×Nat->Value->World->Prop}{K:(Option Addr×Nat×Nat)×(Option Addr×Nat×Nat)×Option Addr×Nat×Nat->Int->World->Prop}
  (CP: ∀ u,Bl w u->w.heap.size<u.heap.size->Calls prog 17 #[x] u fun e w'=> ∃ s er,e= .returned (.tuple #[.agg<|SL s,er])/\J s er w'/\Bl u w')
  (sJ: ∀ s er u v,J s er u->Bl u v->J s er v) (sK: ∀ s m u v,K s m u->Off [w.heap.size] u v->K s m v)
  (CN: ∀ s er u,J s er u->Bl w u->Calls prog 16 #[er] u fun e w'=> ∃ m p,e= .returned (.tuple #[.int .i64 m,.int .i64 p])/\K s m w'/\Bl u w'):
  Calls prog 7 #[x] w fun e w'=> ∃ s m p,e= .returned (.tuple #[.agg<|SL s,.int .i64 m,.int .i64 p])/\K s m w'/\Bl w w':=by
 have C:=AA CP;have SJ:=AA sJ;have SK:=AA sK;have N:=AA CN;clear CP sJ sK CN;go_in
 go_wp2_with fail
 have B0:=(AQ w.heap.size w).alloc lr<|.cells #[.slice none 0 0,.slice none 0 0,.slice none 0 0] 38;have N0:=AJ.new w #[.slice none 0 0,.slice none 0 0,.slice none 0 0] 38;generalize w.alloc (.cells #[.slice none 0 0,.slice none 0 0,.slice none 0 0] 38)=W0 at*;refine(C.out _ B0 N0.lt).mono ?_;rintro e w1 ⟨⟨⟨p,n,c⟩,⟨p1,n1,c1⟩,p2,n2,c2⟩,er,rfl,j,hb⟩;have N1:=N0.of<|hb.block _ N0.lt;have B1:=B0.trans<|hb.mono B0.size;have J1:=AA<|SJ.out _ _ _ _ j<|(AQ _ w1).alloc lr<|.cells #[.slice p n c,.slice p1 n1 c1,.slice p2 n2 c2] 38;have B2:=B1.alloc B1.size<|.cells #[.slice p n c,.slice p1 n1 c1,.slice p2 n2 c2] 38;have N2:=N1.alloc<|.cells #[.slice p n c,.slice p1 n1 c1,.slice p2 n2 c2] 38;have M2:=AJ.new w1 #[.slice p n c,.slice p1 n1 c1,.slice p2 n2 c2] 38;have Ce:=AA B2;have KY:=AA N2;have HM2:=AA M2;clear j hb N1 B1 N0 B0 B2 N2 M2;simp only[SL];go_wp2_with fail
 refine(N.out _ _ _ J1.out Ce.out).mono ?_;rintro e w2 ⟨m,q,rfl,k2,hb2⟩;have N3:=KY.out.of<|hb2.block _ KY.out.lt;have M3:=HM2.out.of<|hb2.block _ HM2.out.lt;have B3:=tr Ce hb2;obtain⟨y0,y1,y2,ys⟩:=N3.three;obtain⟨z0,z1,z2,zs⟩:=M3.three;have K2:=AA k2;clear k2 hb2 N3 M3 J1;go_wp2
 refine CQ (by simp[results,results7,go_sem,y0,y1,y2];try rfl) rfl ?_;refine⟨((p,n,c),(p1,n1,c1),p2,n2,c2),m,q,rfl,SK.out _ _ _ _ K2.out (((Off.refl _ w2).set _ _ _<|.inl zw).set _ _ _ (.inl zw) |>.set _ _ _ (.inl zw)),((B3.out.setCell lr _).setCell lr _).setCell lr _⟩
def pG (w:World) (Y:Prop) (G:Bk->Prop) (s:(Option Addr×Nat×Nat)×(Option Addr×Nat×Nat)×Option Addr×Nat×Nat) (m:Int) (u:World):Prop:=(Y/\m≠0/\s=((none,0,0),(none,0,0),none,0,0))\/(m=0/\ ∃ x F,G x/\Dq AY 4 u (SL s).toList x F/\Af (w.heap.size+1) u F)
def pG.off {u v:World}{Y:Prop}{G:Bk->Prop}{s:(Option Addr×Nat×Nat)×(Option Addr×Nat×Nat)×Option Addr×Nat×Nat}{m:Int}(h:pG w Y G s m u)(ho:Off [w.heap.size] u v):pG w Y G s m v:=by
 rcases h with h | ⟨h1,x,F,h2,h3,h4⟩
 ·exact .inl h
 ·exact .inr ⟨h1,x,F,h2,Dq.stable (ty:=AY) 4 _ _ _ _ _ h3 fun j hj=>ho.block j (h4.lt j hj) (by have:=h4.ge j hj;simp;omega),h4.later lr ho.size⟩
def Ye4 {ty:Q8}{d:Nat}{vs:List Value}{x:Bk}{F:List Nat}(h:Dq ty d w vs x F): ∃ s,vs=(SL s).toList:=by
 obtain⟨p,c,p1,c1,p2,c2,rfl⟩:=Dq.vals h;exact⟨((p,_,c),(p1,_,c1),p2,_,c2),rfl⟩
def vW {a:Nat->Addr}(t:ByteArray)(ht:t.size<1000000000)(Z:Aa a w)(E:OQ a w):Calls prog 7 #[.string t] w fun e w'=> ∃ s m p,e= .returned (.tuple #[.agg<|SL s,.int .i64 m,.int .i64 p])/\pG w (∃ er,Et t (Jj t)= .error er) (fun x=>Et t (Jj t)= .ok x) s m w'/\Bl w w':=by
 refine Z6r (J:=fun s er u=>(∃ n p L,Et t (Jj t)= .error (n,p)/\s=((none,0,0),(none,0,0),none,0,0)/\er= .iface 83 (.pointer<|Qb L 0)/\AJ u L #[.int .i64 (p:Int),BS a n] 87)\/(er= .nilIface/\ ∃ x F,Et t (Jj t)= .ok x/\Dq AY 4 u (SL s).toList x F/\Af (w.heap.size+1) u F)) (fun u hu hl=>(Z6j t ht<|Z.below hu).mono ?_) ?_ (fun _ _ _ _ h ho=>h.off ho) ?_
 ·rintro e w1 ⟨hb,(⟨n,p,L,hY,hn,hL,rfl,hF⟩ | ⟨v,y,hY,rfl,vs,F,rfl,hO,hN⟩)⟩
  ·exact⟨((none,0,0),(none,0,0),none,0,0),_,rfl,.inl ⟨n,p,L,hY,rfl,rfl,hF⟩,hb⟩
  ·obtain⟨s,rfl⟩:=Ye4 hO;exact⟨s,_,rfl,.inr ⟨rfl,y,F,hY,hO,hN.later hl lr⟩,hb⟩
 ·rintro s er u v (⟨n,p,L,hY,hs,he,hF⟩ | ⟨he,x,F,hY,hO,hN⟩) hv
  ·exact .inl ⟨n,p,L,hY,hs,he,hF.of<|hv.block _ hF.lt⟩
  ·exact .inr ⟨he,x,F,hY,Dq.stable (ty:=AY) 4 _ _ _ _ _ hO fun j hj=>hv.block j (hN.lt j hj),hN.later lr hv.size⟩
 ·rintro s er u (⟨n,p,L,hY,rfl,rfl,hF⟩ | ⟨rfl,x,F,hY,hO,hN⟩) hu
  ·obtain⟨k,rfl,hk⟩:=Ye3<|Z6k t _ hY;refine(Znr (Z.below hu) (E.below hu) L 0 k p hk hF.two.1 (by have:=hF.two.2.1;rwa [Yat]at this)).mono ?_;rintro e w' ⟨rfl,hb⟩;exact⟨_,_,rfl,.inl ⟨⟨_,hY⟩,zx,rfl⟩,hb⟩
  ·refine(bX u).mono ?_;rintro e w' ⟨rfl,rfl⟩;exact⟨_,_,rfl,.inr ⟨rfl,x,F,hY,hO,hN⟩,AQ _ _⟩
end Go.P
namespace Go.W
variable {w:World}{F:List Nat}
def PE:D9 Nat:=fun _ vs x F=>F=[]/\vs=[.pointer<|Qb x 0]
def PE.stable:IB PE:=fun _ _ _ _ _ h _=>h
def PE.one {vs:List Value}{x:Nat}(h:PE w vs x F): ∀ u,u∈vs->u.oneCell'=true:=by
 obtain⟨_,rfl⟩:=h;simp[Value.oneCell']
def PE.cells {e:TypeId}{g n c:Nat}{xs:List Nat}(h:AO e 1 PE w (.slice (Qb g 0) n c) xs F)(i x:Nat)(hx:xs[i]?=some x):w.cell? ⟨g,i,none⟩=some (.pointer<|Qb x 0):=by
 obtain⟨g',cap,cs,G,e1,_,⟨_,rfl⟩,hc⟩:=h.nth i x hx;cases e1;simpa using hc 0 _ rfl
end Go.W
namespace Go.P
def Z0g:Jk prog 186 189 1 8:=by
 obtain⟨i0,hi,hz0,hz1,hz2⟩:=info_parts (by kernel_rfl:(prog.info? 189).map (fun i=>(i.zero,i.size,i.bytes))=some (some<|.pointer none,1,8));exact⟨i0,_,underlying186,hi,hz0,hz1,hz2,rfl,zu,zu⟩
attribute [local go_sem] MZ
def Zzu {w:World}{b o c:Nat}{Ja:Int}{fb rb kb fc rc kc:Option Addr}{GZ G4 Fe Gf PY Jb X3 Vn Xz Vl QT Qd:Nat}(k0:w.cell? ⟨b,o,none⟩=some (.slice fb GZ G4))(k1:w.cell? ⟨b,o+1,none⟩=some (.slice rb Fe Gf))(k2:w.cell? ⟨b,o+2,none⟩=some (.slice kb PY Jb))(k3:w.cell? ⟨b,o+3,none⟩=some (.slice fc X3 Vn))(k4:w.cell? ⟨b,o+4,none⟩=some (.slice rc Xz Vl))(k5:w.cell? ⟨b,o+5,none⟩=some (.slice kc QT Qd))
  (hc:2<=c) {J1:Option Addr->Nat->Nat->Option Addr->Nat->Nat->World->Prop} (s1: ∀ pf nf cf pr nr cr u v,J1 pf nf cf pr nr cr u->Bl u v->J1 pf nf cf pr nr cr v)
  (CU1: ∀ u g t,g<w.heap.size+5->t<w.heap.size+5->w.heap.size+5<=u.heap.size->Bl w u->AJ u g #[.string ⟨#[116,105,109,101]⟩,.slice (Qb t 0) 1 1] 95->AJ u t #[.int .i64 5,.int .i64 Ja,.string ⟨#[]⟩,.slice none 0 0] 100->Calls prog 141 #[.agg #[.slice (Qb g 0) 1 1,.slice none 0 0,.slice none 0 0],.agg #[.slice fb GZ G4,.slice rb Fe Gf,.slice kb PY Jb]] u fun e w'=> ∃ pf nf cf pr nr cr,e= .returned (.agg #[.slice pf nf cf,.slice pr nr cr,.slice none 0 0])/\J1 pf nf cf pr nr cr w'/\(∀ k v0 v1 v2,w.heap.size+5<=k->k<u.heap.size->J1 pf nf cf pr nr cr (((w'.setCell ⟨k,0,none⟩ v0).setCell ⟨k,1,none⟩ v1).setCell ⟨k,2,none⟩ v2))/\Bl u w')
  {J2:Option Addr->Nat->Nat->Option Addr->Nat->Nat->Option Addr->Nat->Nat->Option Addr->Nat->Nat->World->Prop} (CU2: ∀ pf nf cf pr nr cr u,J1 pf nf cf pr nr cr u->Calls prog 141 #[.agg #[.slice pf nf cf,.slice pr nr cr,.slice none 0 0],.agg #[.slice fc X3 Vn,.slice rc Xz Vl,.slice kc QT Qd]] u fun e w'=> ∃ Lx OE OK Lu OD OJ,e= .returned (.agg #[.slice Lx OE OK,.slice Lu OD OJ,.slice none 0 0])/\J2 pf nf cf pr nr cr Lx OE OK Lu OD OJ w'/\Bl u w')
  {J3:Option Addr->Nat->Nat->Option Addr->Nat->Nat->Nat->Nat->World->Prop} {J4:Nat->Nat->Nat->Nat->Nat->World->Prop} (s2: ∀ pf nf cf pr nr cr Lx OE OK Lu OD OJ u v,J2 pf nf cf pr nr cr Lx OE OK Lu OD OJ u->Bl u v->J2 pf nf cf pr nr cr Lx OE OK Lu OD OJ v) (s3: ∀ pf nf cf pr nr cr p1 n u v,J3 pf nf cf pr nr cr p1 n u->u.heap.size<=v.heap.size->(∀ k,k<n->v.heap[k]?=u.heap[k]?)->J3 pf nf cf pr nr cr p1 n v) (s4: ∀ p1 p2 n m z u v,J4 p1 p2 n m z u->u.heap.size<=v.heap.size->(∀ k,k<u.heap.size->k<n\/m<=k->v.heap[k]?=u.heap[k]?)->J4 p1 p2 n m z v)
  (CW1: ∀ pf nf cf pr nr cr Lx OE OK Lu OD OJ u,J2 pf nf cf pr nr cr Lx OE OK Lu OD OJ u->Calls prog 142 #[.slice pf nf cf,.slice pr nr cr] u fun e w'=> ∃ p1,e= .returned (.tuple #[.pointer<|Qb p1 0,.bool true])/\J3 Lx OE OK Lu OD OJ p1 w'.heap.size w'/\Bl u w')
  (CW2: ∀ pf nf cf pr nr cr p1 n u,n<=u.heap.size->J3 pf nf cf pr nr cr p1 n u->Calls prog 142 #[.slice pf nf cf,.slice pr nr cr] u fun e w'=> ∃ p2,e= .returned (.tuple #[.pointer<|Qb p2 0,.bool true])/\J4 p1 p2 n u.heap.size w'.heap.size w'/\Bl u w'):
  Calls prog 93 #[.slice (Qb b o) 2 c,.agg #[.int .i64 Ja,.slice none 0 0,.slice none 0 0]] w fun e w'=> ∃ g p1 p2 cw n m z,e= .returned (.tuple #[.slice (Qb g 0) 2 cw,.bool true])/\(w'.cell? ⟨g,0,none⟩=some (.pointer<|Qb p1 0)/\w'.cell? ⟨g,1,none⟩=some (.pointer<|Qb p2 0))/\J4 p1 p2 n m z w'/\n<=m/\m<=z/\(n<=g/\g<m\/z<=g)/\g<w'.heap.size/\Bl w w':=by
 obtain⟨c,rfl⟩: ∃ c2,c=c2+2:=⟨c-2,zx⟩;have H1:=AA CU1;have S1:=AA s1;have lb:=Ll k0;have H2:=AA CU2;have S2:=AA s2;have S3:=AA s3;have S4:=AA s4;have H3:=AA CW1;have H4:=AA CW2;clear CU1 s1 CU2 s2 s3 s4 CW1 CW2;refine Qx func93 rfl ?_;simp only[ntmps93,E9,BO,D7,Nat.reduceAdd,Nat.reduceSub,Ju,Jv,Jr,Jt,FK,Gm];go_wp2_with fail
 obtain⟨W5,hW5⟩: ∃ W5,AC (((((w.alloc<|.cells #[.int .i64 Ja,.slice none 0 0,.slice none 0 0] 54).alloc<|.cells #[.int .i64 5,.int .i64 Ja,.string ⟨#[]⟩,.slice none 0 0] 100).alloc<|.cells #[.string ⟨#[116,105,109,101]⟩,.slice (Qb (w.heap.size+1) 0) 1 1] 95).alloc<|.cells #[.string ⟨#[116,105,109,101]⟩,.slice (Qb (w.heap.size+1) 0) 1 1] 95).alloc (.cells #[.slice (Qb (w.heap.size+1+1+1) 0) 1 1,.slice none 0 0,.slice none 0 0] 38)=W5):=⟨_,⟨rfl⟩⟩;rw[hW5.out];have B5:Bl w W5:=hW5.out▸(((((AQ _ w).alloc lr _).alloc zw _).alloc (by simp;omega) _).alloc (by simp;omega) _).alloc (by simp;omega) _;have Z5:AC (W5.heap.size=w.heap.size+5):=⟨by rw[<- hW5.out];simp⟩;have N1:AJ W5 (w.heap.size+1) #[.int .i64 5,.int .i64 Ja,.string ⟨#[]⟩,.slice none 0 0] 100:=hW5.out▸(((Jd w _ _ _).alloc _).alloc _).alloc _;have N3:AJ W5 (w.heap.size+1+1+1) #[.string ⟨#[116,105,109,101]⟩,.slice (Qb (w.heap.size+1) 0) 1 1] 95:=by
  rw[<- hW5.out];refine AJ.alloc ?_ _
  have:=AJ.new (((w.alloc<|.cells #[.int .i64 Ja,.slice none 0 0,.slice none 0 0] 54).alloc<|.cells #[.int .i64 5,.int .i64 Ja,.string ⟨#[]⟩,.slice none 0 0] 100).alloc<|.cells #[.string ⟨#[116,105,109,101]⟩,.slice (Qb (w.heap.size+1) 0) 1 1] 95) #[.string ⟨#[116,105,109,101]⟩,.slice (Qb (w.heap.size+1) 0) 1 1] 95
  simpa using this
 have N4:AJ W5 (w.heap.size+1+1+1+1) #[.slice (Qb (w.heap.size+1+1+1) 0) 1 1,.slice none 0 0,.slice none 0 0] 38:=by
  rw[<- hW5.out]
  have:=AJ.new ((((w.alloc<|.cells #[.int .i64 Ja,.slice none 0 0,.slice none 0 0] 54).alloc<|.cells #[.int .i64 5,.int .i64 Ja,.string ⟨#[]⟩,.slice none 0 0] 100).alloc<|.cells #[.string ⟨#[116,105,109,101]⟩,.slice (Qb (w.heap.size+1) 0) 1 1] 95).alloc<|.cells #[.string ⟨#[116,105,109,101]⟩,.slice (Qb (w.heap.size+1) 0) 1 1] 95) #[.slice (Qb (w.heap.size+1+1+1) 0) 1 1,.slice none 0 0,.slice none 0 0] 38
  simpa using this
 have HS:AC (∀ u,Bl W5 u->u.cell? ⟨w.heap.size+1+1+1+1,0,none⟩=some (.slice (Qb (w.heap.size+1+1+1) 0) 1 1)/\u.cell? ⟨w.heap.size+1+1+1+1,1,none⟩=some (.slice none 0 0)/\u.cell? ⟨w.heap.size+1+1+1+1,2,none⟩=some (.slice none 0 0)/\u.cell? ⟨b,o,none⟩=some (.slice fb GZ G4)/\u.cell? ⟨b,o+1,none⟩=some (.slice rb Fe Gf)/\u.cell? ⟨b,o+2,none⟩=some (.slice kb PY Jb)):=⟨fun u hu=>by
  have e:=(N4.of<|hu.block _ N4.lt).three;have hb':u.heap[b]?=w.heap[b]?:=(hu.block b (by have:=Z5.out;omega)).trans<|B5.block b lb;exact⟨e.1,e.2.1,e.2.2.1,(Am (a:=⟨b,o,none⟩) hb').trans k0,(Am (a:=⟨b,o+1,none⟩) hb').trans k1,(Am (a:=⟨b,o+2,none⟩) hb').trans k2⟩⟩
 have AV:=HS.out W5.drew (AQ _ W5).drew;clear k0 k1 k2;refine oF (fun a' w'=> ∃ lT pf nf cf pr nr cr,a'={tmps:=#[.slice (Qb b o) 2<|c+2,.agg #[.int .i64 Ja,.slice none 0 0,.slice none 0 0],undef,.pointer<|Qb w.heap.size 0,.slice none 0 0,.bool false,.pointer<|Qb (w.heap.size+1+1) 0,.pointer<|Qb (w.heap.size+1+1+1+1) 0,.pointer<|Qb lT 0,undef,undef,undef,undef,undef,undef,undef,undef,.pointer<|Qb w.heap.size 0,.int .i64 Ja,.agg #[.int .i64 5,.int .i64 Ja,.string ⟨#[]⟩,.slice none 0 0],.slice (Qb (w.heap.size+1) 0) 1 1,.agg #[.string ⟨#[116,105,109,101]⟩,.slice (Qb (w.heap.size+1) 0) 1 1],.agg #[.string ⟨#[116,105,109,101]⟩,.slice (Qb (w.heap.size+1) 0) 1 1],.slice (Qb (w.heap.size+1+1+1) 0) 1 1,.pointer<|Qb w.heap.size 1,.slice none 0 0,.slice (Qb (w.heap.size+1+1+1) 0) 1 1,.agg #[.slice (Qb (w.heap.size+1+1+1) 0) 1 1,.slice none 0 0,.slice none 0 0],.agg #[.slice (Qb (w.heap.size+1+1+1) 0) 1 1,.slice none 0 0,.slice none 0 0],.slice (Qb b o) 2<|c+2,.pointer<|Qb b o,.agg #[.slice fb GZ G4,.slice rb Fe Gf,.slice kb PY Jb],.agg #[.slice pf nf cf,.slice pr nr cr,.slice none 0 0],undef,undef,undef,undef,undef,undef,undef,undef,undef,undef,undef,undef,undef,undef,undef,undef,undef,undef,undef,undef,undef,undef,undef,undef,undef,undef,undef,undef,undef,undef,undef,undef,undef,undef,undef,undef,undef,undef],defers:=[]}/\J1 pf nf cf pr nr cr w'/\Bl W5 w'/\AJ w' lT #[.slice pf nf cf,.slice pr nr cr,.slice none 0 0] 38/\W5.heap.size<=lT) ?_ ?_;refine Nv 6 (fun u=>u.cell? ⟨w.heap.size+1+1+1+1,0,none⟩=some (.slice (Qb (w.heap.size+1+1+1) 0) 1 1)/\u.cell? ⟨w.heap.size+1+1+1+1,1,none⟩=some (.slice none 0 0)/\u.cell? ⟨w.heap.size+1+1+1+1,2,none⟩=some (.slice none 0 0)/\u.cell? ⟨b,o,none⟩=some (.slice fb GZ G4)/\u.cell? ⟨b,o+1,none⟩=some (.slice rb Fe Gf)/\u.cell? ⟨b,o+2,none⟩=some (.slice kb PY Jb)) zt ?_;refine tz 0 (.agg #[.slice (Qb (w.heap.size+1+1+1) 0) 1 1,.slice none 0 0,.slice none 0 0]) AV (hy:=fun _ ⟨s0,s1,s2,s3,s4,s5⟩=>by go_simp) ?_;try simp only[zz]
 refine tz 1 (.slice (Qb b o) 2<|c+2) AV ?_;try simp only[zz]
 refine tz 2 (.pointer<|Qb b o) AV ?_;try simp only[zz]
 refine tz 3 (.agg #[.slice fb GZ G4,.slice rb Fe Gf,.slice kb PY Jb]) AV (hy:=fun _ ⟨s0,s1,s2,s3,s4,s5⟩=>by go_simp) ?_;try simp only[zz]
 refine pO 4 5 (h:=fun K' hK'=>?_) (h':=fun K' hK'=>?_)
 ·go_simp;refine(H1.out W5.drew (w.heap.size+1+1+1) (w.heap.size+1) zx zx (Nat.le_of_eq Z5.out.symm) B5.drew (N3.of rfl)<|N1.of rfl).mono ?_;rintro e w6 ⟨pf,nf,cf,pr,nr,cr,rfl,j1,_,Gs⟩;have B6:Bl W5 w6:=(AQ _ W5).drew.trans Gs;refine hK'.out _ _ (HS.out _ B6) ?_;try simp only[zz]
  refine rz 5 (h:=fun K' hK'=>?_);go_simp;refine hK'.out _ _ (HS.out _<|B6.alloc B6.size _) ?_;try simp only[zz]
  refine J6 (h:=fun K' hK'=>?_);go_simp;refine hK'.out _ _ ?_;try simp only[zz]
  refine dz (h:=?_);exact⟨w6.heap.size,pf,nf,cf,pr,nr,cr,rfl,S1.out _ _ _ _ _ _ _ _ j1<|(AQ _ w6).alloc lr _,B6.alloc B6.size _,AJ.new w6 _ _,B6.size⟩
 ·go_simp;refine hK'.out _ _ (HS.out _<|(AQ _ W5).drew.alloc lr _) ?_;try simp only[zz]
  refine rz 4 (h:=fun K' hK'=>?_);go_simp;obtain⟨W6,hW6⟩: ∃ W6,AC ((W5.alloc<|.cells #[.slice none 0 0,.slice none 0 0,.slice none 0 0] 38).drew=W6):=⟨_,⟨rfl⟩⟩;rw[hW6.out];have B6:Bl W5 W6:=hW6.out▸((AQ _ W5).alloc lr _).drew;have N6:AJ W6 W5.heap.size #[.slice none 0 0,.slice none 0 0,.slice none 0 0] 38:=hW6.out▸(AJ.new W5 _ _).of rfl;refine(H1.out W6 (w.heap.size+1+1+1) (w.heap.size+1) zx zx (by have:=B6.size;have:=Z5.out;omega) (B5.trans<|B6.mono B5.size) (N3.of<|B6.block _ N3.lt)<|N1.of<|B6.block _ N1.lt).mono ?_;rintro e w7 ⟨pf,nf,cf,pr,nr,cr,rfl,_,t1,Eu⟩;have B7:Bl W5 w7:=B6.trans<|Eu.mono B6.size;have N7:=N6.of<|Eu.block _ N6.lt;obtain⟨y0,y1,y2,ys⟩:=N7.three;refine hK'.out _ _ (HS.out _ B7) ?_;try simp only[zz]
  refine J6 (h:=fun K' hK'=>?_);go_simp;refine hK'.out _ _ ?_;try simp only[zz]
  refine dz (h:=?_);have N9:=((N7.set 0<|.slice pf nf cf).set 1<|.slice pr nr cr).set 2<|.slice none 0 0;exact⟨W5.heap.size,pf,nf,cf,pr,nr,cr,rfl,t1 _ _ _ _ (by have:=Z5.out;omega) N6.lt,Ri _ (Ri _ (Ri _ B7 lr 0 _) lr 1 _) lr 2 _,by simpa using N9,JB _⟩
 rintro a' w7 ⟨lT,pf,nf,cf,pr,nr,cr,rfl,j1,B7,hF,lf⟩;dsimp only;have HJ1:=AA j1;have dJ:=AA B7;have HF:=AA hF;have Eu:w7.heap[b]?=w.heap[b]?:=(B7.block b (by have:=Z5.out;omega)).trans<|B5.block b lb;have m3:=(Am (a:=⟨b,o+3,none⟩) Eu).trans k3;have m4:=(Am (a:=⟨b,o+4,none⟩) Eu).trans k4;have m5:=(Am (a:=⟨b,o+5,none⟩) Eu).trans k5;have m3':=fun ob=>(Am (a:=⟨b,o+3,none⟩)<|(Ah w7 ob b (by have:=Ll m3;exact this)).trans Eu).trans k3;have m4':=fun ob=>(Am (a:=⟨b,o+4,none⟩)<|(Ah w7 ob b (by have:=Ll m3;exact this)).trans Eu).trans k4;have m5':=fun ob=>(Am (a:=⟨b,o+5,none⟩)<|(Ah w7 ob b (by have:=Ll m3;exact this)).trans Eu).trans k5;obtain⟨f0,f1,f2,fs⟩:=hF.three;have sS:=fun ob dU=>((hF.alloc ob).alloc dU).three.1;have sQ:=fun ob dU=>((hF.alloc ob).alloc dU).three.2.1;have sP:=fun ob dU=>((hF.alloc ob).alloc dU).three.2.2.1;have f0':=fun ob=>(hF.alloc ob).three.1;have f1':=fun ob=>(hF.alloc ob).three.2.1;have f2':=fun ob=>(hF.alloc ob).three.2.2.1;clear j1 B7 hF Eu k3 k4 k5 N1 N3 N4 AV;go_wp2
 refine Dt 2 ?_;rw[A8];go_wp2_with fail
 refine(H2.out _ _ _ _ _ _ _<|S1.out _ _ _ _ _ _ _ _ HJ1.out<|((AQ _ w7).alloc lr _).alloc zw _).mono ?_;rintro e w8 ⟨Lx,OE,OK,Lu,OD,OJ,rfl,j2,Gq⟩;have HB8:=AA Gq;have dD:=AA j2;have SD:=AA ((AJ.new w7 #[.slice pf nf cf,.slice pr nr cr,.slice none 0 0] 38).alloc (.cells #[.slice fc X3 Vn,.slice rc Xz Vl,.slice kc QT Qd] 38) |>.of (Gq.block _ (by simp;omega)));have d0:=fun ob=>(SD.out.alloc ob).three.1;have d1:=fun ob=>(SD.out.alloc ob).three.2.1;have d2:=fun ob=>(SD.out.alloc ob).three.2.2.1;clear Gq j2 f0 f1 f2 fs f0' f1' f2' sS sQ sP m3 m4 m5 m3' m4' m5';go_wp2_with fail
 rw[A8];go_wp2_with fail
 generalize (Question.appendCap 2 1 38).cut (w8.tape w8.drawn<|Question.appendCap 2 1 38)=cap;clear d0 d1 d2;obtain⟨W9,hW9⟩: ∃ W9,AC (((w8.alloc<|.cells #[.slice Lx OE OK,.slice Lu OD OJ,.slice none 0 0] 38).alloc<|.cells (#[.slice pf nf cf,.slice pr nr cr,.slice none 0 0]++(#[.slice Lx OE OK,.slice Lu OD OJ,.slice none 0 0]++Builtin.zeroCells #[.slice none 0 0,.slice none 0 0,.slice none 0 0] (cap-2))) 38).drew=W9):=⟨_,⟨rfl⟩⟩;rw[hW9.out];have B9:Bl w8 W9:=hW9.out▸(((AQ _ w8).alloc lr _).alloc zw _).drew;have N9:AJ W9 (w8.heap.size+1) (#[.slice pf nf cf,.slice pr nr cr,.slice none 0 0]++(#[.slice Lx OE OK,.slice Lu OD OJ,.slice none 0 0]++Builtin.zeroCells #[.slice none 0 0,.slice none 0 0,.slice none 0 0] (cap-2))) 38:=hW9.out▸(Jd w8 _ _ _).of rfl;have HN:AC (∀ u:World,u.heap[w8.heap.size+1]?=W9.heap[w8.heap.size+1]?->u.cell? ⟨w8.heap.size+1,0,none⟩=some (.slice pf nf cf)/\u.cell? ⟨w8.heap.size+1,1,none⟩=some (.slice pr nr cr)/\u.cell? ⟨w8.heap.size+1,2,none⟩=some (.slice none 0 0)/\u.cell? ⟨w8.heap.size+1,3,none⟩=some (.slice Lx OE OK)/\u.cell? ⟨w8.heap.size+1,4,none⟩=some (.slice Lu OD OJ)/\u.cell? ⟨w8.heap.size+1,5,none⟩=some (.slice none 0 0)):=⟨fun u hu=>by
  have e:=N9.of hu;refine⟨(e.cell 0).trans ?_,(e.cell 1).trans ?_,(e.cell 2).trans ?_,(e.cell 3).trans ?_,(e.cell 4).trans ?_,(e.cell 5).trans ?_⟩
  ·rw[Ry zw];rfl
  ·rw[Ry zw];rfl
  ·rw[Ry zw];rfl
  ·rw[Array.getElem?_append_right zw,Ry zw];rfl
  ·rw[Array.getElem?_append_right zw,Ry zw];rfl
  ·rw[Array.getElem?_append_right zw,Ry zw];rfl⟩
 have xW:=AA<|S2.out _ _ _ _ _ _ _ _ _ _ _ _ _ _ dD.out B9;have lN:=N9.lt;obtain⟨x0,x1,x2,x3,x4,x5⟩:=HN.out W9 rfl;have dI:=AA B9;clear hW9 B9 N9;generalize w8.heap.size+1=kb9 at*;refine Dt 3 ?_;rw[A8];go_wp2_with fail
 refine(H3.out _ _ _ _ _ _ _ _ _ _ _ _ _<|S2.out _ _ _ _ _ _ _ _ _ _ _ _ _ _ xW.out<|(AQ _ W9).alloc lr _).mono ?_;rintro e wA ⟨p1,rfl,j3,ky⟩;have lA:W9.heap.size+1<=wA.heap.size:=by have:=ky.size;simpa using this
 have kA:wA.heap[kb9]?=W9.heap[kb9]?:=(ky.block kb9 (by simp;omega)).trans<|Ah _ _ _ lN;have xx:=AA j3;have HA:=AA ky;have KA:=AA kA;clear x0 x1 x2 x3 x4 x5 j3 ky kA;go_wp2_with (at_builtin;go_must (refine MW Z0g rfl (.tmp 65) (.tmp 67) rfl PE.stable (fun _ _ _ _ h=>PE.one h) wA.heap.size (.slice none 0 0) [] [] rfl AO.nil wA.heap.size #[.pointer<|Qb p1 0] 189 (0,0) p1 [] rfl (IC _ _) rfl ⟨rfl,rfl⟩ zw zw (Af.nil _ _) (Af.nil _ _) (fun _ h=>by cases h) ?_);intro g1 Qe wB F1 Ws;have Ls:=AA Ws)
 clear Ws;have zB:wA.heap.size+1<=wB.heap.size:=by have:=Ls.out.size;simpa using this
 have sB: ∀ k,k<wA.heap.size->wB.heap[k]?=wA.heap[k]?:=fun k hk=>(Ls.out.same k (by simp;omega) zw).trans (Ah _ _ _ hk);have HB:AC (Bl wA wB):=⟨⟨Ls.out.os,Ls.out.tape,Ls.out.output,zx,sB⟩⟩;obtain⟨_,_,_,x3,x4,x5⟩:=HN.out wB<|(sB kb9 zx).trans KA.out;have xV:=AA fun v (h1:wA.heap.size<=v.heap.size) (h2: ∀ k,k<wA.heap.size->v.heap[k]?=wA.heap[k]?)=>S3.out _ _ _ _ _ _ _ _ _ v xx.out h1 h2;have SB:=AA sB;clear sB;rw[A8];go_wp2_with fail
 refine(H4.out _ _ _ _ _ _ _ wA.heap.size _ (by simp;omega) (xV.out _ (by simp;omega) fun k hk=>(Ah _ _ _ zx).trans (SB.out k hk))).mono ?_;rintro e wC ⟨p2,rfl,j4,kw⟩;have zC:wB.heap.size+1<=wC.heap.size:=by have:=kw.size;simpa using this
 have sC: ∀ k,k<wB.heap.size->wC.heap[k]?=wB.heap[k]?:=fun k hk=>(kw.block k (by simp;omega)).trans (Ah _ _ _ hk);have R1:AC (AO 189 1 PE wC (.slice (Qb g1 0) 1 Qe) [p1] F1):=⟨AO.stable PE.stable _ _ _ _ _ Ls.out.row fun j hj=>sC j (Ls.out.new.lt j hj)⟩;have NN:AC (Af wA.heap.size wC F1):=⟨Ls.out.new.later lr zx⟩;have jk:=AA j4;have HC:=AA kw;have SC:=AA sC;clear j4 kw sC x3 x4 x5;go_wp2_with (at_builtin;go_must (refine MW Z0g rfl (.tmp 65) (.tmp 67) rfl PE.stable (fun _ _ _ _ h=>PE.one h) wA.heap.size (.slice (Qb g1 0) 1 Qe) [p1] F1 rfl (AO.stable PE.stable _ _ _ _ _ R1.out fun j hj=>Ah _ _ _ (NN.out.lt j hj)) wC.heap.size #[.pointer<|Qb p2 0] 189 (0,0) p2 [] rfl (IC _ _) rfl ⟨rfl,rfl⟩ zw (by simp;omega) (NN.out.later lr zw) (Af.nil _ _) (fun _ _ h=>by cases h) ?_);intro g2 sj wD F2 Wq;have Jy:=AA Wq)
 clear Wq;rw[A8];go_wp2
 go_ret2
 have zD:wC.heap.size+1<=wD.heap.size:=by have:=Jy.out.size;simpa using this
 have b7:Bl w w7:=B5.trans<|dJ.out.mono B5.size;have b8:Bl w w8:=((b7.alloc b7.size _).alloc (by have:=b7.size;simp;omega) _).trans<|HB8.out.mono (by have:=b7.size;simp;omega);have b9:Bl w W9:=b8.trans<|dI.out.mono b8.size;have bA:Bl w wA:=(b9.alloc b9.size _).trans<|HA.out.mono (by have:=b9.size;simp;omega);have bB:Bl w wB:=bA.trans<|HB.out.mono bA.size;have bC:Bl w wC:=(bB.alloc bB.size _).trans<|HC.out.mono (by have:=bB.size;simp;omega);have lo: ∀ k,k∈F1->wA.heap.size<=k/\k<wB.heap.size:=fun k hk=>⟨NN.out.ge k hk,Ls.out.new.lt k hk⟩;have sD: ∀ k,k<wC.heap.size->k∉F1->wD.heap[k]?=wC.heap[k]?:=fun k hk hn=>(Jy.out.same k (by simp;omega) hn).trans (Ah _ _ _ hk);have zA:=bA.size;have hg2:=Jy.out.row.own;refine⟨g2,p1,p2,sj,_,_,_,rfl,⟨PE.cells Jy.out.row 0 p1 rfl,PE.cells Jy.out.row 1 p2 rfl⟩,S4.out _ _ _ _ _ wC wD jk.out zx (fun k hk h=>sD k hk fun hF=>?_),by simp;omega,by simp;omega,?_,Jy.out.new.lt _ hg2,⟨Jy.out.os.trans bC.os,Jy.out.tape.trans bC.tape,Jy.out.output.trans bC.output,by have:=bC.size;omega,fun k hk=>?_⟩⟩
 ·have:=lo k hF
  simp at h;omega
 ·rcases Jy.out.sub g2 hg2 with h | h | h
  ·have:=lo g2 h
   exact .inl ⟨this.1,by simp;omega⟩
  ·cases h
  ·exact .inr (by simp at h;omega)
 ·exact(sD k zx fun hF=>by have:=lo k hF;omega).trans<|bC.block k hk
end Go.P
namespace Go.P
attribute [local go_sem] MZ
def Z8m {w:World}{p b o c n n3:Nat}{hn:ByteArray}{pt pb pg:Option Addr}{nt ct nb cb ng cg:Nat}{J0:Nat->World->Prop}{J1 J2 J3 J4 J5:Nat->Nat->World->Prop}
  (r0:w.cell? ⟨b,o,none⟩=some (.string hn)) (r1:w.cell? ⟨b,o+1,none⟩=some (.slice pt nt ct)) (r2:w.cell? ⟨b,o+2,none⟩=some (.slice pb nb cb)) (r3:w.cell? ⟨b,o+3,none⟩=some (.slice pg ng cg)) (Su:((n3:Int)==(n:Int))=false)
  (CB: ∀ u,Bl w u->Calls prog 226 #[.pointer<|Qb p 0,.agg #[.string hn,.slice pt nt ct,.slice pb nb cb,.slice pg ng cg]] u fun e w'=> ∃ q,e= .returned (.pointer<|Qb q 0)/\J0 q w')
  (h01: ∀ q u v k,J0 q u->Bl u v->u.heap.size<=k->k<v.heap.size->J1 q k v)
  (h1: ∀ q k u,J1 q k u-> ∃ g c,u.cell? ⟨p,0,none⟩=some (.slice g n c)) (h3: ∀ q k u,J3 q k u-> ∃ g c,u.cell? ⟨p,0,none⟩=some (.slice g n3 c)) (h5: ∀ q k u,J5 q k u-> ∃ g c,u.cell? ⟨p,0,none⟩=some (.slice g n3 c))
  (CL1: ∀ q k u,J1 q k u->Calls prog 227 #[.pointer<|Qb q 0,.int .i64 0,.int .i64 (n:Int)] u fun e w'=>e= .returned (.tuple #[])/\J2 q k w'/\w'.heap[k]?=u.heap[k]?)
  (CF1: ∀ q k u,J2 q k u->Calls prog 228 #[.pointer<|Qb q 0,.int .i64 0] u fun e w'=>e= .returned (.bool true)/\J3 q k w'/\w'.heap[k]?=u.heap[k]?)
  (CL2: ∀ q k u,J3 q k u->Calls prog 227 #[.pointer<|Qb q 0,.int .i64 (n:Int),.int .i64 (n3:Int)] u fun e w'=>e= .returned (.tuple #[])/\J4 q k w'/\w'.heap[k]?=u.heap[k]?)
  (CF2: ∀ q k u,J4 q k u->Calls prog 228 #[.pointer<|Qb q 0,.int .i64 (n:Int)] u fun e w'=>e= .returned (.bool true)/\J5 q k w'/\w'.heap[k]?=u.heap[k]?):
  Calls prog 193 #[.pointer<|Qb p 0,.slice (Qb b o) 1 c] w fun e w'=>e= .returned (.bool true)/\ ∃ q k,J5 q k w':=by
 have HB:=AA CB;have HL1:=AA CL1;have HF1:=AA CF1;have Xo:=AA CL2;have HF2:=AA CF2;have H01:=AA h01;have H1:=AA h1;have H3:=AA h3;have H5:=AA h5;clear CB CL1 CF1 CL2 CF2 h01 h1 h3 h5;refine Qx func193 rfl ?_;simp only[ntmps193,E9,BO,D7,Nat.reduceAdd,Nat.reduceSub,Ju,Jv,Jr,Jt,FK,Gm];go_wp2
 refine Dt 2 ?_;rw[A8];go_wp2_with fail
 refine(HB.out _<|(AQ _ w).alloc lr _).mono ?_;rintro e w1 ⟨q,rfl,j0⟩;have HJ0:=AA j0;clear j0;go_wp2_with fail
 rw[A8];go_wp2_with fail
 generalize (Question.appendCap 1 0 329).cut (w1.tape w1.drawn<|Question.appendCap 1 0 329)=cap;obtain⟨W1,hW1⟩: ∃ W1,AC (((w1.alloc<|.cells #[.pointer<|Qb q 0] 329).alloc<|.cells (#[.pointer<|Qb q 0]++Builtin.zeroCells #[.pointer none] (cap-1)) 329).drew=W1):=⟨_,⟨rfl⟩⟩;rw[hW1.out];have B1:Bl w1 W1:=hW1.out▸(((AQ _ w1).alloc lr _).alloc zw _).drew;have kb:AJ W1 (w1.heap.size+1) (#[.pointer<|Qb q 0]++Builtin.zeroCells #[.pointer none] (cap-1)) 329:=hW1.out▸(Jd w1 _ _ _).of rfl;have kc: ∀ u:World,u.heap[w1.heap.size+1]?=W1.heap[w1.heap.size+1]?->u.cell? ⟨w1.heap.size+1,0,none⟩=some (.pointer<|Qb q 0):=fun u hu=>((kb.of hu).cell 0).trans (by rw[Ry zw];rfl);have HK:=AA kc;have k0:=kc W1 rfl;have j1:=H01.out q w1 W1 (w1.heap.size+1) HJ0.out B1 zx kb.lt;obtain⟨g,c',p0⟩:=H1.out _ _ _ j1;have xX:=AA j1;clear j1 kc B1;generalize w1.heap.size+1=k at*;refine Dt 2 ?_;rw[A8];go_wp2
 refine Dt 2 ?_;rw[A8];go_wp2_with fail
 refine(HL1.out q k W1 xX.out).mono ?_;rintro e w2 ⟨rfl,j2,e2⟩;have xW:=AA j2;have E2:=AA e2;clear j2 e2 p0 k0;go_wp2_with fail
 refine(HF1.out q k w2 xW.out).mono ?_;rintro e w3 ⟨rfl,j3,e3⟩;have k0:=HK.out w3<|e3.trans E2.out;have E3:=AA<|e3.trans E2.out;obtain⟨g3,c3,p0⟩:=H3.out _ _ _ j3;have xV:=AA j3;clear j3 e3 E2;go_wp2_with fail
 rw[A8];go_wp2_with fail
 rw[A8];go_wp2
 refine Dt 2 ?_;rw[A8];go_wp2_with fail
 refine(Xo.out q k w3 xV.out).mono ?_;rintro e w4 ⟨rfl,j4,e4⟩;have J4':=AA j4;have E4:=AA<|e4.trans E3.out;clear j4 e4 p0 k0 E3;go_wp2_with fail
 refine(HF2.out q k w4 J4'.out).mono ?_;rintro e w5 ⟨rfl,j5,e5⟩;have k0:=HK.out w5<|e5.trans E4.out;obtain⟨g5,c5,p0⟩:=H5.out _ _ _ j5;have J5':=AA j5;clear j5 e5 E4;go_wp2_with fail
 rw[A8];go_wp2
 go_ret
 exact⟨rfl,q,k,J5'.out⟩
end Go.P
