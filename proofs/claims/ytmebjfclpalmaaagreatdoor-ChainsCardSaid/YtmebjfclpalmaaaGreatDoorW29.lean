import Derived.Test.YtmebjfclpalmaaaGreatDoorW18
import Derived.Test.YtmebjfclpalmaaaGreatDoorW21
import Derived.Test.YtmebjfclpalmaaaGreatDoorW28
import Derived.Maps.RangeRun
set_option maxRecDepth 100000
set_option maxHeartbeats 8000000
set_option linter.unusedSimpArgs false
open Go.Proofs Go.RowKit Go.W Tryz
namespace Go.W
variable {t:ByteArray}{e:Int×Nat}{u:Unit}{x:Tk}{p:Nat}
theorem Zrh {α:Type}{f:Tk->Nat->Re α}(h:8000 < t.size):Zcn t f= .error (4,8000):=by unfold Zcn;rw[if_pos h]
theorem Zri {α:Type}{f:Tk->Nat->Re α}(h: ¬ 8000 < t.size)(hr:Zh3 t 0= .error e):Zcn t f= .error e:=by unfold Zcn;rw[if_neg h,Zai hr]
theorem Zo7 {α:Type}{f:Tk->Nat->Re α}(h: ¬ 8000 < t.size)(hr:Zh3 t 0= .ok (u,x,p))(hf:f x p= .error e):Zcn t f= .error e:=by unfold Zcn;rw[if_neg h,Zas hr,hf]
theorem Zzh {α:Type}{f:Tk->Nat->Re α}(h: ¬ 8000 < t.size)(hr:Zh3 t 0= .ok (u,x,p)){y:α}{x2:Tk}{p2:Nat}(hf:f x p= .ok (y,x2,p2)):Zcn t f= .ok y:=by unfold Zcn;rw[if_neg h,Zas hr,hf]
end Go.W
namespace Go.P
variable {a:Nat->Addr}{w:World}
theorem Zl4 (v:Value)(w:World):(Instr.typeAssert (.iface 97 v) 20 97 true).run prog w= .ok (.tuple #[v,.bool true]) w:=by kernel_rfl
theorem Zuv (b L:Nat)(x:Value)(w:World)(hc:w.cell? ⟨b,0,none⟩=some x)(hf:w.frozen? ⟨b,0,none⟩=false):CallsD prog 77 #[.pointer (some ⟨b,0,none⟩)] (.panicking [{v:= .iface 97 (.pointer (some ⟨L,0,none⟩)),recovered:=false}]) w fun e u' w'=>
  e= .returned (.tuple #[])/\u'= .panicking [{v:= .iface 97 (.pointer (some ⟨L,0,none⟩)),recovered:=true}]/\w'=w.setCell ⟨b,0,none⟩ (.iface 97 (.pointer (some ⟨L,0,none⟩))):=by
 have hbl:=Zbi hc;refine callsD_of_wpS func77 rfl fun c₀ cs hu=>?_;apply wpS_seq
 apply wpS_region
 simp[wpOpsS,go_sem,recoverD,hu,ntmps77,Exit.thenS,Array.replicate,List.replicate];refine wpS_of_wp ?_;have ta:=Zl4;go_wp2_with fail
 simp[bodyPostS,results,results77]
theorem Z9u (b:Nat)(w:World):CallsD prog 77 #[.pointer (some ⟨b,0,none⟩)] .returning w fun e u' w'=>e= .returned (.tuple #[])/\u'= .returning/\w'=w:=by
 refine callsD_of_wpS func77 rfl fun c₀ cs hu=>?_;apply wpS_seq
 apply wpS_region
 simp[wpOpsS,go_sem,recoverD,hu,ntmps77,Exit.thenS,Array.replicate,List.replicate];refine wpS_of_wp ?_;go_wp2_with fail
 cases c₀;simp_all [bodyPostS,results,results77]
def Zke {α:Type} (a:Nat->Addr) (w:World) (zero:Value) (V:World->Value->α->Prop) (Y:Except (Int×Nat) α) (e:Ending) (w':World):Prop:=
 Below w.heap.size w w'/\((∃ n p L,Y= .error (n,p)/\n≠0/\w.heap.size<=L/\e= .returned (.tuple #[zero,.iface 97 (.pointer (some ⟨L,0,none⟩))])/\Blk w' L #[.int .i64 (p:Int),Zcm a n] 101)\/ ∃ v y,Y= .ok y/\e= .returned (.tuple #[v,.nilIface])/\V w' v y)
theorem Zr4:Zaq 50:=Zam func50 (by kernel_rfl) rfl
theorem Zw3 (t:ByteArray)(ht:t.size < 1000000000)(Z:Zao a w):
  Calls prog 49 #[.string t,.func (.func 50) #[] #[]] w (Zke a w (.agg #[.slice none 0 0,.slice none 0 0,.slice none 0 0]) (Zlh (Zbj Zad 4) w.heap.size) (Zcn t (Ze7 t))):=by
 have hmf:=Zgm;have hg:=Z.size;have hen': ∀ args w,(callFunc 50 args).run prog w= .ok (.enter 50 args) w:=Zr4;by_cases hlong:8000 < t.size
 ·have Y:=Zaa (Zrh (f:=Ze7 t) hlong);have g1:decide (8000 < (t.size:Int))=true:=by simp;omega
  have z4:=fun o o'=>Zab (Zab Z.c4 ((Ydb _ w).alloc lr o)) ((Ydb _ _).alloc lr o');simp only[Zaf a (show(4:Int)≠0 by decide)]at z4;clear Z;go_enter_defers func49,ntmps49
  go_wp2
  go_region
  all_goals go_wp2_with fail
  have q0:=Zaa (((Ydb w.heap.size w).alloc lr (.cells #[.slice none 0 0,.slice none 0 0,.slice none 0 0] 45)).alloc (by simp) (.cells #[.iface 97 (.pointer (some ⟨w.heap.size+1+1,0,none⟩))] 62));have q1:=Zaa ((q0.out.alloc (by simp;omega) (.cells #[.int .i64 8000,.iface 403 (.pointer (some (a 3)))] 101)).drew);have q2:=Zaa (Blk.new ((w.alloc (.cells #[.slice none 0 0,.slice none 0 0,.slice none 0 0] 45)).alloc (.cells #[.iface 97 (.pointer (some ⟨w.heap.size+1+1,0,none⟩))] 62)) #[.int .i64 8000,.iface 403 (.pointer (some (a 3)))] 101);simp only[Ydm]at q2;simp[bodyPostD,Leaves,results,results49,go_sem];exact⟨q1.out,Or.inl ⟨4,8000,w.heap.size+1+1,Y.out,by decide,by omega,rfl,q2.out⟩⟩
 ·have g1:decide (8000 < (t.size:Int))=false:=by simp;omega
  have B0:=Zaa ((((Ydb w.heap.size w).alloc lr (.cells #[.slice none 0 0,.slice none 0 0,.slice none 0 0] 45)).alloc (by simp) (.cells #[.nilIface] 62)).alloc (by simp;omega) (.cells #[.string t,.int .i64 0,.int .i64 0,.string ⟨#[]⟩,.int .i64 0,.int .i64 0,.string ⟨#[]⟩,.slice none 0 0] 181));have LR:=Zaa (((Blk.new w #[.slice none 0 0,.slice none 0 0,.slice none 0 0] 45).alloc (.cells #[.nilIface] 62)).alloc (.cells #[.string t,.int .i64 0,.int .i64 0,.string ⟨#[]⟩,.int .i64 0,.int .i64 0,.string ⟨#[]⟩,.slice none 0 0] 181));have LE:=Zaa ((Blk.new (w.alloc (.cells #[.slice none 0 0,.slice none 0 0,.slice none 0 0] 45)) #[.nilIface] 62).alloc (.cells #[.string t,.int .i64 0,.int .i64 0,.string ⟨#[]⟩,.int .i64 0,.int .i64 0,.string ⟨#[]⟩,.slice none 0 0] 181));have LD:=Zaa (Blk.new ((w.alloc (.cells #[.slice none 0 0,.slice none 0 0,.slice none 0 0] 45)).alloc (.cells #[.nilIface] 62)) #[.string t,.int .i64 0,.int .i64 0,.string ⟨#[]⟩,.int .i64 0,.int .i64 0,.string ⟨#[]⟩,.slice none 0 0] 181);simp only[Ydm]at LE LD;have RD0:Rd (((w.alloc (.cells #[.slice none 0 0,.slice none 0 0,.slice none 0 0] 45)).alloc (.cells #[.nilIface] 62)).alloc (.cells #[.string t,.int .i64 0,.int .i64 0,.string ⟨#[]⟩,.int .i64 0,.int .i64 0,.string ⟨#[]⟩,.slice none 0 0] 181)) (w.heap.size+1+1) t 0 (Zga 0):=⟨LD.out,by omega,by omega,by omega⟩;have C:=Zaa (Zsl (Z.below B0.out) RD0);have ZZ:=Zaa Z;clear Z LD RD0;go_enter_defers func49,ntmps49
  go_wp2_with fail
  refine C.out.mono ?_;rintro e w1 ⟨hk1,⟨n,r,hy,hn,L,hL,rfl,hB⟩ | ⟨v,u,x1,r1,hy,rfl,hv,hr1⟩⟩
  ·have LR1:=LR.out.of (hk1.block w.heap.size (by simp;omega) (by omega));have LE1:=LE.out.of (hk1.block (w.heap.size+1) (by simp) (by omega));have B1:=Zaa (B0.out.trans (hk1.below (B:=w.heap.size) (by omega) (by simp;omega)));obtain⟨y0,sy⟩:=LE1.one;simp at hL;have q0:=Zaa (LR1.away (w.heap.size+1) 0 (by omega) (.iface 97 (.pointer (some ⟨L,0,none⟩))));have q1:=Zaa (LE1.set 0 (.iface 97 (.pointer (some ⟨L,0,none⟩))));have q2:=Zaa (B1.out.setCell (p:=⟨w.heap.size+1,0,none⟩) (by show w.heap.size<=w.heap.size+1;omega) (.iface 97 (.pointer (some ⟨L,0,none⟩))));have q3:=Zaa (hB.away (w.heap.size+1) 0 (by omega) (.iface 97 (.pointer (some ⟨L,0,none⟩))));refine Yfo (f:=77) (args:=#[.pointer (some ⟨w.heap.size+1,0,none⟩)]) (by simp) (by simp[go_sem]) ?_;refine(Zuv _ _ _ w1 y0 (sy 0)).mono ?_;rintro e u' w'' ⟨rfl,rfl,hw⟩;rw[<- hw]at q0 q1 q2 q3;obtain⟨z0,z1,z2,sz⟩:=q0.out.three;obtain⟨x0,sx⟩:=Blk.one (a:= .iface 97 (.pointer (some ⟨L,0,none⟩))) q1.out;clear hw;simp[Leaves,settle,results,results49,go_sem,z0,z1,z2,x0];exact⟨q2.out,Or.inl ⟨n,r,L,Zri hlong hy,hn,by omega,rfl,q3.out⟩⟩
  obtain rfl:v= .tuple #[]:=hv;have hx1:=Zsk (by omega) hy;have Z1:=(ZZ.out.below B0.out).keeps hk1 (by omega);have LR1:=Zaa (LR.out.of (hk1.block w.heap.size (by simp;omega) (by omega)));have LE1:=Zaa (LE.out.of (hk1.block (w.heap.size+1) (by simp) (by omega)));have B1:=Zaa (B0.out.trans (hk1.below (B:=w.heap.size) (by omega) (by simp;omega)));have hs1:=hk1.size;simp at hs1;have CB:=Zaa (Z02 Z1 hr1 hx1);have HY:=Zaa hy;clear hk1 hy hr1 C LR LE Z1;go_wp2_with fail
  refine CB.out.mono ?_;rintro e w2 ⟨hk2,⟨n,r,hy,hn,L,hL,rfl,hB⟩ | ⟨v,k,x2,r2,hy,rfl,⟨vs,F,rfl,hQ,hN⟩,hr2⟩⟩
  ·have LR2:=LR1.out.of (hk2.block w.heap.size (by omega) (by omega));have LE2:=LE1.out.of (hk2.block (w.heap.size+1) (by omega) (by omega));have B2:=Zaa (B1.out.trans (hk2.below (B:=w.heap.size) (by omega) (by omega)));obtain⟨y0,sy⟩:=LE2.one;have q0:=Zaa (LR2.away (w.heap.size+1) 0 (by omega) (.iface 97 (.pointer (some ⟨L,0,none⟩))));have q1:=Zaa (LE2.set 0 (.iface 97 (.pointer (some ⟨L,0,none⟩))));have q2:=Zaa (B2.out.setCell (p:=⟨w.heap.size+1,0,none⟩) (by show w.heap.size<=w.heap.size+1;omega) (.iface 97 (.pointer (some ⟨L,0,none⟩))));have q3:=Zaa (hB.away (w.heap.size+1) 0 (by omega) (.iface 97 (.pointer (some ⟨L,0,none⟩))));refine Yfo (f:=77) (args:=#[.pointer (some ⟨w.heap.size+1,0,none⟩)]) (by simp) (by simp[go_sem]) ?_;refine(Zuv _ _ _ w2 y0 (sy 0)).mono ?_;rintro e u' w'' ⟨rfl,rfl,hw⟩;rw[<- hw]at q0 q1 q2 q3;obtain⟨z0,z1,z2,sz⟩:=q0.out.three;obtain⟨x0,sx⟩:=Blk.one (a:= .iface 97 (.pointer (some ⟨L,0,none⟩))) q1.out;clear hw;simp[Leaves,settle,results,results49,go_sem,z0,z1,z2,x0];exact⟨q2.out,Or.inl ⟨n,r,L,Zo7 hlong HY.out hy,hn,by omega,rfl,q3.out⟩⟩
  have HQ:=Zaa hQ;obtain⟨fv,rv,cv,F1,F2,F3,rfl,h1,h2,h3,hF⟩:=hQ;obtain⟨p1,c1,rfl⟩:=Zag.form h1;obtain⟨p2,c2,rfl⟩:=Zag.form h2;obtain⟨p3,c3,rfl⟩:=Zag.form h3;have LR2:=Zaa (LR1.out.of (hk2.block w.heap.size (by omega) (by omega)));have LE2:=Zaa (LE1.out.of (hk2.block (w.heap.size+1) (by omega) (by omega)));have B2:=Zaa (B1.out.trans (hk2.below (B:=w.heap.size) (by omega) (by omega)));have Y:=Zaa (Zzh hlong HY.out hy);have HN:=Zaa hN;clear h1 h2 h3 hF hk2 hr2 hy hN CB LR1 LE1 B1;obtain⟨z0,z1,z2,sz⟩:=LR2.out.three;obtain⟨e0,se⟩:=LE2.out.one;have q0:=Zaa ((((LR2.out.set 0 (.slice p1 k.facts.length c1)).set 1 (.slice p2 k.rules.length c2)).set 2 (.slice p3 k.checks.length c3)).away (w.heap.size+1) 0 (by omega) .nilIface);have q1:=Zaa ((((LE2.out.away w.heap.size 0 (by omega) (.slice p1 k.facts.length c1)).away w.heap.size 1 (by omega) (.slice p2 k.rules.length c2)).away w.heap.size 2 (by omega) (.slice p3 k.checks.length c3)).set 0 .nilIface);have q2:=Zaa ((((B2.out.setCell (p:=⟨w.heap.size,0,none⟩) lr (.slice p1 k.facts.length c1)).setCell (p:=⟨w.heap.size,1,none⟩) lr (.slice p2 k.rules.length c2)).setCell (p:=⟨w.heap.size,2,none⟩) lr (.slice p3 k.checks.length c3)).setCell (p:=⟨w.heap.size+1,0,none⟩) (by show w.heap.size<=w.heap.size+1;omega) .nilIface);have q3:Box (∀ j,j∈F->((((w2.setCell ⟨w.heap.size,0,none⟩ (.slice p1 k.facts.length c1)).setCell ⟨w.heap.size,1,none⟩ (.slice p2 k.rules.length c2)).setCell ⟨w.heap.size,2,none⟩ (.slice p3 k.checks.length c3)).setCell ⟨w.heap.size+1,0,none⟩ .nilIface).heap[j]?=w2.heap[j]?):=⟨fun j hj=>by
   have g1:=HN.out.ge j hj;rw[Ydg _ _ _ _ (by show j≠w.heap.size+1;omega),Zfe (by omega)]⟩
  have q4:Box (Za7 w.heap.size ((((w2.setCell ⟨w.heap.size,0,none⟩ (.slice p1 k.facts.length c1)).setCell ⟨w.heap.size,1,none⟩ (.slice p2 k.rules.length c2)).setCell ⟨w.heap.size,2,none⟩ (.slice p3 k.checks.length c3)).setCell ⟨w.heap.size+1,0,none⟩ .nilIface) F):=⟨HN.out.later (by omega) (by simp)⟩;go_wp2_with fail
  clear z0 z1 z2 sz e0 se;refine Yfo (f:=77) (args:=#[.pointer (some ⟨w.heap.size+1,0,none⟩)]) (by simp) (by simp[go_sem]) ?_;refine(Z9u _ _).mono ?_;rintro e u' w'' ⟨rfl,rfl,hw⟩;rw[<- hw]at q0 q1 q2 q3 q4;obtain⟨z0,z1,z2,sz⟩:=Blk.three (a:= .slice p1 k.facts.length c1) (b:= .slice p2 k.rules.length c2) (c:= .slice p3 k.checks.length c3) q0.out;obtain⟨x0,sx⟩:=Blk.one (a:= .nilIface) q1.out;clear hw;simp[Leaves,settle,results,results49,go_sem,z0,z1,z2,x0];exact⟨q2.out,Or.inr ⟨_,k,Y.out,rfl,⟨_,F,rfl,Zbj.stable (ty:=Zad) 4 _ _ _ _ _ HQ.out q3.out,q4.out⟩⟩⟩
theorem Z37 (t:ByteArray)(ht:t.size < 1000000000)(Z:Zao a w):
  Calls prog 30 #[.string t] w (Zke a w (.agg #[.slice none 0 0,.slice none 0 0,.slice none 0 0]) (Zlh (Zbj Zad 4) w.heap.size) (Zcn t (Ze7 t))):=by
 have hmf:=Zgm;have B0:=Zaa ((Ydb _ w).alloc lr (.cells #[.slice none 0 0,.slice none 0 0,.slice none 0 0] 45));have L0:=Zaa (Blk.new w #[.slice none 0 0,.slice none 0 0,.slice none 0 0] 45);have C:=Zaa (Zw3 t ht (Z.below B0.out));clear Z;go_in
 go_wp2_with fail
 refine C.out.mono ?_;rintro e w1 ⟨hb1,⟨n,p,L,hy,hn,hL,rfl,hB⟩ | ⟨v,k,hy,rfl,⟨vs,F,rfl,hQ,hN⟩⟩⟩
 ·obtain⟨y0,y1,y2,sy⟩:=(L0.out.of (hb1.block _ (by simp))).three;have R:=Zaa (Yda (B0.out.trans (hb1.mono (by simp))) (Yda hy hB));simp at hL;clear hb1 hy hB C;go_wp2
  refine Ye6 (by simp[results,results30,go_sem,y0,y1,y2];try rfl) rfl ?_;exact⟨((R.out.1.setCell (p:=⟨w.heap.size,0,none⟩) lr _).setCell (p:=⟨w.heap.size,1,none⟩) lr _).setCell (p:=⟨w.heap.size,2,none⟩) lr _,Or.inl ⟨n,p,L,R.out.2.1,hn,by omega,rfl,((R.out.2.2.away _ _ (by omega) _).away _ _ (by omega) _).away _ _ (by omega) _⟩⟩
 ·have HQ:=Zaa hQ;obtain⟨fv,rv,cv,F1,F2,F3,rfl,h1,h2,h3,hF⟩:=hQ;obtain⟨p1,c1,rfl⟩:=Zag.form h1;obtain⟨p2,c2,rfl⟩:=Zag.form h2;obtain⟨p3,c3,rfl⟩:=Zag.form h3;obtain⟨y0,y1,y2,sy⟩:=(L0.out.of (hb1.block _ (by simp))).three;have R:=Zaa (Yda (B0.out.trans (hb1.mono (by simp))) (Yda hy hN));clear h1 h2 h3 hF hb1 hy hN C;go_wp2
  refine Ye6 (by simp[results,results30,go_sem,y0,y1,y2];try rfl) rfl ?_;exact⟨((R.out.1.setCell (p:=⟨w.heap.size,0,none⟩) lr _).setCell (p:=⟨w.heap.size,1,none⟩) lr _).setCell (p:=⟨w.heap.size,2,none⟩) lr _,Or.inr ⟨_,k,R.out.2.1,rfl,⟨_,F,rfl,Zbj.stable (ty:=Zad) 4 _ _ _ _ _ HQ.out fun j hj=>Zfe (by have:=R.out.2.2.ge j hj;simp at this;omega),R.out.2.2.later (by simp) (by simp)⟩⟩⟩
end Go.P
namespace Go.P
variable {a:Nat->Addr}{w:World}
theorem Zuw (b L:Nat)(x:Value)(w:World)(hc:w.cell? ⟨b,0,none⟩=some x)(hf:w.frozen? ⟨b,0,none⟩=false):CallsD prog 83 #[.pointer (some ⟨b,0,none⟩)] (.panicking [{v:= .iface 97 (.pointer (some ⟨L,0,none⟩)),recovered:=false}]) w fun e u' w'=>
  e= .returned (.tuple #[])/\u'= .panicking [{v:= .iface 97 (.pointer (some ⟨L,0,none⟩)),recovered:=true}]/\w'=w.setCell ⟨b,0,none⟩ (.iface 97 (.pointer (some ⟨L,0,none⟩))):=by
 have hbl:=Zbi hc;refine callsD_of_wpS func83 rfl fun c₀ cs hu=>?_;apply wpS_seq
 apply wpS_region
 simp[wpOpsS,go_sem,recoverD,hu,ntmps83,Exit.thenS,Array.replicate,List.replicate];refine wpS_of_wp ?_;have ta:=Zl4;go_wp2_with fail
 simp[bodyPostS,results,results83]
theorem Z9v (b:Nat)(w:World):CallsD prog 83 #[.pointer (some ⟨b,0,none⟩)] .returning w fun e u' w'=>e= .returned (.tuple #[])/\u'= .returning/\w'=w:=by
 refine callsD_of_wpS func83 rfl fun c₀ cs hu=>?_;apply wpS_seq
 apply wpS_region
 simp[wpOpsS,go_sem,recoverD,hu,ntmps83,Exit.thenS,Array.replicate,List.replicate];refine wpS_of_wp ?_;go_wp2_with fail
 cases c₀;simp_all [bodyPostS,results,results83]
theorem Zmw:Zaq 52:=Zam func52 (by kernel_rfl) rfl
theorem Zw4 (t:ByteArray)(ht:t.size < 1000000000)(Z:Zao a w):
  Calls prog 51 #[.string t,.func (.func 52) #[] #[]] w (Zke a w (.slice none 0 0) (Zkd 187 2 (Zhi Zad 4) w.heap.size) (Zcn t (Zdo t))):=by
 have hmf:=Zgm;have hg:=Z.size;have hen': ∀ args w,(callFunc 52 args).run prog w= .ok (.enter 52 args) w:=Zmw;by_cases hlong:8000 < t.size
 ·have Y:=Zaa (Zrh (f:=Zdo t) hlong);have g1:decide (8000 < (t.size:Int))=true:=by simp;omega
  have z4:=fun o=>Zab Z.c4 ((Ydb _ w).alloc lr o);simp only[Zaf a (show(4:Int)≠0 by decide)]at z4;clear Z;go_enter_defers func51,ntmps51
  go_wp2
  go_region
  all_goals go_wp2_with fail
  have q0:=Zaa ((Ydb w.heap.size w).alloc lr (.cells #[.iface 97 (.pointer (some ⟨w.heap.size+1,0,none⟩))] 62));have q1:=Zaa ((q0.out.alloc (by simp) (.cells #[.int .i64 8000,.iface 403 (.pointer (some (a 3)))] 101)).drew);have q2:=Zaa (Blk.new (w.alloc (.cells #[.iface 97 (.pointer (some ⟨w.heap.size+1,0,none⟩))] 62)) #[.int .i64 8000,.iface 403 (.pointer (some (a 3)))] 101);simp only[Ydm]at q2;simp[bodyPostD,Leaves,results,results51,go_sem];exact⟨q1.out,Or.inl ⟨4,8000,w.heap.size+1,Y.out,by decide,by omega,rfl,q2.out⟩⟩
 ·have g1:decide (8000 < (t.size:Int))=false:=by simp;omega
  have B0:=Zaa (((Ydb w.heap.size w).alloc lr (.cells #[.nilIface] 62)).alloc (by simp) (.cells #[.string t,.int .i64 0,.int .i64 0,.string ⟨#[]⟩,.int .i64 0,.int .i64 0,.string ⟨#[]⟩,.slice none 0 0] 181));have LE:=Zaa ((Blk.new w #[.nilIface] 62).alloc (.cells #[.string t,.int .i64 0,.int .i64 0,.string ⟨#[]⟩,.int .i64 0,.int .i64 0,.string ⟨#[]⟩,.slice none 0 0] 181));have LD:=Zaa (Blk.new (w.alloc (.cells #[.nilIface] 62)) #[.string t,.int .i64 0,.int .i64 0,.string ⟨#[]⟩,.int .i64 0,.int .i64 0,.string ⟨#[]⟩,.slice none 0 0] 181);simp only[Ydm]at LD;have RD0:Rd ((w.alloc (.cells #[.nilIface] 62)).alloc (.cells #[.string t,.int .i64 0,.int .i64 0,.string ⟨#[]⟩,.int .i64 0,.int .i64 0,.string ⟨#[]⟩,.slice none 0 0] 181)) (w.heap.size+1) t 0 (Zga 0):=⟨LD.out,by omega,by omega,by omega⟩;have C:=Zaa (Zsl (Z.below B0.out) RD0);have ZZ:=Zaa Z;clear Z LD RD0;go_enter_defers func51,ntmps51
  go_wp2_with fail
  refine C.out.mono ?_;rintro e w1 ⟨hk1,⟨n,r,hy,hn,L,hL,rfl,hB⟩ | ⟨v,u,x1,r1,hy,rfl,hv,hr1⟩⟩
  ·have LE1:=LE.out.of (hk1.block w.heap.size (by simp;omega) (by omega));have B1:=Zaa (B0.out.trans (hk1.below (B:=w.heap.size) (by omega) (by simp;omega)));simp at hL;obtain⟨y0,sy⟩:=LE1.one;have q1:=Zaa (LE1.set 0 (.iface 97 (.pointer (some ⟨L,0,none⟩))));have q2:=Zaa (B1.out.setCell (p:=⟨w.heap.size,0,none⟩) lr (.iface 97 (.pointer (some ⟨L,0,none⟩))));have q3:=Zaa (hB.away w.heap.size 0 (by omega) (.iface 97 (.pointer (some ⟨L,0,none⟩))));refine Yfo (f:=83) (args:=#[.pointer (some ⟨w.heap.size,0,none⟩)]) (by simp) (by simp[go_sem]) ?_;refine(Zuw _ _ _ w1 y0 (sy 0)).mono ?_;rintro e u' w'' ⟨rfl,rfl,hw⟩;rw[<- hw]at q1 q2 q3;obtain⟨x0,sx⟩:=Blk.one (a:= .iface 97 (.pointer (some ⟨L,0,none⟩))) q1.out;clear hw;simp[Leaves,settle,results,results51,go_sem,x0];exact⟨q2.out,Or.inl ⟨n,r,L,Zri hlong hy,hn,by omega,rfl,q3.out⟩⟩
  obtain rfl:v= .tuple #[]:=hv;have hx1:=Zsk (by omega) hy;have Z1:=(ZZ.out.below B0.out).keeps hk1 (by omega);have LE1:=Zaa (LE.out.of (hk1.block w.heap.size (by simp;omega) (by omega)));have B1:=Zaa (B0.out.trans (hk1.below (B:=w.heap.size) (by omega) (by simp;omega)));have hs1:=hk1.size;simp at hs1;have CB:=Zaa (Zsn Z1 hr1 hx1);have HY:=Zaa hy;clear hk1 hy hr1 C LE Z1;go_wp2_with fail
  refine CB.out.mono ?_;rintro e w2 ⟨hk2,⟨n,r,hy,hn,L,hL,rfl,hB⟩ | ⟨v,k,x2,r2,hy,rfl,⟨F,hR,hN⟩,hr2⟩⟩
  ·have LE2:=LE1.out.of (hk2.block w.heap.size (by omega) (by omega));have B2:=Zaa (B1.out.trans (hk2.below (B:=w.heap.size) (by omega) (by omega)));obtain⟨y0,sy⟩:=LE2.one;have q1:=Zaa (LE2.set 0 (.iface 97 (.pointer (some ⟨L,0,none⟩))));have q2:=Zaa (B2.out.setCell (p:=⟨w.heap.size,0,none⟩) lr (.iface 97 (.pointer (some ⟨L,0,none⟩))));have q3:=Zaa (hB.away w.heap.size 0 (by omega) (.iface 97 (.pointer (some ⟨L,0,none⟩))));refine Yfo (f:=83) (args:=#[.pointer (some ⟨w.heap.size,0,none⟩)]) (by simp) (by simp[go_sem]) ?_;refine(Zuw _ _ _ w2 y0 (sy 0)).mono ?_;rintro e u' w'' ⟨rfl,rfl,hw⟩;rw[<- hw]at q1 q2 q3;obtain⟨x0,sx⟩:=Blk.one (a:= .iface 97 (.pointer (some ⟨L,0,none⟩))) q1.out;clear hw;simp[Leaves,settle,results,results51,go_sem,x0];exact⟨q2.out,Or.inl ⟨n,r,L,Zo7 hlong HY.out hy,hn,by omega,rfl,q3.out⟩⟩
  have HQ:=Zaa hR;obtain⟨p1,c1,rfl⟩:=Zag.form hR;have LE2:=Zaa (LE1.out.of (hk2.block w.heap.size (by omega) (by omega)));have B2:=Zaa (B1.out.trans (hk2.below (B:=w.heap.size) (by omega) (by omega)));have Y:=Zaa (Zzh hlong HY.out hy);have HN:=Zaa hN;clear hR hk2 hr2 hy hN CB LE1 B1;obtain⟨e0,se⟩:=LE2.out.one;have q1:=Zaa (LE2.out.set 0 .nilIface);have q2:=Zaa (B2.out.setCell (p:=⟨w.heap.size,0,none⟩) lr .nilIface);have q3:Box (∀ j,j∈F->(w2.setCell ⟨w.heap.size,0,none⟩ .nilIface).heap[j]?=w2.heap[j]?):=⟨fun j hj=>by
   have g1:=HN.out.ge j hj;exact Ydg _ _ _ _ (by show j≠w.heap.size;omega)⟩
  have q4:Box (Za7 w.heap.size (w2.setCell ⟨w.heap.size,0,none⟩ .nilIface) F):=⟨HN.out.later (by omega) (by simp)⟩;go_wp2_with fail
  clear e0 se;refine Yfo (f:=83) (args:=#[.pointer (some ⟨w.heap.size,0,none⟩)]) (by simp) (by simp[go_sem]) ?_;refine(Z9v _ _).mono ?_;rintro e u' w'' ⟨rfl,rfl,hw⟩;rw[<- hw]at q1 q2 q3 q4;obtain⟨x0,sx⟩:=Blk.one (a:= .nilIface) q1.out;clear hw;simp[Leaves,settle,results,results51,go_sem,x0];exact⟨q2.out,Or.inr ⟨_,k,Y.out,rfl,⟨F,Zag.stable (Zhi.stable (ty:=Zad) 4) _ _ _ _ _ HQ.out q3.out,q4.out⟩⟩⟩
theorem Zlw (t:ByteArray)(ht:t.size < 1000000000)(Z:Zao a w):
  Calls prog 31 #[.string t] w (Zke a w (.slice none 0 0) (Zkd 187 2 (Zhi Zad 4) w.heap.size) (Zcn t (Zdo t))):=by
 have hmf:=Zgm;have C:=Zaa (Zw4 t ht Z);clear Z;go_in
 go_wp2_with fail
 refine C.out.mono ?_;rintro e w1 ⟨hb1,⟨n,p,L,hy,hn,hL,rfl,hB⟩ | ⟨v,k,hy,rfl,⟨F,hR,hN⟩⟩⟩
 ·go_wp2
  refine Ye6 (by simp[results,results31,go_sem];try rfl) rfl ?_;exact⟨hb1,Or.inl ⟨n,p,L,hy,hn,hL,rfl,hB⟩⟩
 ·have R:=Zaa (Yda hb1 (Yda hy (Yda hR hN)));obtain⟨p1,c1,rfl⟩:=Zag.form hR;clear hb1 hy hR hN C;go_wp2
  refine Ye6 (by simp[results,results31,go_sem];try rfl) rfl ?_;exact⟨R.out.1,Or.inr ⟨_,k,R.out.2.1,rfl,⟨F,R.out.2.2.1,R.out.2.2.2⟩⟩⟩
end Go.P
namespace Go.P
variable {n:Int}{a:Nat->Addr}{w:World}
theorem Z9x (h:Rsn n): ∃ k:Nat,n=(k:Int)+1/\k < 10:=⟨(n - 1).toNat,by have:=h.1;omega,by have:=h.2;have:=h.1;omega⟩
theorem Zx8 (a:Nat->Addr)(k:Nat):Zcm a ((k:Int)+1)= .iface 403 (.pointer (some (a k))):=by
 rw[Zaf a (by omega),show((k:Int)+1).toNat - 1=k by omega]
theorem Zha (w:World):Calls prog 20 #[.nilIface] w fun e w'=>e= .returned (.tuple #[.int .i64 0,.int .i64 (-1)])/\w'=w:=by
 go_in
 go_wp2
 go_ret2
 exact⟨rfl,rfl⟩
theorem Zws (Z:Zao a w)(E:Zjs a w)(h:Wr n):Calls prog 20 #[Zcm a n] w fun e w'=>e= .returned (.tuple #[.int .i64 n,.int .i64 (-1)])/\Below w.heap.size w w':=by
 rcases h with rfl | h
 ·rw[Za0];exact(Zha w).mono fun e w' ⟨h1,h2⟩=>⟨h1,h2▸Ydb _ _⟩
 ·obtain⟨k,rfl,hk⟩:=Z9x h;rw[Zx8];exact Zmg Z E k hk
def sl3 (s:(Option Addr×Nat×Nat)×(Option Addr×Nat×Nat)×Option Addr×Nat×Nat):Array Value:=#[.slice s.1.1 s.1.2.1 s.1.2.2,.slice s.2.1.1 s.2.1.2.1 s.2.1.2.2,.slice s.2.2.1 s.2.2.2.1 s.2.2.2.2]
theorem Z4e {x:Value}{J:(Option Addr×Nat×Nat)×(Option Addr×Nat×Nat)×Option Addr×Nat×Nat->Value->World->Prop}{K:(Option Addr×Nat×Nat)×(Option Addr×Nat×Nat)×Option Addr×Nat×Nat->Int->World->Prop}
  (CP: ∀ u,Below w.heap.size w u->w.heap.size < u.heap.size->Calls prog 30 #[x] u fun e w'=> ∃ s er,e= .returned (.tuple #[.agg (sl3 s),er])/\J s er w'/\Below u.heap.size u w')
  (sJ: ∀ s er u v,J s er u->Below u.heap.size u v->J s er v) (sK: ∀ s m u v,K s m u->Off [w.heap.size] u v->K s m v)
  (CN: ∀ s er u,J s er u->Below w.heap.size w u->Calls prog 20 #[er] u fun e w'=> ∃ m p,e= .returned (.tuple #[.int .i64 m,.int .i64 p])/\K s m w'/\Below u.heap.size u w'):
  Calls prog 15 #[x] w fun e w'=> ∃ s m p,e= .returned (.tuple #[.agg (sl3 s),.int .i64 m,.int .i64 p])/\K s m w'/\Below w.heap.size w w':=by
 have C:=Zaa CP;have SJ:=Zaa sJ;have SK:=Zaa sK;have N:=Zaa CN;clear CP sJ sK CN;go_in
 go_wp2_with fail
 have B0:=(Ydb w.heap.size w).alloc lr (.cells #[.slice none 0 0,.slice none 0 0,.slice none 0 0] 45);have N0:=Blk.new w #[.slice none 0 0,.slice none 0 0,.slice none 0 0] 45;generalize w.alloc (.cells #[.slice none 0 0,.slice none 0 0,.slice none 0 0] 45)=W0 at*;refine(C.out _ B0 N0.lt).mono ?_;rintro e w1 ⟨⟨⟨p,n,c⟩,⟨p1,n1,c1⟩,p2,n2,c2⟩,er,rfl,j,hb⟩;have N1:=N0.of (hb.block _ N0.lt);have B1:=B0.trans (hb.mono B0.size);have J1:=Zaa (SJ.out _ _ _ _ j ((Ydb _ w1).alloc lr (.cells #[.slice p n c,.slice p1 n1 c1,.slice p2 n2 c2] 45)));have B2:=B1.alloc B1.size (.cells #[.slice p n c,.slice p1 n1 c1,.slice p2 n2 c2] 45);have N2:=N1.alloc (.cells #[.slice p n c,.slice p1 n1 c1,.slice p2 n2 c2] 45);have M2:=Blk.new w1 #[.slice p n c,.slice p1 n1 c1,.slice p2 n2 c2] 45;have HB2:=Zaa B2;have HN2:=Zaa N2;have HM2:=Zaa M2;clear j hb N1 B1 N0 B0 B2 N2 M2;simp only[sl3];go_wp2_with fail
 refine(N.out _ _ _ J1.out HB2.out).mono ?_;rintro e w2 ⟨m,q,rfl,k2,hb2⟩;have N3:=HN2.out.of (hb2.block _ HN2.out.lt);have M3:=HM2.out.of (hb2.block _ HM2.out.lt);have B3:=tr HB2 hb2;obtain⟨y0,y1,y2,ys⟩:=N3.three;obtain⟨z0,z1,z2,zs⟩:=M3.three;have K2:=Zaa k2;clear k2 hb2 N3 M3 J1;go_wp2
 refine Ye6 (by simp[results,results15,go_sem,y0,y1,y2];try rfl) rfl ?_;refine⟨((p,n,c),(p1,n1,c1),p2,n2,c2),m,q,rfl,SK.out _ _ _ _ K2.out (((Off.refl _ w2).set _ _ _ (.inl (by simp))).set _ _ _ (.inl (by simp)) |>.set _ _ _ (.inl (by simp))),((B3.out.setCell lr _).setCell lr _).setCell lr _⟩
def BkK (w:World) (Y:Prop) (G:Bk->Prop) (s:(Option Addr×Nat×Nat)×(Option Addr×Nat×Nat)×Option Addr×Nat×Nat) (m:Int) (u:World):Prop:=(Y/\m≠0/\s=((none,0,0),(none,0,0),none,0,0))\/(m=0/\ ∃ x F,G x/\Zbj Zad 4 u (sl3 s).toList x F/\Za7 (w.heap.size+1) u F)
theorem BkK.off {u v:World}{Y:Prop}{G:Bk->Prop}{s:(Option Addr×Nat×Nat)×(Option Addr×Nat×Nat)×Option Addr×Nat×Nat}{m:Int}(h:BkK w Y G s m u)(ho:Off [w.heap.size] u v):BkK w Y G s m v:=by
 rcases h with h | ⟨h1,x,F,h2,h3,h4⟩
 ·exact .inl h
 ·exact .inr ⟨h1,x,F,h2,Zbj.stable (ty:=Zad) 4 _ _ _ _ _ h3 fun j hj=>ho.block j (h4.lt j hj) (by have:=h4.ge j hj;simp;omega),h4.later lr ho.size⟩
theorem Ybz {ty:Tys}{d:Nat}{vs:List Value}{x:Bk}{F:List Nat}(h:Zbj ty d w vs x F): ∃ s,vs=(sl3 s).toList:=by
 obtain⟨p,c,p1,c1,p2,c2,rfl⟩:=Zbj.vals h;exact⟨((p,_,c),(p1,_,c1),p2,_,c2),rfl⟩
theorem Zq7 (t:ByteArray)(ht:t.size < 1000000000)(Z:Zao a w)(E:Zjs a w):Calls prog 15 #[.string t] w fun e w'=> ∃ s m p,e= .returned (.tuple #[.agg (sl3 s),.int .i64 m,.int .i64 p])/\BkK w (∃ er,Zcn t (Ze7 t)= .error er) (fun x=>Zcn t (Ze7 t)= .ok x) s m w'/\Below w.heap.size w w':=by
 refine Z4e (J:=fun s er u=>(∃ n p L,Zcn t (Ze7 t)= .error (n,p)/\s=((none,0,0),(none,0,0),none,0,0)/\er= .iface 97 (.pointer (some ⟨L,0,none⟩))/\Blk u L #[.int .i64 (p:Int),Zcm a n] 101)\/(er= .nilIface/\ ∃ x F,Zcn t (Ze7 t)= .ok x/\Zbj Zad 4 u (sl3 s).toList x F/\Za7 (w.heap.size+1) u F)) (fun u hu hl=>(Z37 t ht (Z.below hu)).mono ?_) ?_ (fun _ _ _ _ h ho=>h.off ho) ?_
 ·rintro e w1 ⟨hb,(⟨n,p,L,hY,hn,hL,rfl,hF⟩ | ⟨v,y,hY,rfl,vs,F,rfl,hO,hN⟩)⟩
  ·exact⟨((none,0,0),(none,0,0),none,0,0),_,rfl,.inl ⟨n,p,L,hY,rfl,rfl,hF⟩,hb⟩
  ·obtain⟨s,rfl⟩:=Ybz hO;exact⟨s,_,rfl,.inr ⟨rfl,y,F,hY,hO,hN.later hl lr⟩,hb⟩
 ·rintro s er u v (⟨n,p,L,hY,hs,he,hF⟩ | ⟨he,x,F,hY,hO,hN⟩) hv
  ·exact .inl ⟨n,p,L,hY,hs,he,hF.of (hv.block _ hF.lt)⟩
  ·exact .inr ⟨he,x,F,hY,Zbj.stable (ty:=Zad) 4 _ _ _ _ _ hO fun j hj=>hv.block j (hN.lt j hj),hN.later lr hv.size⟩
 ·rintro s er u (⟨n,p,L,hY,rfl,rfl,hF⟩ | ⟨rfl,x,F,hY,hO,hN⟩) hu
  ·obtain⟨k,rfl,hk⟩:=Z9x (Z38 t _ hY);refine(Zmf (Z.below hu) (E.below hu) L 0 k p hk hF.two.1 (by have:=hF.two.2.1;rwa [Zx8]at this)).mono ?_;rintro e w' ⟨rfl,hb⟩;exact⟨_,_,rfl,.inl ⟨⟨_,hY⟩,by omega,rfl⟩,hb⟩
  ·refine(Zha u).mono ?_;rintro e w' ⟨rfl,rfl⟩;exact⟨_,_,rfl,.inr ⟨rfl,x,F,hY,hO,hN⟩,Ydb _ _⟩
end Go.P
namespace Go.W
variable {w:World}{F:List Nat}
def Zvn:Zgj Nat:=fun _ vs x F=>F=[]/\vs=[.pointer (some ⟨x,0,none⟩)]
theorem Zvn.stable:Zc3 Zvn:=fun _ _ _ _ _ h _=>h
theorem Zvn.one {vs:List Value}{x:Nat}(h:Zvn w vs x F): ∀ u,u∈vs->u.oneCell'=true:=by
 obtain⟨_,rfl⟩:=h;simp[Value.oneCell']
theorem Zvn.cells {e:TypeId}{g n c:Nat}{xs:List Nat}(h:Zag e 1 Zvn w (.slice (some ⟨g,0,none⟩) n c) xs F)(i x:Nat)(hx:xs[i]?=some x):w.cell? ⟨g,i,none⟩=some (.pointer (some ⟨x,0,none⟩)):=by
 obtain⟨g',cap,cs,G,e1,_,⟨_,rfl⟩,hc⟩:=h.nth i x hx;cases e1;simpa using hc 0 _ rfl
end Go.W
namespace Go.P
theorem Zx6:Zdw prog 201 204 1 8:=by
 obtain⟨i0,hi,hz0,hz1,hz2⟩:=info_parts (by kernel_rfl:(prog.info? 204).map (fun i=>(i.zero,i.size,i.bytes))=some (some (.pointer none),1,8));exact⟨i0,_,underlying201,hi,hz0,hz1,hz2,rfl,by decide,by decide⟩
attribute [local go_sem] Yea
theorem Zxn {w:World}{b o c:Nat}{clk:Int}{fb rb kb fc rc kc:Option Addr}{nfb cfb nrb crb nkb ckb nfc cfc nrc crc nkc ckc:Nat}(k0:w.cell? ⟨b,o,none⟩=some (.slice fb nfb cfb))(k1:w.cell? ⟨b,o+1,none⟩=some (.slice rb nrb crb))(k2:w.cell? ⟨b,o+2,none⟩=some (.slice kb nkb ckb))(k3:w.cell? ⟨b,o+3,none⟩=some (.slice fc nfc cfc))(k4:w.cell? ⟨b,o+4,none⟩=some (.slice rc nrc crc))(k5:w.cell? ⟨b,o+5,none⟩=some (.slice kc nkc ckc))
  (hc:2<=c) {J1:Option Addr->Nat->Nat->Option Addr->Nat->Nat->World->Prop} (s1: ∀ pf nf cf pr nr cr u v,J1 pf nf cf pr nr cr u->Below u.heap.size u v->J1 pf nf cf pr nr cr v)
  (CU1: ∀ u g t,g < w.heap.size+5->t < w.heap.size+5->w.heap.size+5<=u.heap.size->Below w.heap.size w u->Blk u g #[.string ⟨#[116,105,109,101]⟩,.slice (some ⟨t,0,none⟩) 1 1] 112->Blk u t #[.int .i64 5,.int .i64 clk,.string ⟨#[]⟩,.slice none 0 0] 117->Calls prog 148 #[.agg #[.slice (some ⟨g,0,none⟩) 1 1,.slice none 0 0,.slice none 0 0],.agg #[.slice fb nfb cfb,.slice rb nrb crb,.slice kb nkb ckb]] u fun e w'=> ∃ pf nf cf pr nr cr,e= .returned (.agg #[.slice pf nf cf,.slice pr nr cr,.slice none 0 0])/\J1 pf nf cf pr nr cr w'/\(∀ k v0 v1 v2,w.heap.size+5<=k->k < u.heap.size->J1 pf nf cf pr nr cr (((w'.setCell ⟨k,0,none⟩ v0).setCell ⟨k,1,none⟩ v1).setCell ⟨k,2,none⟩ v2))/\Below u.heap.size u w')
  {J2:Option Addr->Nat->Nat->Option Addr->Nat->Nat->Option Addr->Nat->Nat->Option Addr->Nat->Nat->World->Prop} (CU2: ∀ pf nf cf pr nr cr u,J1 pf nf cf pr nr cr u->Calls prog 148 #[.agg #[.slice pf nf cf,.slice pr nr cr,.slice none 0 0],.agg #[.slice fc nfc cfc,.slice rc nrc crc,.slice kc nkc ckc]] u fun e w'=> ∃ pf' nf' cf' pr' nr' cr',e= .returned (.agg #[.slice pf' nf' cf',.slice pr' nr' cr',.slice none 0 0])/\J2 pf nf cf pr nr cr pf' nf' cf' pr' nr' cr' w'/\Below u.heap.size u w')
  {J3:Option Addr->Nat->Nat->Option Addr->Nat->Nat->Nat->Nat->World->Prop} {J4:Nat->Nat->Nat->Nat->Nat->World->Prop} (s2: ∀ pf nf cf pr nr cr pf' nf' cf' pr' nr' cr' u v,J2 pf nf cf pr nr cr pf' nf' cf' pr' nr' cr' u->Below u.heap.size u v->J2 pf nf cf pr nr cr pf' nf' cf' pr' nr' cr' v) (s3: ∀ pf nf cf pr nr cr p1 n u v,J3 pf nf cf pr nr cr p1 n u->u.heap.size<=v.heap.size->(∀ k,k < n->v.heap[k]?=u.heap[k]?)->J3 pf nf cf pr nr cr p1 n v) (s4: ∀ p1 p2 n m z u v,J4 p1 p2 n m z u->u.heap.size<=v.heap.size->(∀ k,k < u.heap.size->k < n\/m<=k->v.heap[k]?=u.heap[k]?)->J4 p1 p2 n m z v)
  (CW1: ∀ pf nf cf pr nr cr pf' nf' cf' pr' nr' cr' u,J2 pf nf cf pr nr cr pf' nf' cf' pr' nr' cr' u->Calls prog 149 #[.slice pf nf cf,.slice pr nr cr] u fun e w'=> ∃ p1,e= .returned (.tuple #[.pointer (some ⟨p1,0,none⟩),.bool true])/\J3 pf' nf' cf' pr' nr' cr' p1 w'.heap.size w'/\Below u.heap.size u w')
  (CW2: ∀ pf nf cf pr nr cr p1 n u,n<=u.heap.size->J3 pf nf cf pr nr cr p1 n u->Calls prog 149 #[.slice pf nf cf,.slice pr nr cr] u fun e w'=> ∃ p2,e= .returned (.tuple #[.pointer (some ⟨p2,0,none⟩),.bool true])/\J4 p1 p2 n u.heap.size w'.heap.size w'/\Below u.heap.size u w'):
  Calls prog 101 #[.slice (some ⟨b,o,none⟩) 2 c,.agg #[.int .i64 clk,.slice none 0 0,.slice none 0 0]] w fun e w'=> ∃ g p1 p2 cw n m z,e= .returned (.tuple #[.slice (some ⟨g,0,none⟩) 2 cw,.bool true])/\(w'.cell? ⟨g,0,none⟩=some (.pointer (some ⟨p1,0,none⟩))/\w'.cell? ⟨g,1,none⟩=some (.pointer (some ⟨p2,0,none⟩)))/\J4 p1 p2 n m z w'/\n<=m/\m<=z/\(n<=g/\g < m\/z<=g)/\g < w'.heap.size/\Below w.heap.size w w':=by
 obtain⟨c,rfl⟩: ∃ c2,c=c2+2:=⟨c - 2,by omega⟩;have H1:=Zaa CU1;have S1:=Zaa s1;have lb:=Zbi k0;have H2:=Zaa CU2;have S2:=Zaa s2;have S3:=Zaa s3;have S4:=Zaa s4;have H3:=Zaa CW1;have H4:=Zaa CW2;clear CU1 s1 CU2 s2 s3 s4 CW1 CW2;refine Yfn func101 rfl ?_;simp only[ntmps101,Ydn,Ydp,Ydt,Nat.reduceAdd,Nat.reduceSub,Ydx,Ydw,Yd2,Ydz,Ydy,Ydv];go_wp2_with fail
 obtain⟨W5,hW5⟩: ∃ W5,Box (((((w.alloc (.cells #[.int .i64 clk,.slice none 0 0,.slice none 0 0] 60)).alloc (.cells #[.int .i64 5,.int .i64 clk,.string ⟨#[]⟩,.slice none 0 0] 117)).alloc (.cells #[.string ⟨#[116,105,109,101]⟩,.slice (some ⟨w.heap.size+1,0,none⟩) 1 1] 112)).alloc (.cells #[.string ⟨#[116,105,109,101]⟩,.slice (some ⟨w.heap.size+1,0,none⟩) 1 1] 112)).alloc (.cells #[.slice (some ⟨w.heap.size+1+1+1,0,none⟩) 1 1,.slice none 0 0,.slice none 0 0] 45)=W5):=⟨_,⟨rfl⟩⟩;rw[hW5.out];have B5:Below w.heap.size w W5:=hW5.out▸(((((Ydb _ w).alloc lr _).alloc (by simp) _).alloc (by simp;omega) _).alloc (by simp;omega) _).alloc (by simp;omega) _;have Z5:Box (W5.heap.size=w.heap.size+5):=⟨by rw[<- hW5.out];simp⟩;have N1:Blk W5 (w.heap.size+1) #[.int .i64 5,.int .i64 clk,.string ⟨#[]⟩,.slice none 0 0] 117:=hW5.out▸(((Zpo w _ _ _).alloc _).alloc _).alloc _;have N3:Blk W5 (w.heap.size+1+1+1) #[.string ⟨#[116,105,109,101]⟩,.slice (some ⟨w.heap.size+1,0,none⟩) 1 1] 112:=by
  rw[<- hW5.out];refine Blk.alloc ?_ _
  have:=Blk.new (((w.alloc (.cells #[.int .i64 clk,.slice none 0 0,.slice none 0 0] 60)).alloc (.cells #[.int .i64 5,.int .i64 clk,.string ⟨#[]⟩,.slice none 0 0] 117)).alloc (.cells #[.string ⟨#[116,105,109,101]⟩,.slice (some ⟨w.heap.size+1,0,none⟩) 1 1] 112)) #[.string ⟨#[116,105,109,101]⟩,.slice (some ⟨w.heap.size+1,0,none⟩) 1 1] 112
  simpa using this
 have N4:Blk W5 (w.heap.size+1+1+1+1) #[.slice (some ⟨w.heap.size+1+1+1,0,none⟩) 1 1,.slice none 0 0,.slice none 0 0] 45:=by
  rw[<- hW5.out]
  have:=Blk.new ((((w.alloc (.cells #[.int .i64 clk,.slice none 0 0,.slice none 0 0] 60)).alloc (.cells #[.int .i64 5,.int .i64 clk,.string ⟨#[]⟩,.slice none 0 0] 117)).alloc (.cells #[.string ⟨#[116,105,109,101]⟩,.slice (some ⟨w.heap.size+1,0,none⟩) 1 1] 112)).alloc (.cells #[.string ⟨#[116,105,109,101]⟩,.slice (some ⟨w.heap.size+1,0,none⟩) 1 1] 112)) #[.slice (some ⟨w.heap.size+1+1+1,0,none⟩) 1 1,.slice none 0 0,.slice none 0 0] 45
  simpa using this
 have HS:Box (∀ u,Below W5.heap.size W5 u->u.cell? ⟨w.heap.size+1+1+1+1,0,none⟩=some (.slice (some ⟨w.heap.size+1+1+1,0,none⟩) 1 1)/\u.cell? ⟨w.heap.size+1+1+1+1,1,none⟩=some (.slice none 0 0)/\u.cell? ⟨w.heap.size+1+1+1+1,2,none⟩=some (.slice none 0 0)/\u.cell? ⟨b,o,none⟩=some (.slice fb nfb cfb)/\u.cell? ⟨b,o+1,none⟩=some (.slice rb nrb crb)/\u.cell? ⟨b,o+2,none⟩=some (.slice kb nkb ckb)):=⟨fun u hu=>by
  have e:=(N4.of (hu.block _ N4.lt)).three;have hb':u.heap[b]?=w.heap[b]?:=(hu.block b (by have:=Z5.out;omega)).trans (B5.block b lb);exact⟨e.1,e.2.1,e.2.2.1,(Yde (a:=⟨b,o,none⟩) hb').trans k0,(Yde (a:=⟨b,o+1,none⟩) hb').trans k1,(Yde (a:=⟨b,o+2,none⟩) hb').trans k2⟩⟩
 have hS0:=HS.out W5.drew (Ydb _ W5).drew;clear k0 k1 k2;refine Zzj (fun a' w'=> ∃ fbx pf nf cf pr nr cr,a'={tmps:=#[.slice (some ⟨b,o,none⟩) 2 (c+2),.agg #[.int .i64 clk,.slice none 0 0,.slice none 0 0],undef,.pointer (some ⟨w.heap.size,0,none⟩),.slice none 0 0,.bool false,.pointer (some ⟨w.heap.size+1+1,0,none⟩),.pointer (some ⟨w.heap.size+1+1+1+1,0,none⟩),.pointer (some ⟨fbx,0,none⟩),undef,undef,undef,undef,undef,undef,undef,undef,.pointer (some ⟨w.heap.size,0,none⟩),.int .i64 clk,.agg #[.int .i64 5,.int .i64 clk,.string ⟨#[]⟩,.slice none 0 0],.slice (some ⟨w.heap.size+1,0,none⟩) 1 1,.agg #[.string ⟨#[116,105,109,101]⟩,.slice (some ⟨w.heap.size+1,0,none⟩) 1 1],.agg #[.string ⟨#[116,105,109,101]⟩,.slice (some ⟨w.heap.size+1,0,none⟩) 1 1],.slice (some ⟨w.heap.size+1+1+1,0,none⟩) 1 1,.pointer (some ⟨w.heap.size,1,none⟩),.slice none 0 0,.slice (some ⟨w.heap.size+1+1+1,0,none⟩) 1 1,.agg #[.slice (some ⟨w.heap.size+1+1+1,0,none⟩) 1 1,.slice none 0 0,.slice none 0 0],.agg #[.slice (some ⟨w.heap.size+1+1+1,0,none⟩) 1 1,.slice none 0 0,.slice none 0 0],.slice (some ⟨b,o,none⟩) 2 (c+2),.pointer (some ⟨b,o,none⟩),.agg #[.slice fb nfb cfb,.slice rb nrb crb,.slice kb nkb ckb],.agg #[.slice pf nf cf,.slice pr nr cr,.slice none 0 0],undef,undef,undef,undef,undef,undef,undef,undef,undef,undef,undef,undef,undef,undef,undef,undef,undef,undef,undef,undef,undef,undef,undef,undef,undef,undef,undef,undef,undef,undef,undef,undef,undef,undef,undef,undef,undef,undef],defers:=[]}/\J1 pf nf cf pr nr cr w'/\Below W5.heap.size W5 w'/\Blk w' fbx #[.slice pf nf cf,.slice pr nr cr,.slice none 0 0] 45/\W5.heap.size<=fbx) ?_ ?_;refine Zat 6 (fun u=>u.cell? ⟨w.heap.size+1+1+1+1,0,none⟩=some (.slice (some ⟨w.heap.size+1+1+1,0,none⟩) 1 1)/\u.cell? ⟨w.heap.size+1+1+1+1,1,none⟩=some (.slice none 0 0)/\u.cell? ⟨w.heap.size+1+1+1+1,2,none⟩=some (.slice none 0 0)/\u.cell? ⟨b,o,none⟩=some (.slice fb nfb cfb)/\u.cell? ⟨b,o+1,none⟩=some (.slice rb nrb crb)/\u.cell? ⟨b,o+2,none⟩=some (.slice kb nkb ckb)) (by kernel_rfl) ?_;refine tz 0 (.agg #[.slice (some ⟨w.heap.size+1+1+1,0,none⟩) 1 1,.slice none 0 0,.slice none 0 0]) hS0 (hy:=fun _ ⟨s0,s1,s2,s3,s4,s5⟩=>by go_simp) ?_;try simp only[zz]
 refine tz 1 (.slice (some ⟨b,o,none⟩) 2 (c+2)) hS0 ?_;try simp only[zz]
 refine tz 2 (.pointer (some ⟨b,o,none⟩)) hS0 ?_;try simp only[zz]
 refine tz 3 (.agg #[.slice fb nfb cfb,.slice rb nrb crb,.slice kb nkb ckb]) hS0 (hy:=fun _ ⟨s0,s1,s2,s3,s4,s5⟩=>by go_simp) ?_;try simp only[zz]
 refine rz2 4 5 (h:=fun K' hK'=>?_) (h':=fun K' hK'=>?_)
 ·go_simp;refine(H1.out W5.drew (w.heap.size+1+1+1) (w.heap.size+1) (by omega) (by omega) (Nat.le_of_eq Z5.out.symm) B5.drew (N3.of rfl) (N1.of rfl)).mono ?_;rintro e w6 ⟨pf,nf,cf,pr,nr,cr,rfl,j1,_,hb6⟩;have B6:Below W5.heap.size W5 w6:=(Ydb _ W5).drew.trans hb6;refine hK'.out _ _ (HS.out _ B6) ?_;try simp only[zz]
  refine rz 5 (h:=fun K' hK'=>?_);go_simp;refine hK'.out _ _ (HS.out _ (B6.alloc B6.size _)) ?_;try simp only[zz]
  refine rzl (h:=fun K' hK'=>?_);go_simp;refine hK'.out _ _ ?_;try simp only[zz]
  refine dz (h:=?_);exact⟨w6.heap.size,pf,nf,cf,pr,nr,cr,rfl,S1.out _ _ _ _ _ _ _ _ j1 ((Ydb _ w6).alloc lr _),B6.alloc B6.size _,Blk.new w6 _ _,B6.size⟩
 ·go_simp;refine hK'.out _ _ (HS.out _ ((Ydb _ W5).drew.alloc lr _)) ?_;try simp only[zz]
  refine rz 4 (h:=fun K' hK'=>?_);go_simp;obtain⟨W6,hW6⟩: ∃ W6,Box ((W5.alloc (.cells #[.slice none 0 0,.slice none 0 0,.slice none 0 0] 45)).drew=W6):=⟨_,⟨rfl⟩⟩;rw[hW6.out];have B6:Below W5.heap.size W5 W6:=hW6.out▸((Ydb _ W5).alloc lr _).drew;have N6:Blk W6 W5.heap.size #[.slice none 0 0,.slice none 0 0,.slice none 0 0] 45:=hW6.out▸(Blk.new W5 _ _).of rfl;refine(H1.out W6 (w.heap.size+1+1+1) (w.heap.size+1) (by omega) (by omega) (by have:=B6.size;have:=Z5.out;omega) (B5.trans (B6.mono B5.size)) (N3.of (B6.block _ N3.lt)) (N1.of (B6.block _ N1.lt))).mono ?_;rintro e w7 ⟨pf,nf,cf,pr,nr,cr,rfl,_,t1,hb7⟩;have B7:Below W5.heap.size W5 w7:=B6.trans (hb7.mono B6.size);have N7:=N6.of (hb7.block _ N6.lt);obtain⟨y0,y1,y2,ys⟩:=N7.three;refine hK'.out _ _ (HS.out _ B7) ?_;try simp only[zz]
  refine rzl (h:=fun K' hK'=>?_);go_simp;refine hK'.out _ _ ?_;try simp only[zz]
  refine dz (h:=?_);have N9:=((N7.set 0 (.slice pf nf cf)).set 1 (.slice pr nr cr)).set 2 (.slice none 0 0);exact⟨W5.heap.size,pf,nf,cf,pr,nr,cr,rfl,t1 _ _ _ _ (by have:=Z5.out;omega) N6.lt,Zfg _ (Zfg _ (Zfg _ B7 lr 0 _) lr 1 _) lr 2 _,by simpa using N9,Yec _⟩
 rintro a' w7 ⟨fbx,pf,nf,cf,pr,nr,cr,rfl,j1,B7,hF,lf⟩;dsimp only;have HJ1:=Zaa j1;have HB7:=Zaa B7;have HF:=Zaa hF;have hb7:w7.heap[b]?=w.heap[b]?:=(B7.block b (by have:=Z5.out;omega)).trans (B5.block b lb);have m3:=(Yde (a:=⟨b,o+3,none⟩) hb7).trans k3;have m4:=(Yde (a:=⟨b,o+4,none⟩) hb7).trans k4;have m5:=(Yde (a:=⟨b,o+5,none⟩) hb7).trans k5;have m3':=fun ob=>(Yde (a:=⟨b,o+3,none⟩) ((Ydf w7 ob b (by have:=Zbi m3;exact this)).trans hb7)).trans k3;have m4':=fun ob=>(Yde (a:=⟨b,o+4,none⟩) ((Ydf w7 ob b (by have:=Zbi m3;exact this)).trans hb7)).trans k4;have m5':=fun ob=>(Yde (a:=⟨b,o+5,none⟩) ((Ydf w7 ob b (by have:=Zbi m3;exact this)).trans hb7)).trans k5;obtain⟨f0,f1,f2,fs⟩:=hF.three;have f0'':=fun ob ob'=>((hF.alloc ob).alloc ob').three.1;have f1'':=fun ob ob'=>((hF.alloc ob).alloc ob').three.2.1;have f2'':=fun ob ob'=>((hF.alloc ob).alloc ob').three.2.2.1;have f0':=fun ob=>(hF.alloc ob).three.1;have f1':=fun ob=>(hF.alloc ob).three.2.1;have f2':=fun ob=>(hF.alloc ob).three.2.2.1;clear j1 B7 hF hb7 k3 k4 k5 N1 N3 N4 hS0;go_wp2
 refine Ye7 2 ?_;rw[Ye5];go_wp2_with fail
 refine(H2.out _ _ _ _ _ _ _ (S1.out _ _ _ _ _ _ _ _ HJ1.out (((Ydb _ w7).alloc lr _).alloc (by simp) _))).mono ?_;rintro e w8 ⟨pf',nf',cf',pr',nr',cr',rfl,j2,hb8⟩;have HB8:=Zaa hb8;have HJ2:=Zaa j2;have SD:=Zaa ((Blk.new w7 #[.slice pf nf cf,.slice pr nr cr,.slice none 0 0] 45).alloc (.cells #[.slice fc nfc cfc,.slice rc nrc crc,.slice kc nkc ckc] 45) |>.of (hb8.block _ (by simp;omega)));have d0:=fun ob=>(SD.out.alloc ob).three.1;have d1:=fun ob=>(SD.out.alloc ob).three.2.1;have d2:=fun ob=>(SD.out.alloc ob).three.2.2.1;clear hb8 j2 f0 f1 f2 fs f0' f1' f2' f0'' f1'' f2'' m3 m4 m5 m3' m4' m5';go_wp2_with fail
 rw[Ye5];go_wp2_with fail
 generalize (Question.appendCap 2 1 45).cut (w8.tape w8.drawn (Question.appendCap 2 1 45))=cap;clear d0 d1 d2;obtain⟨W9,hW9⟩: ∃ W9,Box (((w8.alloc (.cells #[.slice pf' nf' cf',.slice pr' nr' cr',.slice none 0 0] 45)).alloc (.cells (#[.slice pf nf cf,.slice pr nr cr,.slice none 0 0]++(#[.slice pf' nf' cf',.slice pr' nr' cr',.slice none 0 0]++Builtin.zeroCells #[.slice none 0 0,.slice none 0 0,.slice none 0 0] (cap - 2))) 45)).drew=W9):=⟨_,⟨rfl⟩⟩;rw[hW9.out];have B9:Below w8.heap.size w8 W9:=hW9.out▸(((Ydb _ w8).alloc lr _).alloc (by simp) _).drew;have N9:Blk W9 (w8.heap.size+1) (#[.slice pf nf cf,.slice pr nr cr,.slice none 0 0]++(#[.slice pf' nf' cf',.slice pr' nr' cr',.slice none 0 0]++Builtin.zeroCells #[.slice none 0 0,.slice none 0 0,.slice none 0 0] (cap - 2))) 45:=hW9.out▸(Zpo w8 _ _ _).of rfl;have HN:Box (∀ u:World,u.heap[w8.heap.size+1]?=W9.heap[w8.heap.size+1]?->u.cell? ⟨w8.heap.size+1,0,none⟩=some (.slice pf nf cf)/\u.cell? ⟨w8.heap.size+1,1,none⟩=some (.slice pr nr cr)/\u.cell? ⟨w8.heap.size+1,2,none⟩=some (.slice none 0 0)/\u.cell? ⟨w8.heap.size+1,3,none⟩=some (.slice pf' nf' cf')/\u.cell? ⟨w8.heap.size+1,4,none⟩=some (.slice pr' nr' cr')/\u.cell? ⟨w8.heap.size+1,5,none⟩=some (.slice none 0 0)):=⟨fun u hu=>by
  have e:=N9.of hu;refine⟨(e.cell 0).trans ?_,(e.cell 1).trans ?_,(e.cell 2).trans ?_,(e.cell 3).trans ?_,(e.cell 4).trans ?_,(e.cell 5).trans ?_⟩
  ·rw[Yd6 (by simp)];rfl
  ·rw[Yd6 (by simp)];rfl
  ·rw[Yd6 (by simp)];rfl
  ·rw[Array.getElem?_append_right (by simp),Yd6 (by simp)];rfl
  ·rw[Array.getElem?_append_right (by simp),Yd6 (by simp)];rfl
  ·rw[Array.getElem?_append_right (by simp),Yd6 (by simp)];rfl⟩
 have J2':=Zaa (S2.out _ _ _ _ _ _ _ _ _ _ _ _ _ _ HJ2.out B9);have lN:=N9.lt;obtain⟨x0,x1,x2,x3,x4,x5⟩:=HN.out W9 rfl;have HB9:=Zaa B9;clear hW9 B9 N9;generalize w8.heap.size+1=kb9 at*;refine Ye7 3 ?_;rw[Ye5];go_wp2_with fail
 refine(H3.out _ _ _ _ _ _ _ _ _ _ _ _ _ (S2.out _ _ _ _ _ _ _ _ _ _ _ _ _ _ J2'.out ((Ydb _ W9).alloc lr _))).mono ?_;rintro e wA ⟨p1,rfl,j3,hbA⟩;have lA:W9.heap.size+1<=wA.heap.size:=by have:=hbA.size;simpa using this
 have kA:wA.heap[kb9]?=W9.heap[kb9]?:=(hbA.block kb9 (by simp;omega)).trans (Ydf _ _ _ lN);have HJ3:=Zaa j3;have HA:=Zaa hbA;have KA:=Zaa kA;clear x0 x1 x2 x3 x4 x5 j3 hbA kA;go_wp2_with (at_builtin;go_must (refine Za9 Zx6 rfl (.tmp 65) (.tmp 67) rfl Zvn.stable (fun _ _ _ _ h=>Zvn.one h) wA.heap.size (.slice none 0 0) [] [] rfl Zag.nil wA.heap.size #[.pointer (some ⟨p1,0,none⟩)] 204 (0,0) p1 [] rfl (Zaw _ _) rfl ⟨rfl,rfl⟩ (by simp) (by simp) (Za7.nil _ _) (Za7.nil _ _) (fun _ h=>by cases h) ?_);intro g1 cap1 wB F1 happ1;have HAP1:=Zaa happ1)
 clear happ1;have zB:wA.heap.size+1<=wB.heap.size:=by have:=HAP1.out.size;simpa using this
 have sB: ∀ k,k < wA.heap.size->wB.heap[k]?=wA.heap[k]?:=fun k hk=>(HAP1.out.same k (by simp;omega) (by simp)).trans (Ydf _ _ _ hk);have HB:Box (Below wA.heap.size wA wB):=⟨⟨HAP1.out.os,HAP1.out.tape,HAP1.out.output,by omega,sB⟩⟩;obtain⟨_,_,_,x3,x4,x5⟩:=HN.out wB ((sB kb9 (by omega)).trans KA.out);have J3':=Zaa (fun v (h1:wA.heap.size<=v.heap.size) (h2: ∀ k,k < wA.heap.size->v.heap[k]?=wA.heap[k]?)=>S3.out _ _ _ _ _ _ _ _ _ v HJ3.out h1 h2);have SB:=Zaa sB;clear sB;rw[Ye5];go_wp2_with fail
 refine(H4.out _ _ _ _ _ _ _ wA.heap.size _ (by simp;omega) (J3'.out _ (by simp;omega) fun k hk=>(Ydf _ _ _ (by omega)).trans (SB.out k hk))).mono ?_;rintro e wC ⟨p2,rfl,j4,hbC⟩;have zC:wB.heap.size+1<=wC.heap.size:=by have:=hbC.size;simpa using this
 have sC: ∀ k,k < wB.heap.size->wC.heap[k]?=wB.heap[k]?:=fun k hk=>(hbC.block k (by simp;omega)).trans (Ydf _ _ _ hk);have R1:Box (Zag 204 1 Zvn wC (.slice (some ⟨g1,0,none⟩) 1 cap1) [p1] F1):=⟨Zag.stable Zvn.stable _ _ _ _ _ HAP1.out.row fun j hj=>sC j (HAP1.out.new.lt j hj)⟩;have NN:Box (Za7 wA.heap.size wC F1):=⟨HAP1.out.new.later lr (by omega)⟩;have HJ4:=Zaa j4;have HC:=Zaa hbC;have SC:=Zaa sC;clear j4 hbC sC x3 x4 x5;go_wp2_with (at_builtin;go_must (refine Za9 Zx6 rfl (.tmp 65) (.tmp 67) rfl Zvn.stable (fun _ _ _ _ h=>Zvn.one h) wA.heap.size (.slice (some ⟨g1,0,none⟩) 1 cap1) [p1] F1 rfl (Zag.stable Zvn.stable _ _ _ _ _ R1.out fun j hj=>Ydf _ _ _ (NN.out.lt j hj)) wC.heap.size #[.pointer (some ⟨p2,0,none⟩)] 204 (0,0) p2 [] rfl (Zaw _ _) rfl ⟨rfl,rfl⟩ (by simp) (by simp;omega) (NN.out.later lr (by simp)) (Za7.nil _ _) (fun _ _ h=>by cases h) ?_);intro g2 cap2 wD F2 happ2;have HAP2:=Zaa happ2)
 clear happ2;rw[Ye5];go_wp2
 go_ret2
 have zD:wC.heap.size+1<=wD.heap.size:=by have:=HAP2.out.size;simpa using this
 have b7:Below w.heap.size w w7:=B5.trans (HB7.out.mono B5.size);have b8:Below w.heap.size w w8:=((b7.alloc b7.size _).alloc (by have:=b7.size;simp;omega) _).trans (HB8.out.mono (by have:=b7.size;simp;omega));have b9:Below w.heap.size w W9:=b8.trans (HB9.out.mono b8.size);have bA:Below w.heap.size w wA:=(b9.alloc b9.size _).trans (HA.out.mono (by have:=b9.size;simp;omega));have bB:Below w.heap.size w wB:=bA.trans (HB.out.mono bA.size);have bC:Below w.heap.size w wC:=(bB.alloc bB.size _).trans (HC.out.mono (by have:=bB.size;simp;omega));have lo: ∀ k,k∈F1->wA.heap.size<=k/\k < wB.heap.size:=fun k hk=>⟨NN.out.ge k hk,HAP1.out.new.lt k hk⟩;have sD: ∀ k,k < wC.heap.size->k∉F1->wD.heap[k]?=wC.heap[k]?:=fun k hk hn=>(HAP2.out.same k (by simp;omega) hn).trans (Ydf _ _ _ hk);have zA:=bA.size;have hg2:=HAP2.out.row.own;refine⟨g2,p1,p2,cap2,_,_,_,rfl,⟨Zvn.cells HAP2.out.row 0 p1 rfl,Zvn.cells HAP2.out.row 1 p2 rfl⟩,S4.out _ _ _ _ _ wC wD HJ4.out (by omega) (fun k hk h=>sD k hk fun hF=>?_),by simp;omega,by simp;omega,?_,HAP2.out.new.lt _ hg2,⟨HAP2.out.os.trans bC.os,HAP2.out.tape.trans bC.tape,HAP2.out.output.trans bC.output,by have:=bC.size;omega,fun k hk=>?_⟩⟩
 ·have:=lo k hF
  simp at h;omega
 ·rcases HAP2.out.sub g2 hg2 with h | h | h
  ·have:=lo g2 h
   exact .inl ⟨this.1,by simp;omega⟩
  ·cases h
  ·exact .inr (by simp at h;omega)
 ·exact(sD k (by omega) fun hF=>by have:=lo k hF;omega).trans (bC.block k hk)
end Go.P
namespace Go.P
attribute [local go_sem] Yea
theorem Z51 {w:World}{p b o c n n3:Nat}{hn:ByteArray}{pt pb pg:Option Addr}{nt ct nb cb ng cg:Nat}{J0:Nat->World->Prop}{J1 J2 J3 J4 J5:Nat->Nat->World->Prop}
  (r0:w.cell? ⟨b,o,none⟩=some (.string hn)) (r1:w.cell? ⟨b,o+1,none⟩=some (.slice pt nt ct)) (r2:w.cell? ⟨b,o+2,none⟩=some (.slice pb nb cb)) (r3:w.cell? ⟨b,o+3,none⟩=some (.slice pg ng cg)) (hn3:((n3:Int)==(n:Int))=false)
  (CB: ∀ u,Below w.heap.size w u->Calls prog 217 #[.pointer (some ⟨p,0,none⟩),.agg #[.string hn,.slice pt nt ct,.slice pb nb cb,.slice pg ng cg]] u fun e w'=> ∃ q,e= .returned (.pointer (some ⟨q,0,none⟩))/\J0 q w')
  (h01: ∀ q u v k,J0 q u->Below u.heap.size u v->u.heap.size<=k->k < v.heap.size->J1 q k v)
  (h1: ∀ q k u,J1 q k u-> ∃ g c,u.cell? ⟨p,0,none⟩=some (.slice g n c)) (h3: ∀ q k u,J3 q k u-> ∃ g c,u.cell? ⟨p,0,none⟩=some (.slice g n3 c)) (h5: ∀ q k u,J5 q k u-> ∃ g c,u.cell? ⟨p,0,none⟩=some (.slice g n3 c))
  (CL1: ∀ q k u,J1 q k u->Calls prog 218 #[.pointer (some ⟨q,0,none⟩),.int .i64 0,.int .i64 (n:Int)] u fun e w'=>e= .returned (.tuple #[])/\J2 q k w'/\w'.heap[k]?=u.heap[k]?)
  (CF1: ∀ q k u,J2 q k u->Calls prog 219 #[.pointer (some ⟨q,0,none⟩),.int .i64 0] u fun e w'=>e= .returned (.bool true)/\J3 q k w'/\w'.heap[k]?=u.heap[k]?)
  (CL2: ∀ q k u,J3 q k u->Calls prog 218 #[.pointer (some ⟨q,0,none⟩),.int .i64 (n:Int),.int .i64 (n3:Int)] u fun e w'=>e= .returned (.tuple #[])/\J4 q k w'/\w'.heap[k]?=u.heap[k]?)
  (CF2: ∀ q k u,J4 q k u->Calls prog 219 #[.pointer (some ⟨q,0,none⟩),.int .i64 (n:Int)] u fun e w'=>e= .returned (.bool true)/\J5 q k w'/\w'.heap[k]?=u.heap[k]?):
  Calls prog 189 #[.pointer (some ⟨p,0,none⟩),.slice (some ⟨b,o,none⟩) 1 c] w fun e w'=>e= .returned (.bool true)/\ ∃ q k,J5 q k w':=by
 have HB:=Zaa CB;have HL1:=Zaa CL1;have HF1:=Zaa CF1;have HL2:=Zaa CL2;have HF2:=Zaa CF2;have H01:=Zaa h01;have H1:=Zaa h1;have H3:=Zaa h3;have H5:=Zaa h5;clear CB CL1 CF1 CL2 CF2 h01 h1 h3 h5;refine Yfn func189 rfl ?_;simp only[ntmps189,Ydn,Ydp,Ydt,Nat.reduceAdd,Nat.reduceSub,Ydx,Ydw,Yd2,Ydz,Ydy,Ydv];go_wp2
 refine Ye7 2 ?_;rw[Ye5];go_wp2_with fail
 refine(HB.out _ ((Ydb _ w).alloc lr _)).mono ?_;rintro e w1 ⟨q,rfl,j0⟩;have HJ0:=Zaa j0;clear j0;go_wp2_with fail
 rw[Ye5];go_wp2_with fail
 generalize (Question.appendCap 1 0 330).cut (w1.tape w1.drawn (Question.appendCap 1 0 330))=cap;obtain⟨W1,hW1⟩: ∃ W1,Box (((w1.alloc (.cells #[.pointer (some ⟨q,0,none⟩)] 330)).alloc (.cells (#[.pointer (some ⟨q,0,none⟩)]++Builtin.zeroCells #[.pointer none] (cap - 1)) 330)).drew=W1):=⟨_,⟨rfl⟩⟩;rw[hW1.out];have B1:Below w1.heap.size w1 W1:=hW1.out▸(((Ydb _ w1).alloc lr _).alloc (by simp) _).drew;have kb:Blk W1 (w1.heap.size+1) (#[.pointer (some ⟨q,0,none⟩)]++Builtin.zeroCells #[.pointer none] (cap - 1)) 330:=hW1.out▸(Zpo w1 _ _ _).of rfl;have kc: ∀ u:World,u.heap[w1.heap.size+1]?=W1.heap[w1.heap.size+1]?->u.cell? ⟨w1.heap.size+1,0,none⟩=some (.pointer (some ⟨q,0,none⟩)):=fun u hu=>((kb.of hu).cell 0).trans (by rw[Yd6 (by simp)];rfl);have HK:=Zaa kc;have k0:=kc W1 rfl;have j1:=H01.out q w1 W1 (w1.heap.size+1) HJ0.out B1 (by omega) kb.lt;obtain⟨g,c',p0⟩:=H1.out _ _ _ j1;have J1':=Zaa j1;clear j1 kc B1;generalize w1.heap.size+1=k at*;refine Ye7 2 ?_;rw[Ye5];go_wp2
 refine Ye7 2 ?_;rw[Ye5];go_wp2_with fail
 refine(HL1.out q k W1 J1'.out).mono ?_;rintro e w2 ⟨rfl,j2,e2⟩;have J2':=Zaa j2;have E2:=Zaa e2;clear j2 e2 p0 k0;go_wp2_with fail
 refine(HF1.out q k w2 J2'.out).mono ?_;rintro e w3 ⟨rfl,j3,e3⟩;have k0:=HK.out w3 (e3.trans E2.out);have E3:=Zaa (e3.trans E2.out);obtain⟨g3,c3,p0⟩:=H3.out _ _ _ j3;have J3':=Zaa j3;clear j3 e3 E2;go_wp2_with fail
 rw[Ye5];go_wp2_with fail
 rw[Ye5];go_wp2
 refine Ye7 2 ?_;rw[Ye5];go_wp2_with fail
 refine(HL2.out q k w3 J3'.out).mono ?_;rintro e w4 ⟨rfl,j4,e4⟩;have J4':=Zaa j4;have E4:=Zaa (e4.trans E3.out);clear j4 e4 p0 k0 E3;go_wp2_with fail
 refine(HF2.out q k w4 J4'.out).mono ?_;rintro e w5 ⟨rfl,j5,e5⟩;have k0:=HK.out w5 (e5.trans E4.out);obtain⟨g5,c5,p0⟩:=H5.out _ _ _ j5;have J5':=Zaa j5;clear j5 e5 E4;go_wp2_with fail
 rw[Ye5];go_wp2
 go_ret
 exact⟨rfl,q,k,J5'.out⟩
end Go.P
namespace Go.W
variable {P:Program}{w:World}{ty:TypeId}{r bm:Nat}
theorem Z6s {e:MapEntry}(hr:w.heap[r]?=some (.mapIter (some bm) 1 #[] 1))(hb:w.heap[bm]?=some (.map #[e] 1))(h0:e.born=0):(Instr.next (.pointer (some ⟨r,0,none⟩)) false ty).run P w= .ok (.tuple #[.bool true,e.key,e.val]) {w with heap:=w.heap.setIfInBounds r (.mapIter (some bm) 1 #[0] 1)}:=by
 simp[Instr.next,getObj,Ye2,Sem.run,hr,hb,Result.andThen,h0,choose,Question.forced,setObj]
theorem Z3z {e:MapEntry}(hr:w.heap[r]?=some (.mapIter (some bm) 1 #[0] 1))(hb:w.heap[bm]?=some (.map #[e] 1))(h0:e.born=0):(Instr.next (.pointer (some ⟨r,0,none⟩)) false ty).run P w= .ok (.tuple #[.bool false]) w:=by
 simp[Instr.next,getObj,Ye2,Sem.run,hr,hb,Result.andThen,h0,choose,Question.forced]
end Go.W
namespace Go.P
attribute [local go_sem] Yea
section
variable {w w':World} {q p m:Nat} {cs:Array Value} {at_:List Pt} {gs:List Gt} {S:List Nat} {fs fs':List (ByteArray×Nat)} {vs vs':List T} {F F':List Nat} {xs:List (ByteArray×Nat)} {ov:Value} {Fo:List Nat}
theorem Ctx.grow (h:Ctx w q p m cs at_ gs S fs vs F xs ov Fo)(hw:Zd3 w' p fs' vs' F')(ho:Off F w w')(hs: ∀ i,i∈F'->i∈F\/w.heap.size<=i):Ctx w' q p m cs at_ gs S fs' vs' F' xs ov Fo:=by
 refine⟨h.bd.off ho fun j hj q=>(h.dB j hj).1 q,h.rd.of ho.size (fun k hk=>ho.block k (h.rd.lS k hk) fun q=>(h.dF k q).1 hk) ⟨rfl,fun _ _=>rfl⟩,hw,h.gl.of ho fun j hj=>(h.dF j hj).2,fun j hj=>⟨fun e=>?_,(h.dB j hj).2⟩,fun j hj=>?_⟩
 ·rcases hs j e with e | e
  ·exact(h.dB j hj).1 e
  ·have:=h.bd.lt j hj;omega
 ·rcases hs j hj with e | e
  ·exact h.dF j e
  ·exact⟨fun q=>by have:=h.rd.lS j q;omega,Ydc h.gl.2.2 e⟩
theorem Z49 (h:Ctx w q p m cs at_ gs S fs vs F [] ov Fo){b v:Nat}(hw:Zjj w q b v)(l0 l1 l2 l3:Nat)(CH: ∀ u,Below w.heap.size w u->Calls prog 222 #[.pointer (some ⟨q,0,none⟩),.agg #[.int .u64 (l0:Int),.int .u64 (l1:Int),.int .u64 (l2:Int),.int .u64 (l3:Int)]] u fun e w'=>e= .returned (.bool true)/\Below u.heap.size u w'){gh ch:Nat}{y:ByteArray}(c5:cs[5]?=some (.slice (some ⟨gh,0,none⟩) 1 ch))(hgS:gh∈S)(g0:w.cell? ⟨gh,0,none⟩=some (.string y))(g1:w.cell? ⟨gh,1,none⟩=some (.int .i64 0))(g2:w.cell? ⟨gh,2,none⟩=some (.int .i64 0)){n:Nat}{fx:ByteArray×Nat}(hf:fs[n]?=some fx)(hs:l0 < 8)(hn:Za5 l0=[n])(hbB: ∀ j,j∈q::m::(Fo++F)->j≠b/\j≠v)
  (CW: ∀ u ov' Fo',Ctx u q p m cs at_ gs S fs vs F [(y,fx.2)] ov' Fo'->Zjj u q b v->Off (q::m::Fo) w u->Calls prog 268 #[.int .i64 1,.agg #[.int .u64 ((2 ^ n:Nat):Int),.int .u64 (l1:Int),.int .u64 (l2:Int),.int .u64 (l3:Int)],.pointer (some ⟨b,0,none⟩),.pointer (some ⟨v,0,none⟩)] u fun e w'=>e= .returned (.bool true)/\ ∃ F',Zd3 w' p fs' vs F'/\Off F u w'/\ ∀ i,i∈F'->i∈F\/u.heap.size<=i):
  Calls prog 268 #[.int .i64 0,.agg #[.int .u64 (l0:Int),.int .u64 (l1:Int),.int .u64 (l2:Int),.int .u64 (l3:Int)],.pointer (some ⟨b,0,none⟩),.pointer (some ⟨v,0,none⟩)] w fun e w'=>e= .returned (.bool true)/\ ∃ ov' Fo' F',Ctx w' q p m cs at_ gs S fs' vs F' [] ov' Fo'/\Off (q::m::Fo++F) w w'/\(∀ i,i∈F'->i∈F\/w.heap.size<=i)/\ ∀ i,i∈Fo'->i∈Fo\/w.heap.size<=i:=by
 obtain⟨po,co,rfl⟩:=h.bd.row.form;have HX:Box (∀ u,Below w.heap.size w u->u.cell? ⟨b,0,none⟩=some (.pointer (some ⟨q,0,none⟩))/\u.cell? ⟨q,5,none⟩=some (.slice (some ⟨gh,0,none⟩) 1 ch)/\u.cell? ⟨q,7,none⟩=some (.slice po ((([]:List (ByteArray×Nat)).map (·.1)).length) co)/\u.cell? ⟨gh,0,none⟩=some (.string y)/\u.cell? ⟨gh,1,none⟩=some (.int .i64 0)/\u.cell? ⟨gh,2,none⟩=some (.int .i64 0)):=⟨fun u hu=>by
  have h':=h.below hu;have hl:=h.rd.lS gh hgS;exact⟨(hw.below hu).1.one.1,(h'.cell 5 (by omega)).trans c5,h'.bd.cells.2.1,(Yde (a:=⟨gh,0,none⟩) (hu.block gh hl)).trans g0,(Yde (a:=⟨gh,1,none⟩) (hu.block gh hl)).trans g1,(Yde (a:=⟨gh,2,none⟩) (hu.block gh hl)).trans g2⟩⟩
 have c0: ∀ o,(w.alloc o).cell? ⟨b,0,none⟩=_:=fun o=>(hw.1.alloc o).one.1;have HC:=Zaa (fun o=>CH (w.alloc o) ((Ydb _ w).alloc lr o));have CC:=Zaa (fun u (hu:Below w.heap.size w u)=>Zvy (h.below hu) hf hs hn y 0);have H:=Zaa h;have HW:=Zaa hw;have CW':=Zaa CW;clear h hw CH CW c5 g0 g1 g2;simp only[List.map_nil,Ydt]at HX;refine Yfn func268 rfl ?_;simp only[ntmps268,Ydn,Ydp,Ydt,Nat.reduceAdd,Nat.reduceSub,Ydx,Ydw,Yd2,Ydz,Ydy,Ydv];go_wp2_with fail
 refine(HC.out _).mono ?_;rintro e w5 ⟨rfl,hb⟩;have HB:=Zaa (((Ydb _ w).alloc lr _).trans (hb.mono (by simp)));have L0:=Zaa ((Blk.new w #[.int .u64 (l0:Int),.int .u64 (l1:Int),.int .u64 (l2:Int),.int .u64 (l3:Int)] 341).of (hb.block w.heap.size (by simp)));obtain⟨b0,q5,q7,y0,y1,y2⟩:=HX.out _ HB.out;obtain⟨W6,hW6⟩: ∃ W6,Box (w5.alloc (.cells #[.string y,.int .i64 0,.int .i64 0] 391)=W6):=⟨_,⟨rfl⟩⟩;have B6:=Zaa (HB.out.trans (hW6.out▸(Ydb _ w5).alloc HB.out.size (.cells #[.string y,.int .i64 0,.int .i64 0] 391)));have N6:=Zaa (hW6.out▸Blk.new w5 #[.string y,.int .i64 0,.int .i64 0] 391);have L6:=Zaa (hW6.out▸L0.out.alloc (.cells #[.string y,.int .i64 0,.int .i64 0] 391));have hb0: ∀ o,(w5.alloc o).cell? ⟨b,0,none⟩=_:=fun o=>(HX.out _ (HB.out.alloc HB.out.size o)).1;have hq7: ∀ o,(w5.alloc o).cell? ⟨q,7,none⟩=_:=fun o=>(HX.out _ (HB.out.alloc HB.out.size o)).2.2.1;clear hb;go_wp2_with fail
 rw[hW6.out];have sz6:W6.heap.size=w5.heap.size+1:=by rw[<- hW6.out];simp
 have lw5:w.heap.size < w5.heap.size:=L0.out.lt;have HS:Box (∀ u,Below W6.heap.size W6 u->u.cell? ⟨b,0,none⟩=some (.pointer (some ⟨q,0,none⟩))/\u.cell? ⟨w5.heap.size,0,none⟩=some (.string y)/\u.cell? ⟨w5.heap.size,1,none⟩=some (.int .i64 0)/\u.cell? ⟨w5.heap.size,2,none⟩=some (.int .i64 0)/\u.cell? ⟨w.heap.size,0,none⟩=some (.int .u64 (l0:Int))):=⟨fun u hu=>by
  have n6:=(N6.out.of (hu.block _ N6.out.lt)).three;exact⟨(HX.out u (tr B6 hu).out).1,n6.1,n6.2.1,n6.2.2.1,(L6.out.of (hu.block _ L6.out.lt)).four.1⟩⟩
 have hS0:=HS.out W6.drew (Ydb _ W6).drew;clear hb0 hq7 b0 q5 q7 y0 y1 y2 c0;refine Yfl (S:=fun u=>u.cell? ⟨b,0,none⟩=some (.pointer (some ⟨q,0,none⟩))/\u.cell? ⟨w5.heap.size,0,none⟩=some (.string y)/\u.cell? ⟨w5.heap.size,1,none⟩=some (.int .i64 0)/\u.cell? ⟨w5.heap.size,2,none⟩=some (.int .i64 0)/\u.cell? ⟨w.heap.size,0,none⟩=some (.int .u64 (l0:Int))) (by kernel_rfl) ?_;change wpAnyH _ _ _ _ _ _ _ _ (World.drew _);refine tk 0 (.pointer (some ⟨q,0,none⟩)) hS0 (hy:=fun _ ⟨s0,s1,s2,s3,s4⟩=>by go_simp) ?_;try simp only[zz]
 refine tk 1 (.agg #[.string y,.int .i64 0,.int .i64 0]) hS0 (hy:=fun _ ⟨s0,s1,s2,s3,s4⟩=>by go_simp) ?_;try simp only[zz]
 refine tk 2 (.pointer (some ⟨w5.heap.size,1,none⟩)) hS0 ?_;try simp only[zz]
 refine tk 3 (.int .i64 0) hS0 (hy:=fun _ ⟨s0,s1,s2,s3,s4⟩=>by go_simp) ?_;try simp only[zz]
 refine tk 4 (.pointer (some ⟨w.heap.size,0,none⟩)) hS0 ?_;try simp only[zz]
 refine tk 5 (.int .u64 (l0:Int)) hS0 (hy:=fun _ ⟨s0,s1,s2,s3,s4⟩=>by go_simp) ?_;try simp only[zz]
 refine Yfc (rs:=[6]) (by kernel_rfl) (by simp) (Ydr rfl (fun K' hK'=>?_) Ydu);go_simp;refine(CC.out _ B6.out.drew).mono ?_;rintro e w8 ⟨r,rfl,hr,hm8,hb8⟩;have hr6:W6.heap.size<=r:=hr;have B8:Below W6.heap.size W6 w8:=(Ydb _ W6).drew.trans hb8;have hS8:=HS.out w8 B8;have hrg:=run_range_map (P:=prog) w8 398 _ _ r _ _ underlying398 hm8;refine hK'.out _ _ hS8 fun _=>?_;try simp only[zz]
 refine Yfc (rs:=[7]) (by kernel_rfl) (by simp) (Ydr rfl (fun K' hK'=>?_) Ydu);go_simp;obtain⟨W9,hW9⟩: ∃ W9,Box (w8.alloc (.mapIter (some r) 1 #[] 1)=W9):=⟨_,⟨rfl⟩⟩;have B9:Below W6.heap.size W6 W9:=B8.trans (hW9.out▸(Ydb _ w8).alloc B8.size _);have hS9:=HS.out W9 B9;rw[hW9.out];refine hK'.out _ _ hS9 fun _=>?_;try simp only[zz]
 refine Yfi (by kernel_rfl) ?_ _;have l8:r < w8.heap.size:=(Ydo.1 hm8).1;have m9:W9.heap[r]?=_:=(hW9.out▸Ydf w8 _ r l8).trans hm8;have i9:W9.heap[w8.heap.size]?=some (.mapIter (some r) 1 #[] 1):=hW9.out▸World.alloc_heap_new w8 _;obtain⟨WA,hWA⟩: ∃ WA,Box ({W9 with heap:=W9.heap.setIfInBounds w8.heap.size (.mapIter (some r) 1 #[0] 1)}=WA):=⟨_,⟨rfl⟩⟩;have hnx:=fun ty=>Z6s (P:=prog) (ty:=ty) i9 m9 rfl;rw[hWA.out]at hnx;have sz9:W9.heap.size=w8.heap.size+1:=by rw[<- hW9.out];simp
 have nA: ∀ j,j≠w8.heap.size->WA.heap[j]?=W9.heap[j]?:=fun j hj=>by rw[<- hWA.out];exact Array.getElem?_setIfInBounds_ne (Ne.symm hj)
 have szA:WA.heap.size=w8.heap.size+1:=by rw[<- hWA.out,<- sz9];simp
 have iA:WA.heap[w8.heap.size]?=some (.mapIter (some r) 1 #[0] 1):=by rw[<- hWA.out];exact Array.getElem?_setIfInBounds_self_of_lt (by omega)
 have mA:=(nA r (by omega)).trans m9;have l68:W6.heap.size<=w8.heap.size:=B8.size;have BA:Below W6.heap.size W6 WA:=B9.trans ⟨by rw[<- hWA.out],by rw[<- hWA.out],by rw[<- hWA.out],by omega,fun j hj=>nA j (by omega)⟩;have hen:=run_entry_at (P:=prog) WA w8.heap.size r 1 #[] #[{key:= .int .i64 (fx.2:Int),val:= .int .u64 ((2 ^ n:Nat):Int),born:=0}] 1 {key:= .int .i64 (fx.2:Int),val:= .int .u64 ((2 ^ n:Nat):Int),born:=0} iA mA (by simp) (by simp);dsimp only at hen hnx;have hSA:=HS.out WA.drew BA.drew;have BW:=tr B6 BA;have CB:=Zaa (Zxz (H.out.below BW.out.drew).bd y fx.2 rfl (by simp));have LA:=Zaa (L6.out.of (BA.block _ L6.out.lt));have NA:=Zaa (N6.out.of (BA.block _ N6.out.lt));have IM:=Zaa (Yda iA mA);have hql: ∀ j,j∈q::m::Fo->j < w.heap.size:=H.out.bd.lt;clear hS0 hS8 hrg CC iA mA i9 m9 nA BA B9 B8 hb8 hm8 hS9;generalize hz:2 ^ n=z at*;go_wp2
 refine Ye7 2 ?_;rw[Ye5];go_wp2_with fail
 refine Yfl (S:=fun u=>u.cell? ⟨b,0,none⟩=some (.pointer (some ⟨q,0,none⟩))/\u.cell? ⟨w5.heap.size,0,none⟩=some (.string y)/\u.cell? ⟨w5.heap.size,1,none⟩=some (.int .i64 0)/\u.cell? ⟨w5.heap.size,2,none⟩=some (.int .i64 0)/\u.cell? ⟨w.heap.size,0,none⟩=some (.int .u64 (l0:Int))) (by kernel_rfl) ?_;change wpAnyH _ _ _ _ _ _ _ _ (World.drew _);refine tk 0 (.pointer (some ⟨q,0,none⟩)) hSA (hy:=fun _ ⟨s0,s1,s2,s3,s4⟩=>by go_simp) ?_;try simp only[zz]
 refine tk 1 (.pointer (some ⟨q,0,none⟩)) hSA ?_;try simp only[zz]
 refine tk 2 (.pointer (some ⟨q,6,none⟩)) hSA ?_;try simp only[zz]
 refine tk 3 (.pointer (some ⟨w5.heap.size,0,none⟩)) hSA ?_;try simp only[zz]
 refine tk 4 (.string y) hSA (hy:=fun _ ⟨s0,s1,s2,s3,s4⟩=>by go_simp) ?_;try simp only[zz]
 refine tk 5 (.int .i64 (fx.2:Int)) hSA ?_;try simp only[zz]
 refine Yfc (rs:=[6]) (by kernel_rfl) (by simp) (Ydr rfl (fun K' hK'=>?_) Ydu);go_simp;refine CB.out.mono ?_;rintro e wB ⟨rfl,ovB,FB,hbB',hoB,hsB⟩;have hap: ∀ j,j∈q::m::Fo->j∈q::m::(Fo++F):=fun j h=>by simp only[Ydj,Ydk]at h⊢;rcases h with h | h | h <;> simp[h]
 have nn: ∀ j,w.heap.size<=j->j∉q::m::Fo:=fun j hj h=>by have:=hql j h;omega
 have hBl: ∀ j,w.heap.size<=j->j < WA.heap.size->wB.heap[j]?=WA.heap[j]?:=fun j h1 h2=>hoB.block j h2 (nn j h1);have lbA:b < WA.heap.size:=Ydh HW.out.1.lt BW.out.size;have lvA:v < WA.heap.size:=Ydh HW.out.2.lt BW.out.size;have LB:=LA.out.of (hBl _ lr LA.out.lt);have NB:=NA.out.of (hBl _ (by omega) NA.out.lt);have TB:Zjj wB q b v:=⟨(HW.out.below BW.out).1.of (hoB.block b lbA fun h=>(hbB b (hap _ h)).1 rfl),(HW.out.below BW.out).2.of (hoB.block v lvA fun h=>(hbB v (hap _ h)).2 rfl)⟩;have XB:=(H.out.below BW.out.drew).step hbB' hoB hsB ⟨rfl,fun _ _=>rfl⟩;refine hK'.out _ _ ⟨TB.1.one.1,NB.three.1,NB.three.2.1,NB.three.2.2.1,LB.four.1⟩ fun _=>?_;try simp only[zz]
 refine Yfi (by kernel_rfl) ?_ _;obtain⟨WC,hWC⟩: ∃ WC,Box (wB.setCell ⟨w.heap.size,0,none⟩ (.int .u64 (z:Int))=WC):=⟨_,⟨rfl⟩⟩;have lBA:WA.heap.size<=wB.heap.size:=hoB.size;have OC:Off [w.heap.size] wB WC:=hWC.out▸(Off.refl _ wB).set w.heap.size 0 _ (by simp);have hsB': ∀ i,i∈FB->i∈Fo\/WA.heap.size<=i:=hsB;have nFB: ∀ j,w.heap.size<=j->j < WA.heap.size->j∉q::m::FB:=fun j h1 h2 h=>by
  simp only[Ydj]at h;rcases h with rfl | rfl | h
  ·have:=hql j (by simp);omega
  ·have:=hql j (by simp);omega
  ·rcases hsB' j h with h | h
   ·have:=hql j (by simp[h]);omega
   ·omega
 have hFl: ∀ j,j∈F->j < w.heap.size:=fun j hj=>H.out.wd.lt j hj;have XC:=XB.other OC fun j hj=>by
  obtain rfl:=Yeb.1 hj;exact⟨nFB _ lr LA.out.lt,fun h=>by have:=hFl _ h;omega,fun h=>by have:=H.out.rd.lS _ h;omega,H.out.gl.2.2⟩
 have hbw:b≠w.heap.size:=by have:=HW.out.1.lt;omega
 have hvw:v≠w.heap.size:=by have:=HW.out.2.lt;omega
 have TC:Zjj WC q b v:=⟨TB.1.of (OC.block b TB.1.lt (by simpa using hbw)),TB.2.of (OC.block v TB.2.lt (by simpa using hvw))⟩;have OWC:Off (q::m::Fo) w WC:=((Off.of BW.out).drew.trans hoB fun _ h=> .inl h).trans OC fun i h=> .inr (by simp at h;omega);have LC:Blk WC w.heap.size #[.int .u64 (z:Int),.int .u64 (l1:Int),.int .u64 (l2:Int),.int .u64 (l3:Int)] 341:=hWC.out▸LB.set 0 _;have CWC:=Zaa (CW'.out WC ovB FB XC TC OWC);obtain⟨k0,k1,k2,k3,ks⟩:=LC.four;obtain⟨j0,j1,j2,j3,js⟩:=LB.four;have n1:=NB.three.2.1;have n1':=fun a x=>(NB.away w.heap.size a (by omega) x).three.2.1;have vC:=TC.2.one.1;have henT: ∀ args w,(callFunc 268 args).run prog w= .ok (.enter 268 args) w:=Zam func268 (by kernel_rfl) rfl;have hFB: ∀ i,i∈FB->i∈Fo\/w.heap.size<=i:=fun i hi=>(hsB' i hi).imp id (by omega);have XX:=Zaa (Yda XC (Yda OWC (Yda TC (Yda hsB' OC))));have HBl:=Zaa hBl;rw[<- hWC.out]at vC k0 k1 k2 k3;clear hsB hsB' XB XC TB TC OC OWC LB LC NB hbB' hoB hBl;go_wp2_with fail
 rw[hWC.out];refine CWC.out.mono ?_;rintro e wD ⟨rfl,F',hwD,hoD,hsD⟩;obtain⟨XC,OWC,TC,hsB,OC⟩:=XX.out;have XD:=XC.grow hwD hoD hsD;have hsC:=OC.size;have hF': ∀ i,i∈F'->i∈F\/w.heap.size<=i:=fun i hi=>(hsD i hi).imp id fun h=>Ydc OWC.size h;have bD:=(TC.1.of (hoD.block b TC.1.lt fun h=>(hbB b (by simp[h])).1 rfl)).one.1;have CFr:=Zaa (Zif XD.bd (by simp));have nD: ∀ j,w.heap.size < j->j < WA.heap.size->wD.heap[j]?=WA.heap[j]?:=fun j h1 h2=>((hoD.block j (by omega) fun h=>by have:=hFl j h;omega).trans (OC.block j (by omega) (by simp;omega))).trans (HBl.out j (by omega) h2);have YY:=Zaa (Yda XD (Yda hoD (Yda hF' (Yda nD OWC))));clear XD hoD hF' nD hwD hsD XC OWC TC hsB OC XX HBl CWC vC k0 k1 k2 k3 ks j0 j1 j2 j3 js n1 n1';go_wp2_with fail
 refine CFr.out.mono ?_;rintro e wE ⟨rfl,ovE,hbE,hoE⟩;obtain⟨XD,hoD,hF',nD,OWC⟩:=YY.out;have XE:=XD.step hbE hoE (fun _ h=> .inl h) ⟨rfl,fun _ _=>rfl⟩;have hsC:WA.heap.size<=wD.heap.size:=by have:=hoD.size;omega
 have nE: ∀ j,w.heap.size < j->j < WA.heap.size->wE.heap[j]?=WA.heap[j]?:=fun j h1 h2=>(hoE.block j (by omega) (nFB j (by omega) h2)).trans (nD j h1 h2);have hdn:=fun ty=>Z3z (P:=prog) (ty:=ty) ((nE w8.heap.size (by omega) (by omega)).trans IM.out.1) ((nE r (by omega) (by omega)).trans IM.out.2) rfl;have ZZ:=Zaa (Yda XE (Yda hoE (Yda hoD (Yda hF' OWC))));clear OWC XD hoD hF' nD XE hoE hbE nE;go_wp2_with fail
 rw[Ye5];go_wp2
 go_ret
 obtain⟨XE,hoE,hoD,hF',OWC⟩:=ZZ.out;refine⟨rfl,ovE,FB,F',XE,((OWC.mono fun i hi=>Yei F hi).trans hoD fun i hi=> .inl (Yed _ hi)).trans hoE fun i hi=>?_,hF',hFB⟩;simp only[Ydj,Ydk]at hi⊢;rcases hi with h | h | h
 ·exact .inl (.inl (.inl h))
 ·exact .inl (.inl (.inr (.inl h)))
 ·exact(hFB i h).imp (fun h=> .inl (.inr (.inr h))) id
end
end Go.P
