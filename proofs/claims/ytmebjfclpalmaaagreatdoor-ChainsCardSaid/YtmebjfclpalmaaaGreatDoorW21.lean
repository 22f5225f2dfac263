import Derived.Test.YtmebjfclpalmaaaGreatDoorW11
import Derived.Test.YtmebjfclpalmaaaGreatDoorW20
import Derived.Test.YtmebjfclpalmaaaGreatDoorRows
import Derived.Lib.LaidU8T
import Derived.ProofKit
import Derived.LaidMore
import Derived.OpenShut
import Derived.Stop.Joined
import Derived.Stop.LaidErr
set_option maxRecDepth 100000
set_option maxHeartbeats 8000000
set_option linter.unusedSimpArgs false
open Go.Proofs Go.RowKit Go.W Tryz Go.Proofs.YtmebjfclpalmaaaGreatDoor
namespace Go.P
open Go.RowKit Go.Extern.Stop Go.Stop Go.Extern Go.W
variable {a:Nat->Addr}{w:World}
structure Zjs (a:Nat->Addr) (w:World):Prop where
 row: ∀ k,k < 10-> ∃ c t,w.heap[(a k).block]?=some (.cells c t (0,0))
 apart: ∀ i j,i < 10->j < 10->i≠j->a i≠a j
 et:w.cell? ⟨10,0,none⟩=some (.iface 210 (.agg #[.pointer (some ⟨23,62,none⟩)]))
theorem Zjs.below {w':World}(g:Zjs a w)(hb:Below w.heap.size w w'):Zjs a w' where
 row:=fun k hk=>by
  obtain⟨c,t,h⟩:=g.row k hk;exact⟨c,t,by rw[hb.block _ (Ydo.1 h).1];exact h⟩
 apart:=g.apart
 et:=Zab g.et hb
theorem Zyh (g:Zjs a w)(k i:Nat)(hk:k < 10)(hi:i < 10):
  Calls prog 37 #[.iface 403 (.pointer (some (a k))),.iface 403 (.pointer (some (a i)))] w fun e w'=>e= .returned (.bool (decide (i=k)))/\w'=w:=by
 by_cases h:i=k
 ·subst h;simpa using Z9g (a i) w
 ·obtain⟨c1,t1,h1⟩:=g.row k hk;obtain⟨c2,t2,h2⟩:=g.row i hi;simpa[h]using Z6l (a k) (a i) c1 c2 t1 t2 w (g.apart k i hk hi (Ne.symm h)) h1 h2
theorem Zyg (g:Zjs a w)(pb po k i:Nat)(hk:k < 10)(hi:i < 10)(hp:w.cell? ⟨pb,po+1,none⟩=some (.iface 403 (.pointer (some (a k))))):
  Calls prog 37 #[.iface 97 (.pointer (some ⟨pb,po,none⟩)),.iface 403 (.pointer (some (a i)))] w fun e w'=>e= .returned (.bool (decide (i=k)))/\w'=w:=by
 by_cases h:i=k
 ·subst h;simpa using Zsc pb po (a i) w hp
 ·obtain⟨c1,t1,h1⟩:=g.row k hk;obtain⟨c2,t2,h2⟩:=g.row i hi;simpa[h]using Zpz pb po (a i) (a k) c1 c2 t1 t2 w hp (g.apart k i hk hi (Ne.symm h)) h1 h2
theorem Zzd (a:Nat->Addr)(w:World)(q:Nat)(hq:q < 10):(w.alloc (.cells #[.iface 403 (.pointer (some (a 0))),.iface 403 (.pointer (some (a 1))),.iface 403 (.pointer (some (a 2))),.iface 403 (.pointer (some (a 3))),.iface 403 (.pointer (some (a 4))),.iface 403 (.pointer (some (a 5))),.iface 403 (.pointer (some (a 6))),.iface 403 (.pointer (some (a 7))),.iface 403 (.pointer (some (a 8))),.iface 403 (.pointer (some (a 9)))] 62)).cell? ⟨w.heap.size,q,none⟩=some (.iface 403 (.pointer (some (a q)))):=by
 have h:q=0\/q=1\/q=2\/q=3\/q=4\/q=5\/q=6\/q=7\/q=8\/q=9:=by omega
 rcases h with h | h | h | h | h | h | h | h | h | h <;> (subst h;simp)
def seen (k q:Nat):Int:=if k < q then(k:Int)+1 else 0
theorem Zy5 (k:Nat):seen k (k+1)=(k:Int)+1:=by simp[seen]
theorem Z4s (k:Nat):seen k k=0:=by simp[seen]
theorem Zu0 (k q:Nat)(h:q≠k):seen k (q+1)=seen k q:=by
 unfold seen;by_cases h1:k < q
 ·rw[if_pos (by omega),if_pos h1]
 ·rw[if_neg (by omega),if_neg h1]
theorem Zy6 (k:Nat)(h:k < 10):seen k 10=(k:Int)+1:=by simp[seen,h]
theorem Zmg (Z:Zao a w)(g:Zjs a w)(k:Nat)(hk:k < 10):
  Calls prog 20 #[.iface 403 (.pointer (some (a k)))] w fun e w'=>e= .returned (.tuple #[.int .i64 (k+1),.int .i64 (-1)])/\Below w.heap.size w w':=by
 have g0:w.cell? _=some (.iface 403 (.pointer (some (a 0)))):=Z.c1;have g1:w.cell? _=some (.iface 403 (.pointer (some (a 1)))):=Z.c2;have g2:w.cell? _=some (.iface 403 (.pointer (some (a 2)))):=Z.c3;have g3:w.cell? _=some (.iface 403 (.pointer (some (a 3)))):=Z.c4;have g4:w.cell? _=some (.iface 403 (.pointer (some (a 4)))):=Z.c5;have g5:w.cell? _=some (.iface 403 (.pointer (some (a 5)))):=Z.c6;have g6:w.cell? _=some (.iface 403 (.pointer (some (a 6)))):=Z.c7;have g7:w.cell? _=some (.iface 403 (.pointer (some (a 7)))):=Z.c8;have g8:w.cell? _=some (.iface 403 (.pointer (some (a 8)))):=Z.c9;have g9:w.cell? _=some (.iface 403 (.pointer (some (a 9)))):=Z.c10;have hb:Below w.heap.size w (w.alloc (.cells #[.iface 403 (.pointer (some (a 0))),.iface 403 (.pointer (some (a 1))),.iface 403 (.pointer (some (a 2))),.iface 403 (.pointer (some (a 3))),.iface 403 (.pointer (some (a 4))),.iface 403 (.pointer (some (a 5))),.iface 403 (.pointer (some (a 6))),.iface 403 (.pointer (some (a 7))),.iface 403 (.pointer (some (a 8))),.iface 403 (.pointer (some (a 9)))] 62)):=(Ydb _ _).alloc lr _;have G:=g.below hb;have T:=Zzd a w;go_in
 go_wp2
 clear g0 g1 g2 g3 g4 g5 g6 g7 g8 g9;go_loop [4,22] (fun n i=> ∃ q:Nat,q<=10/\i= .int .i64 q/\n= .int .i64 (seen k q)) (fun _ i=>10 - (intOf i).toNat)
 case atStart=>exact⟨0,by omega,rfl,rfl⟩
 case round=>
  obtain⟨q,hq,rfl,rfl⟩:=hrel;by_cases hlt:q < 10
  ·have Tq:=T q hlt;clear T;by_cases h:q=k
   ·subst h;have I:=Zyh G q q hk hlt;simp only[Z4s,decide_true]at I⊢;go_wp2_with (go_at_call 37;refine mq I ?_;rintro w' rfl)
    exact⟨⟨q+1,by omega,by go_num,by rw[Zy5]⟩,by simp[intOf];omega⟩
   ·have I:=Zyh G k q hk hlt;simp only[h,decide_false]at I;go_wp2_with (go_at_call 37;refine mq I ?_;rintro w' rfl)
    exact⟨⟨q+1,by omega,by go_num,by rw[Zu0 k q h]⟩,by simp[intOf];omega⟩
  ·obtain rfl:q=10:=by omega
   rw[Zy6 k hk];have hb2:Below w.heap.size w ((w.alloc (.cells #[.iface 403 (.pointer (some (a 0))),.iface 403 (.pointer (some (a 1))),.iface 403 (.pointer (some (a 2))),.iface 403 (.pointer (some (a 3))),.iface 403 (.pointer (some (a 4))),.iface 403 (.pointer (some (a 5))),.iface 403 (.pointer (some (a 6))),.iface 403 (.pointer (some (a 7))),.iface 403 (.pointer (some (a 8))),.iface 403 (.pointer (some (a 9)))] 62)).alloc (.cells #[.pointer none] 97)):=hb.alloc (by simp) _;have E:=(g.below hb2).et;go_wp2_with fail
   refine(Z8u _ _ _ E).mono ?_;rintro e w' ⟨rfl,rfl⟩;go_wp2
   go_ret2
   exact⟨rfl,((hb2.alloc (by simp;omega) _).alloc (by simp;omega) _).alloc (by simp;omega) _⟩
theorem Zmf (Z:Zao a w)(g:Zjs a w)(pb po k:Nat)(at0:Int)(hk:k < 10)(h0:w.cell? ⟨pb,po,none⟩=some (.int .i64 at0))(h1:w.cell? ⟨pb,po+1,none⟩=some (.iface 403 (.pointer (some (a k))))):
  Calls prog 20 #[.iface 97 (.pointer (some ⟨pb,po,none⟩))] w fun e w'=>e= .returned (.tuple #[.int .i64 (k+1),.int .i64 at0])/\Below w.heap.size w w':=by
 have g0:w.cell? _=some (.iface 403 (.pointer (some (a 0)))):=Z.c1;have g1:w.cell? _=some (.iface 403 (.pointer (some (a 1)))):=Z.c2;have g2:w.cell? _=some (.iface 403 (.pointer (some (a 2)))):=Z.c3;have g3:w.cell? _=some (.iface 403 (.pointer (some (a 3)))):=Z.c4;have g4:w.cell? _=some (.iface 403 (.pointer (some (a 4)))):=Z.c5;have g5:w.cell? _=some (.iface 403 (.pointer (some (a 5)))):=Z.c6;have g6:w.cell? _=some (.iface 403 (.pointer (some (a 6)))):=Z.c7;have g7:w.cell? _=some (.iface 403 (.pointer (some (a 7)))):=Z.c8;have g8:w.cell? _=some (.iface 403 (.pointer (some (a 8)))):=Z.c9;have g9:w.cell? _=some (.iface 403 (.pointer (some (a 9)))):=Z.c10;have hb:Below w.heap.size w (w.alloc (.cells #[.iface 403 (.pointer (some (a 0))),.iface 403 (.pointer (some (a 1))),.iface 403 (.pointer (some (a 2))),.iface 403 (.pointer (some (a 3))),.iface 403 (.pointer (some (a 4))),.iface 403 (.pointer (some (a 5))),.iface 403 (.pointer (some (a 6))),.iface 403 (.pointer (some (a 7))),.iface 403 (.pointer (some (a 8))),.iface 403 (.pointer (some (a 9)))] 62)):=(Ydb _ _).alloc lr _;have G:=g.below hb;have T:=Zzd a w;have hpl:=Zbi h0;have h1':(w.alloc (.cells #[.iface 403 (.pointer (some (a 0))),.iface 403 (.pointer (some (a 1))),.iface 403 (.pointer (some (a 2))),.iface 403 (.pointer (some (a 3))),.iface 403 (.pointer (some (a 4))),.iface 403 (.pointer (some (a 5))),.iface 403 (.pointer (some (a 6))),.iface 403 (.pointer (some (a 7))),.iface 403 (.pointer (some (a 8))),.iface 403 (.pointer (some (a 9)))] 62)).cell? ⟨pb,po+1,none⟩=some (.iface 403 (.pointer (some (a k)))):=by rw[hb.cell (p:=⟨pb,po+1,none⟩) hpl];exact h1
 go_in
 go_wp2
 clear g0 g1 g2 g3 g4 g5 g6 g7 g8 g9;go_loop [4,22] (fun n i=> ∃ q:Nat,q<=10/\i= .int .i64 q/\n= .int .i64 (seen k q)) (fun _ i=>10 - (intOf i).toNat)
 case atStart=>exact⟨0,by omega,rfl,rfl⟩
 case round=>
  obtain⟨q,hq,rfl,rfl⟩:=hrel;by_cases hlt:q < 10
  ·have Tq:=T q hlt;clear T;by_cases h:q=k
   ·subst h;have I:=Zyg G pb po q q hk hlt h1';simp only[Z4s,decide_true]at I⊢;go_wp2_with (go_at_call 37;refine mq I ?_;rintro w' rfl)
    exact⟨⟨q+1,by omega,by go_num,by rw[Zy5]⟩,by simp[intOf];omega⟩
   ·have I:=Zyg G pb po k q hk hlt h1';simp only[h,decide_false]at I;go_wp2_with (go_at_call 37;refine mq I ?_;rintro w' rfl)
    exact⟨⟨q+1,by omega,by go_num,by rw[Zu0 k q h]⟩,by simp[intOf];omega⟩
  ·obtain rfl:q=10:=by omega
   rw[Zy6 k hk];have hb2:Below w.heap.size w ((w.alloc (.cells #[.iface 403 (.pointer (some (a 0))),.iface 403 (.pointer (some (a 1))),.iface 403 (.pointer (some (a 2))),.iface 403 (.pointer (some (a 3))),.iface 403 (.pointer (some (a 4))),.iface 403 (.pointer (some (a 5))),.iface 403 (.pointer (some (a 6))),.iface 403 (.pointer (some (a 7))),.iface 403 (.pointer (some (a 8))),.iface 403 (.pointer (some (a 9)))] 62)).alloc (.cells #[.pointer none] 97)):=hb.alloc (by simp) _;have E:=(g.below hb2).et;go_wp2_with fail
   refine(Yav _ _ (.pointer none) _ E (by simp) (by simp)).mono ?_;rintro e w' ⟨rfl,hw⟩;have hpb:pb < w.heap.size:=hpl;have k2:Below w.heap.size w w':=by
    rw[hw];exact((((hb2.alloc (by simp;omega) _).alloc (by simp;omega) _).alloc (by simp;omega) _).alloc (by simp;omega) _).setCell (by simp) _
   have k1:w'.cell? ⟨pb,po,none⟩=some (.int .i64 at0):=by rw[k2.cell (p:=⟨pb,po,none⟩) hpb];exact h0
   have k0:w'.cell? ⟨w.heap.size+1,0,none⟩=some (.pointer (some ⟨pb,po,none⟩)):=by rw[hw];go_simp
   clear hw;go_wp2
   go_region
   all_goals (try go_wp2)
   all_goals go_ret2
   all_goals exact⟨rfl,k2.drew⟩
end Go.P
namespace Go.P
open Go.ChangeShapes Go.WideShapes Go.ChangeAt Go.RowKit Go.W Go.Lib
variable {W:World}{k:IntKind}
theorem rt:(prog.cutTypes.find? (·.1== "internal/reflectlite.rtype")).map (·.2)=some 210:=by kernel_rfl
theorem Ybr:((List.range 446).filter fun t=>prog.rowNamed t [101,114,114,111,114])=[62]:=by kernel_rfl
theorem Z5e:prog.types.size=446:=by kernel_rfl
theorem Z9a:prog.globalNamed "errors.errorType" =some 10:=by kernel_rfl
theorem Ya0:prog.cellsOf 405=1:=by kernel_rfl
theorem Zvw:prog.cellsOf 9=1:=by kernel_rfl
theorem Yc7 (u:TypeId)(hu:prog.typeName? 3 u=some "*errors.errorString"):u=403:=
 typeName_ptr_named (nm:= "errors.errorString") (by kernel_rfl) (by kernel_rfl) (by decide) u hu
theorem laidMet.one {P:Program}{l:List (String×DataW Unit)}{x:String×DataW Unit}(h:laidMet P l W)(hx:x∈l):laidMet P [x] W:=by
 induction l with
 | nil=>cases hx
 | cons y r ih=>
  rcases Ydj.1 hx with rfl | hx'
  ·obtain⟨ps,hv,hnd,hrows⟩:=h;obtain⟨n,d⟩:=x;obtain⟨g,t,cs,fuel,p,q,h1,h2,h3,h4,_,rfl⟩:=hv;exact⟨MemPlace.row ⟨g,0,none⟩ cs.size++p++[],⟨g,t,cs,fuel,p,[],h1,h2,h3,h4,rfl,rfl⟩,by simpa using List.Nodup.sublist (List.sublist_append_left _ _) hnd,fun b off hm=>hrows b off (by rw[List.append_nil]at hm;exact Yei _ hm)⟩
  ·exact ih h.tail hx'
theorem Zd4 {n:String}{text:List UInt8}{g:Nat}(h:laidMet prog [(n,.iface "*errors.errorString" (.ptr (.agg [.lit (.string text)])))] W)
  (hg:prog.globalNamed n=some g) (ht:(prog.globals[g]?).map (·.type)=some 62):
  ∃ (a:Addr) (s:ByteArray),W.cell? ⟨g,0,none⟩=some (.iface 403 (.pointer (some a)))/\W.cell? a=some (.string s)/\s.data.toList=text/\ ∃ c t,W.heap[a.block]?=some (.cells c t (0,0)):=by
 obtain⟨ps,⟨g0,t0,cs0,f0,p0,q0,hg0,ht0,hv0,hd0,_,e0⟩,_,hrows⟩:=h;obtain rfl:=Yen (hg.symm.trans hg0);obtain rfl:=Yen (ht.symm.trans ht0);subst e0;obtain⟨l0⟩:=cs0;have ok0: ∀ u v,l0=[.iface u v]->Value.okWide prog W .any 0 u v:=fun u v e=>by
  subst e;exact(hrows g 0 (by simp[MemPlace.row])).2 u v (by simpa using World.var?_cell hg0 hv0 0)
 obtain⟨a0,s0,rfl,hc0,hs0,_,rfl⟩:=errorString_of_trod underlying62 Yc7 underlying403 underlying405 rfl rfl underlying9 Ya0 Zvw hd0 ok0;obtain⟨c0,t0,hb0⟩:=(hrows a0.block a0.off (by simp[MemPlace.row])).1;exact⟨a0,s0,by simpa using World.var?_cell hg0 hv0 0,hc0,hs0,c0,t0,hb0⟩
section
variable {P:Program} {W:World} {nm:String} {g:Nat} {t e n:Nat}
theorem Z42 {l:List ByteArray}(h:VarReads P W nm (.agg (l.map fun s=> .lit (.string s.data.toList))))(hg:P.globalNamed nm=some g)(hy:(P.globals[g]?).map (·.type)=some t)(ht:P.underlying t=some (.array n e))(he:P.underlying e=some .string)(hc:P.cellsOf e=1)(hn:l.length=n): ∀ (i:Nat) (s:ByteArray),l[i]?=some s->W.cell? ⟨g,i,none⟩=some (.string s):=by
 intro i s hi;obtain⟨g',t',cs,fuel,p,h1,h2,h3,h4⟩:=h;obtain rfl:=Yen (hg.symm.trans h1);obtain rfl:=Yen (hy.symm.trans h2);obtain⟨fuel',d,q,hd,hr⟩:=array_elem ht h4 i (by rw[<- hn];exact(Ydl.1 hi).1);rw[hc]at hr;obtain⟨s',e1,e2,_⟩:=DataW.trod_string he hr;rw[Yd5,hi]at hd;have e3:s=s':=by
  have:=(Yen hd).trans (Prod.mk.inj e2).1
  injection this with this;injection this with this;cases s;cases s';simpa using this
 subst e3
 have:=World.var?_cell hg h3 i
 rw[this,<- Yee];have e4:=congrArg (·[0]?) e1;simpa[List.getElem?_take,List.getElem?_drop]using e4
theorem Zsb {l:List Int}(h:VarReads P W nm (tabData k l))(hg:P.globalNamed nm=some g)(hy:(P.globals[g]?).map (·.type)=some t)(ht:P.underlying t=some (.array n e))(he:P.underlying e=some (.int k))(hc:P.cellsOf e=1)(hct:P.cellsOf t=n): ∀ (i:Nat) (z:Int),l[i]?=some z->W.cell? ⟨g,i,none⟩=some (.int k z):=by
 intro i z hi;obtain⟨g',t',cs,fuel,p,h1,h2,h3,h4⟩:=h;obtain rfl:=Yen (hg.symm.trans h1);obtain rfl:=Yen (hy.symm.trans h2);have hcs:=cells_of_tab ht he hc hct h4;rw[World.var?_cell hg h3 i,<- Yee,hcs,Yd5,hi];rfl
theorem Z6z {fs:Array Field}{l:List (Int×Int)}(h:VarReads P W nm (.agg (l.map fun p=> .agg ([p.1,p.2].map fun z=> .lit (.int k z)))))(hg:P.globalNamed nm=some g)(hy:(P.globals[g]?).map (·.type)=some t)(ht:P.underlying t=some (.array n e))(he:P.underlying e=some (.struct fs))(hf: ∀ (i:Nat) (f:Field),fs[i]?=some f->P.underlying f.type=some (.int k)/\f.offset=i/\P.cellsOf f.type=1)(h2:fs.size=2)(hc:P.cellsOf e=2)(hn:l.length=n): ∀ (i:Nat) (p:Int×Int),l[i]?=some p->W.cell? ⟨g,2*i,none⟩=some (.int k p.1)/\W.cell? ⟨g,2*i+1,none⟩=some (.int k p.2):=by
 intro i p hi;obtain⟨g',t',cs,fuel,q,h1,h2',h3,h4⟩:=h;obtain rfl:=Yen (hg.symm.trans h1);obtain rfl:=Yen (hy.symm.trans h2');obtain⟨fuel',d,q,hd,hr⟩:=array_elem ht h4 i (by rw[<- hn];exact(Ydl.1 hi).1);rw[Yd5,hi]at hd;obtain rfl:=Yen hd;rw[hc]at hr;have hcs:=ints_of_struct he hf (by rw[hc,h2]) hr;have e0:=congrArg (·[0]?) hcs;have e1:=congrArg (·[1]?) hcs;simp only[List.getElem?_take,List.getElem?_drop]at e0 e1;constructor
 ·rw[World.var?_cell hg h3 (2*i),<- Yee];simpa[Nat.mul_comm]using e0
 ·rw[World.var?_cell hg h3 (2*i+1),<- Yee];simpa[Nat.mul_comm]using e1
end
def Ybi:DataW Unit->List Int
 | .agg ds=>ds.map fun d=>match d with | .lit (.int _ z)=>z | _=>0
 | _=>[]
theorem u8x:U8Extra prog Tryz.laysValid_ren:=⟨by kernel_rfl,by kernel_rfl,by kernel_rfl,by kernel_rfl,by kernel_rfl,by kernel_rfl,by kernel_rfl⟩
theorem Ya7:Rows.laid_unicode_utf8_first=firstData:=by kernel_rfl
theorem Yc0:(Rows.laid_unicode_utf8_acceptRanges:DataW Unit)=acceptData:=by kernel_rfl
theorem Yc2:(Rows.laid_warrant_warrant_guardMarks:DataW Unit)= .agg (Zbv.map fun s=> .lit (.string s.data.toList)):=by kernel_rfl
theorem Ya8:(Rows.laid_warrant_warrant_marks:DataW Unit)= .agg (Zg8.map fun s=> .lit (.string s.data.toList)):=by kernel_rfl
def Yc4:List (Int×Int):=[(34,34),(92,92),(110,10),(116,9),(114,13)]
theorem Yc1:(Rows.laid_warrant_warrant_escapes:DataW Unit)= .agg (Yc4.map fun p=> .agg ([p.1,p.2].map fun z=> .lit (.int .u8 z))):=by kernel_rfl
theorem Ya9:(Rows.laid_warrant_sums_start:DataW Unit)=tabData .u32 (Zzb.map Int.ofNat):=by kernel_rfl
theorem Yba:(Rows.laid_warrant_sums_steps:DataW Unit)=tabData .u32 (Zmk.map Int.ofNat):=by kernel_rfl
theorem Z81:(Rows.laid_math_bits_deBruijn32tab:DataW Unit)=tabData .u8 (Ybi Rows.laid_math_bits_deBruijn32tab):=by kernel_rfl
theorem Ycc:(Rows.laid_math_bits_deBruijn64tab:DataW Unit)=tabData .u8 (Ybi Rows.laid_math_bits_deBruijn64tab):=by kernel_rfl
theorem Zta (h:laidMetH prog Rows.chainsRow.laid W): ∃ a,Ycm a W/\Zjs a W/\23<=W.heap.size:=by
 have h':laidMet prog [("math/bits.deBruijn32tab",Rows.laid_math_bits_deBruijn32tab),("math/bits.deBruijn64tab",Rows.laid_math_bits_deBruijn64tab),("internal/strconv.uint64pow10",Rows.laid_internal_strconv_uint64pow10),("unicode/utf8.acceptRanges",Rows.laid_unicode_utf8_acceptRanges),("strconv.ErrRange",Rows.laid_strconv_ErrRange),("strconv.ErrSyntax",Rows.laid_strconv_ErrSyntax),("warrant/sums.start",Rows.laid_warrant_sums_start),("warrant/sums.steps",Rows.laid_warrant_sums_steps),("warrant/warrant.guardMarks",Rows.laid_warrant_warrant_guardMarks),("warrant/warrant.marks",Rows.laid_warrant_warrant_marks),("warrant/warrant.escapes",Rows.laid_warrant_warrant_escapes),("warrant/warrant.ErrWord",Rows.laid_warrant_warrant_ErrWord),("warrant/warrant.ErrForm",Rows.laid_warrant_warrant_ErrForm),("warrant/warrant.ErrDeep",Rows.laid_warrant_warrant_ErrDeep),("warrant/warrant.ErrLimit",Rows.laid_warrant_warrant_ErrLimit),("warrant/warrant.ErrFree",Rows.laid_warrant_warrant_ErrFree),("warrant/warrant.ErrShort",Rows.laid_warrant_warrant_ErrShort),("warrant/warrant.ErrBytes",Rows.laid_warrant_warrant_ErrBytes),("warrant/warrant.ErrKey",Rows.laid_warrant_warrant_ErrKey),("warrant/warrant.ErrSealed",Rows.laid_warrant_warrant_ErrSealed),("warrant/warrant.ErrTag",Rows.laid_warrant_warrant_ErrTag),("unicode/utf8.first",Rows.laid_unicode_utf8_first)] W/\handlesMet prog [("errors.errorType",Rows.laid_errors_errorType)] W:=h;obtain⟨hl,hh⟩:=h';obtain⟨name,u,ty,e1,e2,e3,e4,e5⟩:=hh _ (Yeb.2 rfl);have en:name=[101,114,114,111,114]:=(Yen e1).symm;subst en;obtain rfl:=Yen (rt.symm.trans e2);have hm:ty∈(List.range 446).filter fun t=>prog.rowNamed t [101,114,114,111,114]:=List.mem_filter.2 ⟨List.mem_range.2 (by rw[<- Z5e];exact e3),e4⟩;rw[Ybr]at hm;obtain rfl:=Yeb.1 hm;have hty:typeHandle prog 62= .pointer (some ⟨23,62,none⟩):=by kernel_rfl
 rw[hty]at e5;have het:W.cell? ⟨10,0,none⟩=some (.iface 210 (.agg #[.pointer (some ⟨23,62,none⟩)])):=by simpa using World.var?_cell Z9a e5 0
 obtain⟨a0,s0,e0,u0,x0,r0⟩:=Zd4 (laidMet.one hl (x:=("warrant/warrant.ErrWord",Rows.laid_warrant_warrant_ErrWord)) (by repeat (first | exact List.Mem.head _ | apply List.Mem.tail))) (by kernel_rfl) (by kernel_rfl);obtain⟨a1,s1,e1,u1,x1,r1⟩:=Zd4 (laidMet.one hl (x:=("warrant/warrant.ErrForm",Rows.laid_warrant_warrant_ErrForm)) (by repeat (first | exact List.Mem.head _ | apply List.Mem.tail))) (by kernel_rfl) (by kernel_rfl);obtain⟨a2,s2,e2,u2,x2,r2⟩:=Zd4 (laidMet.one hl (x:=("warrant/warrant.ErrDeep",Rows.laid_warrant_warrant_ErrDeep)) (by repeat (first | exact List.Mem.head _ | apply List.Mem.tail))) (by kernel_rfl) (by kernel_rfl);obtain⟨a3,s3,e3,u3,x3,r3⟩:=Zd4 (laidMet.one hl (x:=("warrant/warrant.ErrLimit",Rows.laid_warrant_warrant_ErrLimit)) (by repeat (first | exact List.Mem.head _ | apply List.Mem.tail))) (by kernel_rfl) (by kernel_rfl);obtain⟨a4,s4,e4,u4,x4,r4⟩:=Zd4 (laidMet.one hl (x:=("warrant/warrant.ErrFree",Rows.laid_warrant_warrant_ErrFree)) (by repeat (first | exact List.Mem.head _ | apply List.Mem.tail))) (by kernel_rfl) (by kernel_rfl);obtain⟨a5,s5,e5,u5,x5,r5⟩:=Zd4 (laidMet.one hl (x:=("warrant/warrant.ErrShort",Rows.laid_warrant_warrant_ErrShort)) (by repeat (first | exact List.Mem.head _ | apply List.Mem.tail))) (by kernel_rfl) (by kernel_rfl);obtain⟨a6,s6,e6,u6,x6,r6⟩:=Zd4 (laidMet.one hl (x:=("warrant/warrant.ErrBytes",Rows.laid_warrant_warrant_ErrBytes)) (by repeat (first | exact List.Mem.head _ | apply List.Mem.tail))) (by kernel_rfl) (by kernel_rfl);obtain⟨a7,s7,e7,u7,x7,r7⟩:=Zd4 (laidMet.one hl (x:=("warrant/warrant.ErrKey",Rows.laid_warrant_warrant_ErrKey)) (by repeat (first | exact List.Mem.head _ | apply List.Mem.tail))) (by kernel_rfl) (by kernel_rfl);obtain⟨a8,s8,e8,u8,x8,r8⟩:=Zd4 (laidMet.one hl (x:=("warrant/warrant.ErrSealed",Rows.laid_warrant_warrant_ErrSealed)) (by repeat (first | exact List.Mem.head _ | apply List.Mem.tail))) (by kernel_rfl) (by kernel_rfl);obtain⟨a9,s9,e9,u9,x9,r9⟩:=Zd4 (laidMet.one hl (x:=("warrant/warrant.ErrTag",Rows.laid_warrant_warrant_ErrTag)) (by repeat (first | exact List.Mem.head _ | apply List.Mem.tail))) (by kernel_rfl) (by kernel_rfl);obtain⟨_,_,yn,_⟩:=Zd4 (laidMet.one hl (x:=("strconv.ErrSyntax",Rows.laid_strconv_ErrSyntax)) (by repeat (first | exact List.Mem.head _ | apply List.Mem.tail))) (by kernel_rfl) (by kernel_rfl);obtain⟨_,_,rg,_⟩:=Zd4 (laidMet.one hl (x:=("strconv.ErrRange",Rows.laid_strconv_ErrRange)) (by repeat (first | exact List.Mem.head _ | apply List.Mem.tail))) (by kernel_rfl) (by kernel_rfl);have hu:=utf8Tabs_of_readsT (U8Types.of196 Tryz.laysValid) u8x (Ya7▸(Go.Lib.laidMet.reads hl (n:= "unicode/utf8.first") (d:=Rows.laid_unicode_utf8_first) (by repeat (first | exact List.Mem.head _ | apply List.Mem.tail)))) (Yc0▸(Go.Lib.laidMet.reads hl (n:= "unicode/utf8.acceptRanges") (d:=Rows.laid_unicode_utf8_acceptRanges) (by repeat (first | exact List.Mem.head _ | apply List.Mem.tail))));have ho:=Z42 (t:=363) (Yc2▸(Go.Lib.laidMet.reads hl (n:= "warrant/warrant.guardMarks") (d:=Rows.laid_warrant_warrant_guardMarks) (by repeat (first | exact List.Mem.head _ | apply List.Mem.tail)))) (g:=17) (by kernel_rfl) (by kernel_rfl) underlying363 underlying9 Zvw rfl;have hk:=Z42 (t:=276) (Ya8▸(Go.Lib.laidMet.reads hl (n:= "warrant/warrant.marks") (d:=Rows.laid_warrant_warrant_marks) (by repeat (first | exact List.Mem.head _ | apply List.Mem.tail)))) (g:=13) (by kernel_rfl) (by kernel_rfl) underlying276 underlying9 Zvw rfl;have hs:=Zsb (t:=170) (Ya9▸(Go.Lib.laidMet.reads hl (n:= "warrant/sums.start") (d:=Rows.laid_warrant_sums_start) (by repeat (first | exact List.Mem.head _ | apply List.Mem.tail)))) (g:=11) (by kernel_rfl) (by kernel_rfl) underlying170 underlying169 (by kernel_rfl) (by kernel_rfl);have ht:=Zsb (t:=266) (Yba▸(Go.Lib.laidMet.reads hl (n:= "warrant/sums.steps") (d:=Rows.laid_warrant_sums_steps) (by repeat (first | exact List.Mem.head _ | apply List.Mem.tail)))) (g:=12) (by kernel_rfl) (by kernel_rfl) underlying266 underlying169 (by kernel_rfl) (by kernel_rfl);have hb:=Zsb (t:=171) (Ycc▸(Go.Lib.laidMet.reads hl (n:= "math/bits.deBruijn64tab") (d:=Rows.laid_math_bits_deBruijn64tab) (by repeat (first | exact List.Mem.head _ | apply List.Mem.tail)))) (g:=20) (by kernel_rfl) (by kernel_rfl) underlying171 underlying5 (by kernel_rfl) (by kernel_rfl);have hw:=Zbi (Zsb (t:=88) (Z81▸(Go.Lib.laidMet.reads hl (n:= "math/bits.deBruijn32tab") (d:=Rows.laid_math_bits_deBruijn32tab) (by repeat (first | exact List.Mem.head _ | apply List.Mem.tail)))) (g:=22) (by kernel_rfl) (by kernel_rfl) underlying88 underlying5 (by kernel_rfl) (by kernel_rfl) 0 0 rfl);have hx:=Z6z (t:=300) (Yc1▸(Go.Lib.laidMet.reads hl (n:= "warrant/warrant.escapes") (d:=Rows.laid_warrant_warrant_escapes) (by repeat (first | exact List.Mem.head _ | apply List.Mem.tail)))) (g:=14) (by kernel_rfl) (by kernel_rfl) underlying300 underlying299 (fun j f hj=>by
  match j,hj with
  | 0,hj=>cases hj;exact⟨underlying5,rfl,by kernel_rfl⟩
  | 1,hj=>cases hj;exact⟨underlying5,rfl,by kernel_rfl⟩
  | j+2,hj=>simp at hj) rfl (by kernel_rfl) rfl
 have ne: ∀ (x y:Addr) (s s':ByteArray) (l l':List UInt8),W.cell? x=some (.string s)->s.data.toList=l->W.cell? y=some (.string s')->s'.data.toList=l'->decide (l=l')=false->x≠y:=fun x y s s' l l' h1 h2 h3 h4 h5 hxy=>by
  subst hxy;rw[h1]at h3;cases h3;exact absurd (h2.symm.trans h4) (of_decide_eq_false h5)
 refine⟨fun k=>match k with | 0=>a0 | 1=>a1 | 2=>a2 | 3=>a3 | 4=>a4 | 5=>a5 | 6=>a6 | 7=>a7 | 8=>a8 | _=>a9,⟨?_,?_,?_,?_,?_,?_,?_,?_,?_,?_,hu,⟨_,_,yn⟩,⟨_,_,rg⟩,ho,hk,?_,fun i c hc=>hs i c (by rw[Yd5,hc];rfl),fun i c hc=>ht i c (by rw[Yd5,hc];rfl),hb 0 0 rfl,hb 1 1 rfl,hb 3 2 rfl⟩,⟨?_,?_,het⟩,hw⟩
 ·rw[Zaf _ (by decide)];exact e0
 ·rw[Zaf _ (by decide)];exact e1
 ·rw[Zaf _ (by decide)];exact e2
 ·rw[Zaf _ (by decide)];exact e3
 ·rw[Zaf _ (by decide)];exact e4
 ·rw[Zaf _ (by decide)];exact e5
 ·rw[Zaf _ (by decide)];exact e6
 ·rw[Zaf _ (by decide)];exact e7
 ·rw[Zaf _ (by decide)];exact e8
 ·rw[Zaf _ (by decide)];exact e9
 ·intro i c hc;match i,hc with
  | 0,hc=>cases hc;exact(hx 0 _ rfl).1
  | 1,hc=>cases hc;exact(hx 0 _ rfl).2
  | 2,hc=>cases hc;exact(hx 1 _ rfl).1
  | 3,hc=>cases hc;exact(hx 1 _ rfl).2
  | 4,hc=>cases hc;exact(hx 2 _ rfl).1
  | 5,hc=>cases hc;exact(hx 2 _ rfl).2
  | 6,hc=>cases hc;exact(hx 3 _ rfl).1
  | 7,hc=>cases hc;exact(hx 3 _ rfl).2
  | 8,hc=>cases hc;exact(hx 4 _ rfl).1
  | 9,hc=>cases hc;exact(hx 4 _ rfl).2
  | i+10,hc=>simp[Ycd]at hc
 ·intro k hk;have h:k=0\/k=1\/k=2\/k=3\/k=4\/k=5\/k=6\/k=7\/k=8\/k=9:=by omega
  rcases h with rfl | rfl | rfl | rfl | rfl | rfl | rfl | rfl | rfl | rfl
  ·exact r0
  ·exact r1
  ·exact r2
  ·exact r3
  ·exact r4
  ·exact r5
  ·exact r6
  ·exact r7
  ·exact r8
  ·exact r9
 ·intro i j hi hj hij;have h:i=0\/i=1\/i=2\/i=3\/i=4\/i=5\/i=6\/i=7\/i=8\/i=9:=by omega
  have h2:j=0\/j=1\/j=2\/j=3\/j=4\/j=5\/j=6\/j=7\/j=8\/j=9:=by omega
  rcases h with rfl | rfl | rfl | rfl | rfl | rfl | rfl | rfl | rfl | rfl <;> rcases h2 with rfl | rfl | rfl | rfl | rfl | rfl | rfl | rfl | rfl | rfl;all_goals first
   | exact absurd rfl hij
   | exact ne _ _ _ _ _ _ ‹_› ‹_› ‹_› ‹_› rfl
end Go.P
