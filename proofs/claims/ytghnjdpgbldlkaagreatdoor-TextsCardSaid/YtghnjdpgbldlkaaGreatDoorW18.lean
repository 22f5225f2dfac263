import Derived.Test.YtghnjdpgbldlkaaGreatDoorW08
import Derived.Test.YtghnjdpgbldlkaaGreatDoorW17
set_option linter.defProp false
set_option maxRecDepth 100000
set_option maxHeartbeats 8000000
set_option linter.unusedSimpArgs false
open Go.Proofs Go.RowKit Go.W Tryz
namespace Go.W
def _root_.Go.RowKit.Below.NL {B:Nat}{a w:World}(h:Below B a w)(n:Nat):Below B a (w.drewN n):=⟨h.os,h.tape,h.output,h.size,h.block⟩
def Zkg {P:Program}{ops:Array Oper}{S:World->Prop}{o:Oper}{v:Value}{a:Act}(hgd:o.guard=none)(ty:TypeId)(ps:Array (Nat×Operand))(ho:o.op= .build ty ps)(pv:Array (Nat×Value))(hp:ps.map (fun p=>(p.1,a.eval p.2))=pv)(h: ∀ u,S u->(Instr.build ty pv).run P u= .ok v u):YieldsIf P ops S o v a:=
 Or.inl ⟨by simp[Region.wanted,hgd],fun u hS=>by
  unfold execOp;rw[ho];simp only[hp,QM,Sem.run_pure,Rw,h u hS]⟩
end Go.W
namespace Go.P
def Vt (key:ByteArray):Bool:=decide<|0<key.size/\key.size<=100
def Zwd (key:ByteArray)(hk:key.size<1000000000)(w:World):Calls prog 34 #[.string key] w fun e w'=>e= .returned (.bool<|Vt key)/\w'=w:=by
 by_cases h0:key.size=0
 ·obtain rfl:key=ByteArray.empty:=jK<|(Ht<|(Zj key).trans h0).trans (by rw[Lr];rfl);go_in
  go_wp2
  go_ret
  exact⟨rfl,rfl⟩
 ·have g:key.toList.isEmpty=false:=by
   rw[List.isEmpty_eq_false_iff];intro h
   have:=Zj key
   rw[h]at this;simp at this;omega
  have HE:AC (Vt key=decide ((key.size:Int)<=100)):=⟨by unfold Vt;rw[decide_eq_decide];omega⟩;go_in
  go_wp2
  go_ret
  exact⟨by rw[HE.out];rfl,rfl⟩
def ZI (key:ByteArray) (x:Bk):Int:=if Vt key then Ib x else 8
def Vq (key:ByteArray) (x:Bk):ByteArray:=if Vt key/\Ib x=0 then Pz false [DU x] (DV key [DU x])else ByteArray.empty
def Ur (key t:ByteArray) (B:Nat) (v1 v2 v3 t8 t24 t27 t28 t29:Value):Act:={tmps:=#[.string key,.agg #[v1,v2,v3],undef,.pointer<|Qb B 0,.string ⟨#[]⟩,.nilIface,.string t,.nilIface,t8,.string key,.bool true,.bool false,undef,.tuple #[.string t,.nilIface],.agg #[v1,v2,v3],.tuple #[.string t,.nilIface],.string t,.nilIface,.nilIface,.bool false,undef,.string t,.agg #[v1,v2,v3],.agg #[.string t,v1,v2,v3],t24,.string key,.string t,t27,t28,t29,undef,undef],defers:=[]}
def Yfd (w2:World) (key t:ByteArray) (B:Nat) (v1 v2 v3:Value) (d1 d2 d3 d4:Bool) (a:Act) (u:World):Prop:= ∃ Lk Lt Lc:Nat,
 a=Ur key t B v1 v2 v3 (if d4 then .pointer (Qb Lc 0)else undef) (if d1 then .slice (Qb Lk 0) 1 1 else undef) (if d2 then .slice (Qb Lt 0) 1 1 else undef) (if d3 then Ha (DV key [t])else undef) undef/\
 (d1=true->AJ u Lk #[.string t,v1,v2,v3] 108/\w2.heap.size<=Lk)/\(d2=true->AJ u Lt #[.string t] 9)/\(d4=true->AJ u Lc DR 114/\w2.heap.size<=Lc)/\(d1=true->d4=true->Lk≠Lc)/\Bl w2 u/\AJ u B #[v1,v2,v3] 38
def Zf (x:Bk):(DU x).size<=4000:=by
 unfold DU;split
 ·rename_i h;unfold Ib at h;split at h
  ·rename_i h';exact absurd h h'
  ·split at h
   ·cases h
   ·omega
 ·decide
def Yax {α:Type}{l:List α}(h:l.length=32): ∃ a0 a1 a2 a3 a4 a5 a6 a7 a8 a9 b0 b1 b2 b3 b4 b5 b6 b7 b8 b9 c0 c1 c2 c3 c4 c5 c6 c7 c8 c9 d0 d1,l=[a0,a1,a2,a3,a4,a5,a6,a7,a8,a9,b0,b1,b2,b3,b4,b5,b6,b7,b8,b9,c0,c1,c2,c3,c4,c5,c6,c7,c8,c9,d0,d1]:=by
 match l,h with
 | [a0,a1,a2,a3,a4,a5,a6,a7,a8,a9,b0,b1,b2,b3,b4,b5,b6,b7,b8,b9,c0,c1,c2,c3,c4,c5,c6,c7,c8,c9,d0,d1],_=>exact⟨_,_,_,_,_,_,_,_,_,_,_,_,_,_,_,_,_,_,_,_,_,_,_,_,_,_,_,_,_,_,_,_,rfl⟩
def Zo0 {T:List UInt8}(h:T.length=32)(L:Nat)(w:World):(Instr.build 114 #[(1,.slice (Qb L 0) 1 1),(2,Ha T)]).run prog w= .ok (.agg<|C8 false (.slice (Qb L 0) 1 1)<|Lib.byteCells T) w:=by
 obtain⟨a0,a1,a2,a3,a4,a5,a6,a7,a8,a9,b0,b1,b2,b3,b4,b5,b6,b7,b8,b9,c0,c1,c2,c3,c4,c5,c6,c7,c8,c9,d0,d1,rfl⟩:=Yax h;kernel_rfl
def mf (S:Bool){ts:List ByteArray}{tag:List UInt8}(hn:ts.length<=8)(ht: ∀ t,t∈ts->t.size<=4000)(hl:tag.length=32):(Pz S ts tag).size<1000000000:=by
 have h1:(BZ GH ts).size<=11+8*4011:=WG hn fun x hx=>by
  rw[GH,Ae]
  have:=iW x.size
  have:=ht x hx
  omega
 rw[Pz,Ae,Ae,Ae,E6,Bh tag,hl]
 have:(ba Np).size=4:=rfl
 omega
def Z9a (V:E8){a:Nat->Addr}{B D:Nat}{w:World}{key:ByteArray}{vs:List Value}{x:Bk}(Z:Aa a w)(hk:key.size<1000000000)(hB:B<=w.heap.size)(hS:DW B w D vs x):
  Calls prog 21 #[.string key,.agg vs.toArray] w fun e w'=>e= .returned (.tuple #[.string<|Vq key x,BS a<|ZI key x])/\Bl w w':=by
 have CK:=AA fun u=>Zwd key hk u;have B0:=fun o=>(AQ w.heap.size w).alloc lr o;have CE:=AA fun o=>Zr0 V (Z.below<|B0 o) (by simp;omega) (DW.carry hS<|BJ (B0 o) hB);have ZZ:=AA Z;have HS:=AA hS;have z8:=Z.c8;obtain⟨p1,c1,p2,c2,p3,c3,rfl,_⟩:=hS;clear Z V;go_in
 go_wp2_with fail
 refine(CK.out _).mono ?_;rintro e w1 ⟨rfl,rfl⟩;by_cases hkey:Vt key=true
 ·have HM:AC (ZI key x=Ib x/\(Ib x=0->Vq key x=Pz false [DU x] (DV key [DU x]))/\(Ib x≠0->Vq key x=ByteArray.empty)):=⟨by unfold ZI;rw[if_pos hkey],fun h=>by unfold Vq;rw[if_pos ⟨hkey,h⟩],fun h=>by unfold Vq;rw[if_neg fun q=>h q.2]⟩;rw[hkey];go_wp2_with fail
  refine(CE.out _).mono ?_;rintro e w2 ⟨rfl,hb2⟩;have B2:=AA<|(B0 _).trans<|hb2.mono zw;by_cases hn:Ib x=0
  ·have LX:=AA<|(AJ.new w #[.slice p1 x.facts.length c1,.slice p2 x.rules.length c2,.slice p3 x.checks.length c3] 38).of<|hb2.block _ zw;obtain⟨y0,y1,y2,sy⟩:=LX.out.three;rw[hn,Ih];clear CE CK hb2 z8;go_wp2_with fail
   have Sd:=Zf x;obtain⟨t,ht⟩: ∃ t,AC (DU x=t):=⟨_,⟨rfl⟩⟩;rw[ht.out]at Sd⊢;clear y0 y1 y2 sy;refine U7 (S:=fun u=>AJ u w.heap.size #[.slice p1 x.facts.length c1,.slice p2 x.rules.length c2,.slice p3 x.checks.length c3] 38) zt ?_;change wpAnyH _ _ _ _ _ _ _ _ (World.drew _);have AV:AJ w2.drew w.heap.size #[.slice p1 x.facts.length c1,.slice p2 x.rules.length c2,.slice p3 x.checks.length c3] 38:=LX.out;refine tk 0 (.string t) AV ?_;simp only[Act.put];refine wpAnyH_take (i:=1) (oi:={dst:=some 22,op:= .load 38<|.tmp 3,type:=38,pos:= "warrant.go:188",after:=#[],guard:=none}) (v:= .agg #[.slice p1 x.facts.length c1,.slice p2 x.rules.length c2,.slice p3 x.checks.length c3]) rfl zt zt zt (fun _ _ _ h=>h) (wW rfl 38 (.tmp 3) rfl ⟨w.heap.size,0,none⟩ rfl fun u hS=>WK u w.heap.size 38 38 _ _ _ hS underlying38 rfl zt) AV ?_;simp only[Act.put];refine tk 2 (.agg #[.string t,.slice p1 x.facts.length c1,.slice p2 x.rules.length c2,.slice p3 x.checks.length c3]) AV ?_;simp only[Act.put];refine tk 4 (.string key) AV ?_;simp only[Act.put];refine tk 5 (.string t) AV ?_;change wpAnyH _ _ _ _ _ (2+4) ((fun d1 d2 d3 d4=>#[true,true,true,d1,true,true,d2,d3,false,d4,false]) false false false false) (Ur key t w.heap.size (.slice p1 x.facts.length c1) (.slice p2 x.rules.length c2) (.slice p3 x.checks.length c3) undef undef undef undef undef) _;have hlt0:w.heap.size<w2.heap.size:=LX.out.lt;have Z2: ∀ u,Bl w2 u->Aa a u:=fun u hu=>(ZZ.out.below B2.out).below hu;refine Z39 (fun d1 d2 d3 d4=>#[true,true,true,d1,true,true,d2,d3,false,d4,false]) 3 6 7 9 _ _ _ _ (Yfd w2 key t w.heap.size (.slice p1 x.facts.length c1) (.slice p2 x.rules.length c2)<|.slice p3 x.checks.length c3) 2 (fun d1 d2 d3 d4 a u hJ=>?_) rfl rfl rfl rfl (fun d1 d2 d3 d4 h hn=>?_) (fun d2 d3 d4=>rfl) (fun d1 d3 d4=>rfl) (fun d1 d2 d4=>rfl) (fun d1 d2 d3=>rfl) (fun d2 d3 d4 a u hJ K hK=>?_) (fun d1 d4 a u hJ K hK=>?_) (fun d1 d4 a u hJ K hK=>?_) (fun d1 d2 d3 a u hJ K hK=>?_) (fun d4 a u hJ=>?_) 4 false false false false rfl (fun h=>by cases h) _ _ ⟨0,0,0,rfl,(fun h=>by cases h),(fun h=>by cases h),(fun h=>by cases h),(fun h=>by cases h),(AQ _ w2).drew,AV⟩
   ·obtain⟨Lk,Lt,Lc,_,_,_,_,_,_,hb⟩:=hJ;exact hb
   ·cases d1 <;> cases d2 <;> cases d3 <;> cases d4 <;> first | (exact absurd (h rfl) zu) | (exact absurd hn zu) | kernel_rfl
   ·obtain⟨Lk,Lt,Lc,rfl,h1,h2,h4,Vj,hb,O8⟩:=hJ;unfold XV Ur;go_simp;exact hK _ _ ⟨u.heap.size,Lt,Lc,rfl,fun _=>⟨AJ.new u _ _,hb.size⟩,fun h=>(h2 h).alloc _,fun h=>⟨(h4 h).1.alloc _,(h4 h).2⟩,(fun _ h=>by have:=(h4 h).1.lt;omega),hb.alloc hb.size _,O8.alloc _⟩
   ·obtain⟨Lk,Lt,Lc,rfl,h1,h2,h4,Vj,hb,O8⟩:=hJ;unfold XV Ur;go_simp;exact hK _ _ ⟨Lk,u.heap.size,Lc,rfl,fun h=>⟨(h1 h).1.alloc _,(h1 h).2⟩,fun _=>AJ.new u _ _,fun h=>⟨(h4 h).1.alloc _,(h4 h).2⟩,Vj,hb.alloc hb.size _,O8.alloc _⟩
   ·obtain⟨Lk,Lt,Lc,rfl,h1,h2,h4,Vj,hb,O8⟩:=hJ;unfold XV Ur;go_simp;refine(uw (c:=1) (Z2 u hb) hk (bO (h2 rfl) zx) zw).mono ?_;rintro e u' ⟨rfl,hb'⟩;exact hK _ _ ⟨Lk,Lt,Lc,rfl,fun h=>⟨(h1 h).1.of<|hb'.block _ (h1 h).1.lt,(h1 h).2⟩,fun h=>(h2 h).of (hb'.block _ (h2 h).lt),fun h=>⟨(h4 h).1.of<|hb'.block _ (h4 h).1.lt,(h4 h).2⟩,Vj,hb.trans<|hb'.mono hb.size,O8.of<|hb'.block _ O8.lt⟩
   ·obtain⟨Lk,Lt,Lc,rfl,h1,h2,h4,Vj,hb,O8⟩:=hJ;unfold XV Ur;go_simp;exact hK _ _ ⟨Lk,Lt,u.heap.size,rfl,fun h=>⟨(h1 h).1.alloc _,(h1 h).2⟩,fun h=>(h2 h).alloc _,fun _=>⟨AJ.new u DR _,hb.size⟩,(fun h _=>by have:=(h1 h).1.lt;omega),hb.alloc hb.size _,O8.alloc _⟩
   ·obtain⟨Lk,Lt,Lc,rfl,h1,h2,h4,Vj,hb,O8⟩:=hJ;have hK:=h1 rfl;have Qa:(DV key [t]).length=32:=Oh _;clear h1 h2;cases d4
    case' false=>
     change wpAnyH _ _ _ _ _ 3 _ (Ur key t w.heap.size (.slice p1 x.facts.length c1) (.slice p2 x.rules.length c2) (.slice p3 x.checks.length c3) undef (.slice (Qb Lk 0) 1 1) (.slice (Qb Lt 0) 1 1) (Ha<|DV key [t]) undef) _;unfold Ur;refine wpAnyH_take (i:=8) (oi:={dst:=some 29,op:= .build 114 #[(1,.tmp 24),(2,.tmp 28)],type:=114,pos:= "warrant.go:188",after:=#[{on:=3,ground:=Ground.data},{on:=7,ground:=Ground.data}],guard:=none}) (v:= .agg<|C8 false (.slice (Qb Lk 0) 1 1)<|Lib.byteCells<|DV key [t]) rfl zt zt zt (fun _ _ _ h=>h) (Zkg rfl 114 #[(1,.tmp 24),(2,.tmp 28)] rfl #[(1,.slice (Qb Lk 0) 1 1),(2,Ha<|DV key [t])] (by simp[Act.eval]) fun u hS=>Zo0 Qa _ u) O8 ?_;simp only[Act.put];refine Eg (rs:=[9]) zt zw<|EG rfl (fun K' hK'=>?_) Eh;go_simp;have hC:AJ (u.alloc<|.cells DR 114) u.heap.size DR 114:=AJ.new u DR _;have lK:w2.heap.size<=u.heap.size:=hb.size;have hne:Lk≠u.heap.size:=by have:=hK.1.lt;omega
     have lJ:=AF (hK.1.alloc<|.cells DR 114) hK.2;have TN:=hb.alloc hb.size<|.cells DR 114;have lL:=O8.alloc<|.cells DR 114;refine hK'.out _ _ lL fun _=>?_;clear hK' K' hK hb O8 h4 Vj;generalize u.heap.size=LC at*;change wpAnyH _ _ _ _ _ _ _ _ (u.alloc<|.cells DR 114);generalize u.alloc (.cells DR 114)=U at*
    case' true=>
     change wpAnyH _ _ _ _ _ 2 _ (Ur key t w.heap.size (.slice p1 x.facts.length c1) (.slice p2 x.rules.length c2) (.slice p3 x.checks.length c3) (.pointer<|Qb Lc 0) (.slice (Qb Lk 0) 1 1) (.slice (Qb Lt 0) 1 1) (Ha<|DV key [t]) undef) _;unfold Ur;refine wpAnyH_take (i:=8) (oi:={dst:=some 29,op:= .build 114 #[(1,.tmp 24),(2,.tmp 28)],type:=114,pos:= "warrant.go:188",after:=#[{on:=3,ground:=Ground.data},{on:=7,ground:=Ground.data}],guard:=none}) (v:= .agg<|C8 false (.slice (Qb Lk 0) 1 1)<|Lib.byteCells<|DV key [t]) rfl zt zt zt (fun _ _ _ h=>h) (Zkg rfl 114 #[(1,.tmp 24),(2,.tmp 28)] rfl #[(1,.slice (Qb Lk 0) 1 1),(2,Ha<|DV key [t])] (by simp[Act.eval]) fun u hS=>Zo0 Qa _ u) O8 ?_;simp only[Act.put];have hC:=(h4 rfl).1;have lK:=(h4 rfl).2;have hne:=Vj rfl rfl;have lJ:=hK;have TN:=hb;have lL:=O8;clear hK hb O8 h4 Vj;generalize Lc=LC at*;generalize u=U at*
    all_goals
     refine Eg (rs:=[10]) zt zw<|EG rfl (fun K' hK'=>?_) Eh;have hlen:(Lib.byteCells<|DV key [t]).length=32:=by rw[Lib.byteCells_length,Qa]
     refine Zkf rfl 114 (.tmp 8) (.tmp 29) rfl LC (C8 false (.slice (Qb Lk 0) 1 1)<|Lib.byteCells<|DV key [t]) rfl rfl 114 DR hC (U0 _ _ hlen) (by rw[Uz _ _ hlen];rfl) (bY _ _ _ _ _) ?_;refine hK'.out _ _ (lL.of<|Db _ _ _ _ zx) fun _=>?_;clear hK' K';refine Lp zt ?_ _;have hR:=Gj U LC _ (C8 false (.slice (Qb Lk 0) 1 1)<|Lib.byteCells<|DV key [t]) _ _ hC;have O4:=lJ.1.of<|Db U LC Lk (C8 false (.slice (Qb Lk 0) 1 1)<|Lib.byteCells<|DV key [t]) hne;have JX:=TN.Br (g:=LC) (C8 false (.slice (Qb Lk 0) 1 1)<|Lib.byteCells<|DV key [t]) lK;clear hC lJ TN lL;obtain⟨W,hW⟩: ∃ W,U.setRow LC (C8 false (.slice (Qb Lk 0) 1 1)<|Lib.byteCells<|DV key [t])=W:=⟨_,rfl⟩;rw[hW]at hR O4 JX⊢;have hrow:Ap 4 (Qp W.heap.size W) (Qb Lk 0) [t]:=⟨zw,fun i y hi=>by
      cases i with
      | succ i=>simp at hi
      | zero=>
       obtain rfl:t=y:=by simpa using hi
       exact⟨Lk,0,rfl,AJ.lt O4,zx,_,_,_,_,_,_,_,_,_,(AJ.four O4).1,(AJ.four O4).2.1,(AJ.four O4).2.2.1,(AJ.four O4).2.2.2.1⟩⟩
     have CW:=AA<|Zxg (S:=false) (c:=1) lr hrow Qa<|mf false zw (fun y hy=>by have e:y=t:=by{simpa using hy};rw[e];exact Sd) Qa;have RW:=AA<|AF JX<|AF (HM.out.2.1 hn) HM.out.1;clear hW hrow O4 JX;go_wp2_with (refine QK rfl 114 (.tmp 8) rfl LC rfl 114 (C8 false (.slice (Qb Lk 0) 1 1)<|Lib.byteCells<|DV key [t]) (0,0) _ hR underlying114 rfl (U0 _ _ hlen) ?_)
     refine mq CW.out ?_;rintro w9 gF;have R9:=AA<|B2.out.trans<|(RW.out.1.trans<|gF.mono RW.out.1.size).mono B2.out.size;clear CW gF;go_wp2
     go_ret2
     exact⟨by rw[RW.out.2.1,RW.out.2.2,hn,Ih,ht.out];rfl,R9.out⟩
  ·have E1:AC (ZI key x=Ib x/\Vq key x=ByteArray.empty/\DU x=ByteArray.empty):=⟨HM.out.1,HM.out.2.2 hn,if_neg hn⟩;rw[DC _ hn];clear CE CK hb2 z8;go_wp2
   go_ret2
   exact⟨by rw[E1.out.1,E1.out.2.1,DC _ hn];rfl,B2.out⟩
 ·have hkey:Vt key=false:=by simpa using hkey
  have HM:AC (ZI key x=8/\Vq key x=ByteArray.empty):=⟨by unfold ZI;rw[hkey];rfl,by unfold Vq;rw[hkey];rfl⟩;have z8':=fun o=>Aq z8 (B0 o);rw[hkey];clear CE CK z8;go_wp2
  go_quiet (fail)
  go_wp2
  go_ret2
  exact⟨by rw[HM.out.1,HM.out.2];rfl,(B0 _).NL _⟩
end Go.P
namespace Go.W
variable {P:Program}{w:World}{e:TypeId}{ops:Array Oper}{o:Oper}{a:Act}{F:List Nat}{v:Value}
def Ux {α:Type}{t:TypeId}{s bytes:Nat}(E:Jk P t e s bytes){K:Act->World->Prop}{K2:Exit->Act->World->Prop}{K3:Prop}(hgd:o.guard=none)(sl x:Operand)
  (ho:o.op= .call {callee:= .builtin .append,args:=#[sl,x],argTypes:=#[t,t]}) {Q:D9 α} (hQ:IB Q) (C9: ∀ w vs x F,Q w vs x F-> ∀ u,u∈vs->u.oneCell'=true) (B:Nat) (v:Value) (xs:List α) (F:List Nat) (hs:a.eval sl=v) (hrow:AO e s Q w v xs F)
  (b:Nat) (cs:Array Value) (et:TypeId) (fr:Nat×Nat) (y:α) (G:List Nat) (hx:a.eval x= .slice (Qb b 0) 1 1) (hblk:w.heap[b]?=some (.cells cs et fr)) (hcs:cs.size=s) (hq:Q w cs.toList y G)
  (hn:xs.length+1<1000000000) (hB:B<=w.heap.size) (nF:Af B w F) (nG:Af B w G) (hd: ∀ k,k∈F->k∉G)
  (h: ∀ g cap w1 F',MJ e s Q B w w1 xs F G y g cap F'->K (a.put o.dst<|.slice (Qb g 0) (xs.length+1) cap) w1):if Region.wanted o (yielded ops a.tmps)=true then Oper.wp P o a w K K2 else K3:=by
 obtain⟨zs,hown,hz,rfl,rfl,hl⟩:=hrow;refine Z7g E hgd sl x ho 0 v zs.length _ hs hown b cs et fr hx hblk hcs (C9 w _ _ _ hq) (by simpa using hl) (Ii _) fun g cap w1 ha=>?_
 have:=Z4o (cs:=cs) (y:=y) (G:=G) hQ hz hcs hq (by simpa using hn) nF nG hd hB ha
 have h2:=h g cap w1 _ this;simpa using h2
def Zm4 {rest:List Oper}{Q:Exit->Act->World->Prop}(hgd:o.guard=none)(ty:TypeId)(x y:Operand)(ho:o.op= .store ty x y)(g off:Nat)(cells cur nv:Array Value)(hx:a.eval x= .pointer (Qb g off))(hy:a.eval y= .agg cells)(t:TypeId)(hg:w.heap[g]?=some (.cells cur t (0,0)))(hi:(P.info? ty).map (·.size)=some cells.size)(BG:off+cells.size<=cur.size)(h1:cells.all (·.oneCell')=true)(Ou:(cur.toList.take off++cells.toList++cur.toList.drop (off+cells.size)).toArray=nv)(h:wpList P ops Q rest (a.put o.dst undef) (w.setRow g nv)):wpList P ops Q (o::rest) a w:=by
 refine wpList_plain hgd fun K hK=>?_;have hst:=run_storeCells_at P g off t cells.toList 0 cur w hg (by simpa using BG) fun v hv=>(Array.all_eq_true_iff_forall_mem.1 h1) v (by simpa using hv);simp only[Oj,UE]at hst;rw[Ou]at hst;have hrun:(storeVar ty ⟨g,off,none⟩<|.agg cells).run P w= .ok () (w.setRow g nv):=by
  cases hq:P.info? ty with
  | none=>simp[hq]at hi
  | some i=>
   have hs:cells.size=i.size:=by simp[hq]at hi;omega
   simp[storeVar,sizeOf,typeInfo,hq,Value.cells,hs,hst]
 unfold Oper.wp execOp;simp only[ho,hx,hy,Instr.storeAt,Instr.sureAddr,QM,Sem.run_pure,Rw,hrun];exact hK _ _ h
def LQ:D9 ByteArray:=fun _ vs x F=>F=[]/\xK vs x
def LQ.stable:IB LQ:=fun _ _ _ _ _ h _=>h
def LQ.one {vs:List Value}{x:ByteArray}(h:LQ w vs x F): ∀ u,u∈vs->u.oneCell'=true:=by
 obtain⟨_,p1,n1,c1,p2,n2,c2,p3,n3,c3,rfl,_⟩:=h;intro u hu;simp at hu;rcases hu with rfl | rfl | rfl | rfl <;> rfl
def AO.texts {ty:Q8}{d:Nat}{xs:List (ByteArray×Bk)}(h:AO e 4 (Hf ty d) w v xs F):AO e 4 LQ w v (xs.map (·.1)) v.ownBlock.toList/\ ∀ k,k∈v.ownBlock.toList->k∈F:=by
 obtain⟨zs,ho,hz,rfl,rfl,hl⟩:=h;refine⟨⟨zs.map fun z=>(z.1,z.2.1.1,[]),?_,?_,?_,?_,?_⟩,fun k hk=>UF _ hk⟩
 ·rw[Nw,List.map_map];exact ho
 ·intro z hzm;obtain⟨y,hy,rfl⟩:=List.mem_map.1 hzm;refine⟨(hz y hy).1,rfl,?_⟩;obtain⟨p,c,p',c',p2,c2,hv⟩:=Hf.vals (hz y hy).2;obtain⟨vb,_,hs,_⟩:=(hz y hy).2;exact⟨p,_,c,p',_,c',p2,_,c2,hv,hs⟩
 ·rw[List.map_map,List.map_map];rfl
 ·have:(zs.map fun z=>(z.1,z.2.1.1,([]:List Nat))).map (·.2.2)=zs.map (fun _=>[]):=by rw[List.map_map];rfl
  rw[this];simp
 ·rw[Nw];exact hl
def AO.links {ts:List ByteArray}(h:AO e 4 LQ w v ts F)(hF: ∀ k,k∈F->k<w.heap.size): ∃ p c,v= .slice p ts.length c/\Ap 4 (Qp w.heap.size w) p ts:=by
 obtain⟨p,c,hv,_,hr⟩:PK 4 (Qp w.heap.size w) v ts:=h.rowOf hF fun b o vs x G hc hb hG hq=>by
  obtain⟨_,p1,n1,c1,p2,n2,c2,p3,n3,c3,rfl,hx⟩:=hq;exact⟨hb,hx,p1,n1,c1,p2,n2,c2,p3,n3,c3,hc 0 zx,hc 1 zx,hc 2 zx,hc 3 zx⟩
 exact⟨p,c,hv,hr⟩
end Go.W
namespace Go.P
variable {a:Nat->Addr}{N:Nat}{w:World}
def Aa.PD {u:World}(h:Aa a w)(hb:Below N w u)(hN:23<=N):Aa a u:=by
 obtain⟨w0,h0,h1⟩:=h;exact⟨w0,h0,fun g o hg=>⟨Ba (h1 g o hg).1 hb.size,(hb.cell (p:=⟨g,o,none⟩)<|Ba hg hN).trans (h1 g o hg).2⟩⟩
def Z1u (S:Bool)(v:Value){z l:List Value}(hz:z.length=32)(hl:l.length=32):((C8 S v z).toList.take 2++l.toArray.toList++(C8 S v z).toList.drop (2+l.toArray.size)).toArray=C8 S v l:=by
 simp[C8,hz,hl]
def cB (n:Nat) (x:Bk):Int:=if n=8 then 4 else Ib x
def Ybh (V:E8){B D C:Nat}{S:Bool}{v:Value}{tag:List UInt8}{ts:List ByteArray}{F:List Nat}{vs:List Value}{x:Bk}(Z:Aa a w)(hB:B<=N)(hg:23<=N)(rQ:N<=C)(hC:AJ w C (C8 S v<|Lib.byteCells tag) 114)(ht:tag.length=32)(hR:AO 108 4 LQ w v ts F)(hN:Af N w F)(aZ:C∉F)(hS:DW B w D vs x)(h8:ts.length<=8):
  Calls prog 39 #[.pointer<|Qb C 0,.agg vs.toArray] w fun e w'=>e= .returned (BS a<|cB ts.length x)/\Below N w w'/\(cB ts.length x=0-> ∃ v' F',AJ w' C (C8 S v'<|Lib.byteCells<|DV ⟨tag.toArray⟩ [DU x]) 114/\AO 108 4 LQ w' v' (ts++[DU x]) F'/\Af N w' F'/\C∉F'):=by
 have hsz:N<=w.heap.size:=AU rQ<|Nat.le_of_lt hC.lt;have hCl:=hC.lt;obtain⟨p,c,rfl⟩:=AO.form hR;have c1:w.cell? ⟨C,1,none⟩=some (.slice p ts.length c):=hC.cell 1;have B0:=fun o=>(AQ w.heap.size w).alloc lr o;have CE:=AA fun o=>Zr0 V (Z.below<|B0 o) (by simp;omega) (DW.carry hS<|BJ (B0 o)<|AU hB hsz);have ZZ:=AA Z;have HC:=AA<|AF hC<|AF hR<|AF hN aZ;have z4:=fun o=>Aq Z.c4 (B0 o);obtain⟨q1,k1,q2,k2,q3,k3,rfl,_⟩:=hS;clear Z V hC hR hN aZ;obtain⟨n,hn⟩: ∃ n,AC (ts.length=n):=⟨_,⟨rfl⟩⟩;rw[hn.out]at c1 h8⊢;go_in
 by_cases ek:n=8
 ·have g:((n:Int)==8)=true:=by rw[DJ];omega
  have E4:AC (cB n x=4):=⟨if_pos ek⟩;clear ek CE;go_wp2
  go_ret
  exact⟨by rw[E4.out];rfl,(B0 _).mono hsz,fun h=>absurd (E4.out.symm.trans h) zu⟩
 ·have g:((n:Int)==8)=false:=by rw[BK];omega
  have E4:AC (cB n x=Ib x):=⟨if_neg ek⟩;clear ek z4;go_wp2_with fail
  refine(CE.out _).mono ?_;rintro e w2 ⟨rfl,hb2⟩;have B2:=AA<|(B0 _).trans<|hb2.mono zw;by_cases he:Ib x=0
  ·have LX:=AA<|(AJ.new w #[.slice q1 x.facts.length k1,.slice q2 x.rules.length k2,.slice q3 x.checks.length k3] 38).of<|hb2.block _ zw;obtain⟨y0,y1,y2,sy⟩:=LX.out.three;have C2:=HC.out.1.of<|B2.out.block _ hCl;rw[hn.out]at C2;have c2:w2.cell? ⟨C,1,none⟩=some (.slice p n c):=C2.cell 1;have s2:=C2.soft;have rZ:=C2.lt;have hX2:=LX.out.lt;have Sd:=Zf x;obtain⟨tx,YF⟩: ∃ tx,AC (DU x=tx):=⟨_,⟨rfl⟩⟩;rw[YF.out]at Sd⊢;have R2:AC (AO 108 4 LQ w2 (.slice p n c) ts F):=⟨by
    have:=AO.stable LQ.stable _ w2 _ _ _ HC.out.2.1 fun k hk=>B2.out.block k (HC.out.2.2.1.lt k hk)
    rw[hn.out]at this;exact this⟩
   have N2:AC (Af N w2 F):=⟨HC.out.2.2.1.later lr B2.out.size⟩;have HC2:=AA C2;rw[he,Ih];clear CE hb2 c1 C2;go_wp2
   go_region_law (refine Ux Zvq rfl (.tmp 26) (.tmp 30) rfl LQ.stable (fun _ _ _ _ h=>LQ.one h) N (.slice p n c) ts F rfl (AO.stable LQ.stable _ _ _ _ _ R2.out fun j hj=>Ah _ _ _ (N2.out.lt j hj)) w2.heap.size #[.string tx,.slice q1 x.facts.length k1,.slice q2 x.rules.length k2,.slice q3 x.checks.length k3] 108 (0,0) tx [] rfl (IC _ _) rfl ⟨rfl,q1,_,k1,q2,_,k2,q3,_,k3,rfl,zx⟩ (by rw[hn.out];omega) (by have:=B2.out.size;simp;omega) (N2.out.later lr zw) (Af.nil _ _) (fun _ _ h=>by cases h) ?_;intro g5 NP w5 F5 AM;have c5:w5.cell? ⟨C,1,none⟩=some (.slice p n c):=(Am (a:=⟨C,1,none⟩)<|(AM.same C (by simp;omega) HC.out.2.2.2).trans<|Ah _ _ _ rZ).trans c2;have s5: ∀ j,w5.frozen? ⟨C,j,none⟩=false:=fun j=>(Xj (a:=⟨C,j,none⟩)<|(AM.same C (by simp;omega) HC.out.2.2.2).trans<|Ah _ _ _ rZ).trans (s2 j))
   all_goals
    have hl5:w2.heap.size+1<=w5.heap.size:=by have:=AM.size;simpa using this
    have C5:AJ w5 C (C8 S (.slice p n c)<|Lib.byteCells tag) 114:=HC2.out.of<|(AM.same C (by simp;omega) HC.out.2.2.2).trans<|Ah _ _ _ rZ;have xq:AC (C∉F5):=⟨fun h=>by
     rcases AM.sub C h with h | h | h
     ·exact HC.out.2.2.2 h
     ·cases h
     ·simp at h;omega⟩
    have C6:AC (AJ (w5.setCell ⟨C,1,none⟩<|.slice (Qb g5 0) (ts.length+1) NP) C (C8 S (.slice (Qb g5 0) (ts.length+1) NP)<|Lib.byteCells tag) 114):=⟨C5.set 1 _⟩;have R6:AC (AO 108 4 LQ (w5.setCell ⟨C,1,none⟩<|.slice (Qb g5 0) (ts.length+1) NP) (.slice (Qb g5 0) (ts.length+1) NP) (ts++[tx]) F5):=⟨AO.stable LQ.stable _ _ _ _ _ AM.row fun j hj=>Au _ _ _ _ (fun e=>xq.out (by rw[show C=j from e.symm];exact hj))⟩;have N6:AC (Af N (w5.setCell ⟨C,1,none⟩<|.slice (Qb g5 0) (ts.length+1) NP) F5):=⟨AM.new.later lr zw⟩;have B6:AC (Below N w<|w5.setCell ⟨C,1,none⟩<|.slice (Qb g5 0) (ts.length+1) NP):=⟨Below.setCell ⟨AM.os.trans B2.out.os,AM.tape.trans B2.out.tape,AM.output.trans B2.out.output,by have:=B2.out.size;omega,fun j hj=>(AM.same j (by have:=B2.out.size;simp;omega) (fun h=>by have:=N2.out.ge j h;omega)).trans ((Ah _ _ _ (by have:=B2.out.size;omega)).trans<|B2.out.block j zx)⟩ (p:=⟨C,1,none⟩) rQ _⟩;clear AM c5 s5 C5 hl5;generalize w5.setCell ⟨C,1,none⟩ (.slice (Qb g5 0) (ts.length+1) NP)=W6 at*;generalize (.slice (Qb g5 0) (ts.length+1) NP:Value)=v6 at*;have yJ:=C6.out;have hrg:W6.rangeAt C 2 (Lib.byteCells tag):=fun j u hj=>by
     rw[AJ.cell yJ,C8,Qz,Nat.add_comm 2 j];exact hj
    have Ya:(Lib.byteCells tag).length=32:=by rw[Lib.byteCells_length,ht]
    have yI:=AA<|Zva (t:=tx) (ZZ.out.PD B6.out hg) ht zx;unfold Ha at yI;go_wp2_with (refine wpList_load_mid rfl 111 (.tmp 37) rfl C 2 rfl (Lib.byteCells tag) _ hrg underlying111 rfl (by rw[Ya];kernel_rfl) ?_)
    refine mq yI.out ?_;rintro w7 Eu;have C7:=C6.out.of<|Eu.block _<|AJ.lt yJ;have Qa:(DV ⟨tag.toArray⟩ [tx]).length=32:=Oh _;have kS:(Lib.byteCells<|DV ⟨tag.toArray⟩ [tx]).length=32:=by rw[Lib.byteCells_length,Qa]
    have Ou:=Z1u S v6 Ya kS;have qi:(prog.info? 111).map (·.size)=some (Lib.byteCells<|DV ⟨tag.toArray⟩ [tx]).toArray.size:=bM Qa;have R7:=AA<|AF (Eu.mono<|AU hsz B6.out.size) fun j (hj:j∈F5)=>Eu.block j (N6.out.lt j hj);have MC:=AA Eu.size;clear yJ hrg Eu yI;go_wp2_with (refine Zm4 rfl 111 (.tmp 42) (.tmp 40) rfl C 2 (Lib.byteCells<|DV ⟨tag.toArray⟩ [tx]).toArray (C8 S v6<|Lib.byteCells tag) _ rfl rfl 114 C7 qi (by rw[Uz _ _ Ya,E9,kS];decide) (Xc _) Ou ?_)
    go_ret
    refine⟨by rw[E4.out,he];rfl,((B6.out.trans R7.out.1).Br _ rQ),fun _=>⟨v6,F5,?_,?_,N6.out.later lr (by rw[ET];exact MC.out),xq.out⟩⟩
    ·rw[YF.out];exact Gj _ _ _ _ _ _ C7
    ·rw[YF.out];exact AO.stable LQ.stable _ _ _ _ _ R6.out fun j hj=>(Db w7 C j _ fun e=>xq.out (by rw[<- e];exact hj)).trans (R7.out.2 j hj)
  ·rw[DC _ he];clear CE hb2;go_wp2
   go_ret
   exact⟨by rw[E4.out,DC _ he];rfl,B2.out.mono hsz,fun h=>absurd (E4.out.symm.trans h) he⟩
end Go.P
namespace Go.P
variable {w:World}{p:Nat}{fs:List (ByteArray×Nat)}{vs:List T}{F:List Nat}
def Z5z (h:Bv w p fs vs F)(x:ByteArray×Nat)(hn:OU x fs):
  Calls prog 248 #[.pointer<|Qb p 0,.agg (He x).toArray] w fun e w'=>e= .returned (.bool false)/\Bl w w':=by
 obtain⟨k,r,fv,vv,Ff,Fv,hw⟩:=h;have hk: ∀ o,Qq (w.alloc o).drew k fs:=fun o=>hw.know.of (Ah _ _ _ hw.know.lt);have hk2: ∀ o o',Qq ((w.alloc o).alloc o').drew k fs:=fun o o'=>(hk o).of (Ah _ _ _ (hk o).lt);have hlk:=fun o=>Zpw (hk o) hn;have hlk2:=fun o o'=>Zpw (hk2 o o') hn;have B0:=fun o=>(AQ w.heap.size w).alloc lr o;have B1:=fun o o'=>(B0 o).alloc zw o';have p1:=fun o=>(hw.blk.alloc o).four.2.1;have p2:=fun o o'=>((hw.blk.alloc o).alloc o').four.2.1;unfold He at*;clear hk hk2 hw;go_in
 go_wp2
 go_region
 all_goals
  go_wp2
  go_ret
  exact⟨rfl,(B1 _ _).drew⟩
def Z8p:Jk prog 314 320 8 72:=by
 obtain⟨i0,hi,hz0,hz1,hz2⟩:=info_parts (by kernel_rfl:(prog.info? 320).map (fun i=>(i.zero,i.size,i.bytes))=some (some<|.agg #[.string ⟨#[]⟩,.int .i64 0,.int .i64 0,.int .i64 0,.int .i64 0,.int .i64 0,.int .i64 0,.int .i64 0],8,72));exact⟨i0,_,underlying314,hi,hz0,hz1,hz2,rfl,zu,zu⟩
def Z0q (h:Bv w p fs vs F)(x:ByteArray×Nat)(hn:OU x fs)(hl:fs.length<60):
  Calls prog 223 #[.pointer<|Qb p 0,.agg (He x).toArray] w fun e w'=>e= .returned (.bool true)/\ ∃ F',Bv w' p (fs++[x]) vs F'/\Off F w w'/\ ∀ i,i∈F'->i∈F\/w.heap.size<=i:=by
 have CK:=AA fun o=>Z5z (h.of (w':=w.alloc o) zw fun j hj=>Ah _ _ _ (h.lt j hj)) x hn;obtain⟨k,r,fv,vv,Ff,Fv,hw⟩:=h;obtain⟨pv,cv,rfl⟩:=hw.facts.form;have H:=AA hw;have UP:=AA fun u (hu:Qq u k fs)=>Zzr hu hn;have hl60:((fs.length:Int)==60)=false:=by rw[BK];omega
 unfold He at CK UP⊢;clear hw hn;go_in
 go_wp2_with fail
 refine(CK.out _).mono ?_;rintro e w2 ⟨rfl,hb2⟩;have HB:=AA<|((AQ w.heap.size w).alloc lr _).trans<|hb2.mono zw;have L2:=AA<|(AJ.new w #[.string x.1,.int .i64 1,.int .i64 (x.2:Int),.int .i64 0,.int .i64 0,.int .i64 0,.int .i64 0,.int .i64 0] 320).of<|hb2.block w.heap.size zw;obtain⟨t0,t1,t2,t3,t4,t5,t6,t7,ts⟩:=L2.out.eight;have D2:=AA<|H.out.below HB.out;obtain⟨p0,p1,p2,p3,ps⟩:=D2.out.blk.four;clear hb2 CK;obtain⟨ob,RP,EV⟩:=UP.out w2.drew D2.out.know;obtain⟨W5,hW5⟩: ∃ W5,AC ({w2.drew with heap:=w2.drew.heap.setIfInBounds k ob}=W5):=⟨_,⟨rfl⟩⟩;rw[hW5.out]at RP EV;go_wp2
 go_region
 have O5:AC (Off [k] w2.drew W5):=⟨hW5.out▸(Off.refl _ w2.drew).put k ob zw⟩;have Xm:=AA EV;obtain⟨⟨pk,pr,Ph,pvF⟩,⟨kr,kf,kv⟩,_,nf,_,_⟩:=D2.out.apart;have hwk:w.heap.size≠k:=fun e=>by have:=H.out.know.lt;omega
 have b5:W5.heap[p]?=w2.heap[p]?:=O5.out.block p D2.out.blk.lt (by simpa using pk);obtain⟨e0,e1,e2,e3,es⟩:=(D2.out.blk.of b5).four;have L5:=AA<|L2.out.of<|O5.out.block w.heap.size L2.out.lt (by simpa using hwk);obtain⟨u0,u1,u2,u3,u4,u5,u6,u7,us⟩:=L5.out.eight;have L8: ∀ j,j∈Ff->j<w2.heap.size:=fun j hj=>D2.out.new.lt j (by rw[D2.out.own];simp[hj]);have R5:=AA (AO.stable Py.stable _ W5 _ _ _ D2.out.facts fun j hj=>O5.out.block j (L8 j hj) (fun e=>kf (by rw[<- MX.1 e];exact hj)));have N5:AC (Af 0 W5 Ff):=⟨nf,fun _ _=>Ii _,fun j hj=>Ba (L8 j hj) O5.out.size⟩;have Dv:p<W5.heap.size:=Ba D2.out.blk.lt O5.out.size;have di:=L5.out.lt;clear EV L8 b5 t0 t1 t2 t3 t4 t5 t6 t7 ts p0 p1 p2 p3 ps RP UP pk pr pvF kr kf kv nf;go_wp2
 go_region_law (refine Ux Z8p rfl (.tmp 26) (.tmp 28) rfl Py.stable (fun _ _ _ _ h=>Py.one h) 0 (.slice pv fs.length cv) fs Ff rfl (AO.stable Py.stable _ _ _ _ _ R5.out fun j hj=>Ah _ _ _ (N5.out.lt j hj)) W5.heap.size #[.string x.1,.int .i64 1,.int .i64 (x.2:Int),.int .i64 0,.int .i64 0,.int .i64 0,.int .i64 0,.int .i64 0] 320 (0,0) x [] rfl (IC _ _) rfl ⟨rfl,rfl⟩ zx (Ii _) (N5.out.later lr zw) (Af.nil _ _) (fun _ _ h=>by cases h) ?_;intro g6 Bt w6 F6 AM;have b6:=(AM.same p (by simp;omega) Ph).trans<|Ah _ _ _ Dv;have c6:=(Am (a:=⟨p,0,none⟩) b6).trans e0;have s6:=fun j=>(Xj (a:=⟨p,j,none⟩) b6).trans (es j))
 all_goals
  obtain⟨F',gZ,hF2,gY⟩:=D2.out.tK ⟨O5.out.os,O5.out.tape,O5.out.output,O5.out.size,O5.out.block⟩ Xm.out (((Off.refl _ W5).alloc _).drew) AM rfl;have Do:=AA<|AF gZ<|AF hF2 gY;clear gZ hF2 gY AM b6 c6 s6;go_wp2
  go_ret
  exact⟨rfl,F',Do.out.1,(Off.of HB.out).trans Do.out.2.1 fun _ h=> .inl h,fun i hi=>(Do.out.2.2 i hi).imp id (fun h=>AU HB.out.size h)⟩
end Go.P
