import Derived.Test.YtaoiihbjdonaoaaGreatDoorW17
import Derived.ChangeKeysEq
set_option linter.defProp false
set_option maxRecDepth 100000
set_option maxHeartbeats 8000000
set_option linter.unusedSimpArgs false
open Go.Proofs Go.RowKit Go.W Tryz
namespace Go.W
def _root_.Go.RowKit.Below.WU {B:Nat}{a w:World}(h:Below B a w)(n:Nat):Below B a (w.drewN n):=⟨h.os,h.tape,h.output,h.size,h.block⟩
def Zho {P:Program}{ops:Array Oper}{S:World->Prop}{o:Oper}{v:Value}{a:Act}(hgd:o.guard=none)(ty:TypeId)(ps:Array (Nat×Operand))(ho:o.op= .build ty ps)(pv:Array (Nat×Value))(hp:ps.map (fun p=>(p.1,a.eval p.2))=pv)(h: ∀ u,S u->(Instr.build ty pv).run P u= .ok v u):YieldsIf P ops S o v a:=
 Or.inl ⟨by simp[Region.wanted,hgd],fun u hS=>by
  unfold execOp;rw[ho];simp only[hp,Uz,Sem.run_pure,Vs,h u hS]⟩
end Go.W
namespace Go.P
def O9 (key:ByteArray):Bool:=decide<|0<key.size/\key.size<=100
def qW (key:ByteArray)(hk:key.size<1000000000)(w:World):Calls prog 34 #[.string key] w fun e w'=>e= .returned (.bool<|O9 key)/\w'=w:=by
 by_cases h0:key.size=0
 ·obtain rfl:key=ByteArray.empty:=jy<|(M9<|(gL key).trans h0).trans (by rw[Nw];rfl);go_in
  go_wp2
  go_ret
  exact⟨rfl,rfl⟩
 ·have g:key.toList.isEmpty=false:=by
   rw[List.isEmpty_eq_false_iff];intro h
   have:=gL key
   rw[h]at this;simp at this;omega
  have HE:AF (O9 key=decide ((key.size:Int)<=100)):=⟨by unfold O9;rw[decide_eq_decide];omega⟩;go_in
  go_wp2
  go_ret
  exact⟨by rw[HE.out];rfl,rfl⟩
def LQ (key:ByteArray) (x:Bk):Int:=if O9 key then Ic x else 8
def Ji (key:ByteArray) (x:Bk):ByteArray:=if O9 key/\Ic x=0 then KT false [A7 x] (Bt key [A7 x])else ByteArray.empty
def Xu (key t:ByteArray) (B:Nat) (v1 v2 v3 t8 t24 t27 t28 t29:Value):Act:={tmps:=#[.string key,.agg #[v1,v2,v3],undef,zq B 0,.string ⟨#[]⟩,.nilIface,.string t,.nilIface,t8,.string key,.bool true,.bool false,undef,.tuple #[.string t,.nilIface],.agg #[v1,v2,v3],.tuple #[.string t,.nilIface],.string t,.nilIface,.nilIface,.bool false,undef,.string t,.agg #[v1,v2,v3],.agg #[.string t,v1,v2,v3],t24,.string key,.string t,t27,t28,t29,undef,undef],defers:=[]}
def Yji (w2:World) (key t:ByteArray) (B:Nat) (v1 v2 v3:Value) (d1 d2 d3 d4:Bool) (a:Act) (u:World):Prop:= ∃ Lk Lt Lc:Nat,
 a=Xu key t B v1 v2 v3 (if d4 then zq Lc 0 else undef) (if d1 then .slice (Qb Lk 0) 1 1 else undef) (if d2 then .slice (Qb Lt 0) 1 1 else undef) (if d3 then Ip (Bt key [t])else undef) undef/\
 (d1=true->AO u Lk #[.string t,v1,v2,v3] 110/\w2.heap.size<=Lk)/\(d2=true->AO u Lt #[.string t] 9)/\(d4=true->AO u Lc BH 82/\w2.heap.size<=Lc)/\(d1=true->d4=true->Lk≠Lc)/\Bl w2 u/\AO u B #[v1,v2,v3] 33
def bL (x:Bk):(A7 x).size<=4000:=by
 unfold A7;split
 ·rename_i h;unfold Ic at h;split at h
  ·rename_i h';exact absurd h h'
  ·split at h
   ·cases h
   ·omega
 ·decide
def Yen {α:Type}{l:List α}(h:l.length=32): ∃ a0 a1 a2 a3 a4 a5 a6 a7 a8 a9 b0 b1 b2 b3 b4 b5 b6 b7 b8 b9 c0 c1 c2 c3 c4 c5 c6 c7 c8 c9 d0 d1,l=[a0,a1,a2,a3,a4,a5,a6,a7,a8,a9,b0,b1,b2,b3,b4,b5,b6,b7,b8,b9,c0,c1,c2,c3,c4,c5,c6,c7,c8,c9,d0,d1]:=by
 match l,h with
 | [a0,a1,a2,a3,a4,a5,a6,a7,a8,a9,b0,b1,b2,b3,b4,b5,b6,b7,b8,b9,c0,c1,c2,c3,c4,c5,c6,c7,c8,c9,d0,d1],_=>exact⟨_,_,_,_,_,_,_,_,_,_,_,_,_,_,_,_,_,_,_,_,_,_,_,_,_,_,_,_,_,_,_,_,rfl⟩
def Zp4 {T:List UInt8}(h:T.length=32)(L:Nat)(w:World):(Instr.build 82 #[(1,.slice (Qb L 0) 1 1),(2,Ip T)]).run prog w= .ok (.agg<|DC false (.slice (Qb L 0) 1 1)<|Lib.byteCells T) w:=by
 obtain⟨a0,a1,a2,a3,a4,a5,a6,a7,a8,a9,b0,b1,b2,b3,b4,b5,b6,b7,b8,b9,c0,c1,c2,c3,c4,c5,c6,c7,c8,c9,d0,d1,rfl⟩:=Yen h;kernel_rfl
def jw (S:Bool){ts:List ByteArray}{tag:List UInt8}(hn:ts.length<=8)(ht: ∀ t,t∈ts->t.size<=4000)(hl:tag.length=32):(KT S ts tag).size<1000000000:=by
 have h1:(BO Em ts).size<=11+8*4011:=Zg hn fun x hx=>by
  rw[Em,BM]
  have:=qC x.size
  have:=ht x hx
  omega
 rw[KT,BM,BM,BM,Lh,Uk tag,hl]
 have:(ba Nr).size=4:=rfl
 omega
def Ycv (V:D9){a:Nat->Addr}{B D:Nat}{w:World}{key:ByteArray}{vs:List Value}{x:Bk}(Z:AZ a w)(hk:key.size<1000000000)(hB:B<=w.heap.size)(hS:EZ B w D vs x):
  Calls prog 19 #[.string key,.agg vs.toArray] w fun e w'=>e= .returned (.tuple #[.string<|Ji key x,BG a<|LQ key x])/\Bl w w':=by
 have CK:=AC fun u=>qW key hk u;have B0:=fun o=>(AR w.heap.size w).alloc lr o;have CE:=AC fun o=>Ztl V (Z.below<|B0 o) (by simp;omega) (EZ.carry hS<|Bq (B0 o) hB);have ZZ:=AC Z;have HS:=AC hS;have z8:=Z.c8;obtain⟨p1,c1,p2,c2,p3,c3,rfl,_⟩:=hS;clear Z V;go_in
 go_wp2_with fail
 refine(CK.out _).mono ?_;rintro e w1 ⟨rfl,rfl⟩;by_cases hkey:O9 key=true
 ·have HM:AF (LQ key x=Ic x/\(Ic x=0->Ji key x=KT false [A7 x] (Bt key [A7 x]))/\(Ic x≠0->Ji key x=ByteArray.empty)):=⟨by unfold LQ;rw[if_pos hkey],fun h=>by unfold Ji;rw[if_pos ⟨hkey,h⟩],fun h=>by unfold Ji;rw[if_neg fun q=>h q.2]⟩;rw[hkey];go_wp2_with fail
  refine(CE.out _).mono ?_;rintro e w2 ⟨rfl,hb2⟩;have B2:=AC<|(B0 _).trans<|hb2.mono zw;by_cases hn:Ic x=0
  ·have LX:=AC<|(AO.new w #[.slice p1 x.facts.length c1,.slice p2 x.rules.length c2,.slice p3 x.checks.length c3] 33).of<|hb2.block _ zw;obtain⟨y0,y1,y2,sy⟩:=LX.out.three;rw[hn,JR];clear CE CK hb2 z8;go_wp2_with fail
   have H7:=bL x;obtain⟨t,ht⟩: ∃ t,AF (A7 x=t):=⟨_,⟨rfl⟩⟩;rw[ht.out]at H7⊢;clear y0 y1 y2 sy;refine Zh (S:=fun u=>AO u w.heap.size #[.slice p1 x.facts.length c1,.slice p2 x.rules.length c2,.slice p3 x.checks.length c3] 33) zt ?_;change wpAnyH _ _ _ _ _ _ _ _ (World.drew _);have AY:AO w2.drew w.heap.size #[.slice p1 x.facts.length c1,.slice p2 x.rules.length c2,.slice p3 x.checks.length c3] 33:=LX.out;refine tk 0 (.string t) AY ?_;simp only[Act.put];refine wpAnyH_take (i:=1) (oi:={dst:=some 22,op:= .load 33<|.tmp 3,type:=33,pos:= "warrant.go:188",after:=#[],guard:=none}) (v:= .agg #[.slice p1 x.facts.length c1,.slice p2 x.rules.length c2,.slice p3 x.checks.length c3]) rfl zt zt zt (fun _ _ _ h=>h) (wP rfl 33 (.tmp 3) rfl (zm w.heap.size 0) rfl fun u hS=>Vo u w.heap.size 33 33 _ _ _ hS underlying33 rfl zt) AY ?_;simp only[Act.put];refine tk 2 (.agg #[.string t,.slice p1 x.facts.length c1,.slice p2 x.rules.length c2,.slice p3 x.checks.length c3]) AY ?_;simp only[Act.put];refine tk 4 (.string key) AY ?_;simp only[Act.put];refine tk 5 (.string t) AY ?_;change wpAnyH _ _ _ _ _ (2+4) ((fun d1 d2 d3 d4=>#[true,true,true,d1,true,true,d2,d3,false,d4,false]) false false false false) (Xu key t w.heap.size (.slice p1 x.facts.length c1) (.slice p2 x.rules.length c2) (.slice p3 x.checks.length c3) undef undef undef undef undef) _;have hlt0:w.heap.size<w2.heap.size:=LX.out.lt;have Z2: ∀ u,Bl w2 u->AZ a u:=fun u hu=>(ZZ.out.below B2.out).below hu;refine Z7a (fun d1 d2 d3 d4=>#[true,true,true,d1,true,true,d2,d3,false,d4,false]) 3 6 7 9 _ _ _ _ (Yji w2 key t w.heap.size (.slice p1 x.facts.length c1) (.slice p2 x.rules.length c2)<|.slice p3 x.checks.length c3) 2 (fun d1 d2 d3 d4 a u hJ=>?_) rfl rfl rfl rfl (fun d1 d2 d3 d4 h hn=>?_) (fun d2 d3 d4=>rfl) (fun d1 d3 d4=>rfl) (fun d1 d2 d4=>rfl) (fun d1 d2 d3=>rfl) (fun d2 d3 d4 a u hJ K hK=>?_) (fun d1 d4 a u hJ K hK=>?_) (fun d1 d4 a u hJ K hK=>?_) (fun d1 d2 d3 a u hJ K hK=>?_) (fun d4 a u hJ=>?_) 4 false false false false rfl (fun h=>by cases h) _ _ ⟨0,0,0,rfl,(fun h=>by cases h),(fun h=>by cases h),(fun h=>by cases h),(fun h=>by cases h),(AR _ w2).drew,AY⟩
   ·obtain⟨Lk,Lt,Lc,_,_,_,_,_,_,hb⟩:=hJ;exact hb
   ·cases d1 <;> cases d2 <;> cases d3 <;> cases d4 <;> first | (exact absurd (h rfl) zu) | (exact absurd hn zu) | kernel_rfl
   ·obtain⟨Lk,Lt,Lc,rfl,h1,h2,h4,Yx,hb,Rk⟩:=hJ;unfold bH Xu;go_simp;exact hK _ _ ⟨u.heap.size,Lt,Lc,rfl,fun _=>⟨AO.new u _ _,hb.size⟩,fun h=>(h2 h).alloc _,fun h=>⟨(h4 h).1.alloc _,(h4 h).2⟩,(fun _ h=>by have:=(h4 h).1.lt;omega),hb.alloc hb.size _,Rk.alloc _⟩
   ·obtain⟨Lk,Lt,Lc,rfl,h1,h2,h4,Yx,hb,Rk⟩:=hJ;unfold bH Xu;go_simp;exact hK _ _ ⟨Lk,u.heap.size,Lc,rfl,fun h=>⟨(h1 h).1.alloc _,(h1 h).2⟩,fun _=>AO.new u _ _,fun h=>⟨(h4 h).1.alloc _,(h4 h).2⟩,Yx,hb.alloc hb.size _,Rk.alloc _⟩
   ·obtain⟨Lk,Lt,Lc,rfl,h1,h2,h4,Yx,hb,Rk⟩:=hJ;unfold bH Xu;go_simp;refine(Zq5 (c:=1) (Z2 u hb) hk (jh (h2 rfl) zx) zw).mono ?_;rintro e u' ⟨rfl,hb'⟩;exact hK _ _ ⟨Lk,Lt,Lc,rfl,fun h=>⟨(h1 h).1.of<|hb'.block _ (h1 h).1.lt,(h1 h).2⟩,fun h=>(h2 h).of (hb'.block _ (h2 h).lt),fun h=>⟨(h4 h).1.of<|hb'.block _ (h4 h).1.lt,(h4 h).2⟩,Yx,hb.trans<|hb'.mono hb.size,Rk.of<|hb'.block _ Rk.lt⟩
   ·obtain⟨Lk,Lt,Lc,rfl,h1,h2,h4,Yx,hb,Rk⟩:=hJ;unfold bH Xu;go_simp;exact hK _ _ ⟨Lk,Lt,u.heap.size,rfl,fun h=>⟨(h1 h).1.alloc _,(h1 h).2⟩,fun h=>(h2 h).alloc _,fun _=>⟨AO.new u BH _,hb.size⟩,(fun h _=>by have:=(h1 h).1.lt;omega),hb.alloc hb.size _,Rk.alloc _⟩
   ·obtain⟨Lk,Lt,Lc,rfl,h1,h2,h4,Yx,hb,Rk⟩:=hJ;have hK:=h1 rfl;have US:(Bt key [t]).length=32:=KZ _;clear h1 h2;cases d4
    case' false=>
     change wpAnyH _ _ _ _ _ 3 _ (Xu key t w.heap.size (.slice p1 x.facts.length c1) (.slice p2 x.rules.length c2) (.slice p3 x.checks.length c3) undef (.slice (Qb Lk 0) 1 1) (.slice (Qb Lt 0) 1 1) (Ip<|Bt key [t]) undef) _;unfold Xu;refine wpAnyH_take (i:=8) (oi:={dst:=some 29,op:= .build 82 #[(1,.tmp 24),(2,.tmp 28)],type:=82,pos:= "warrant.go:188",after:=#[{on:=3,ground:=Ground.data},{on:=7,ground:=Ground.data}],guard:=none}) (v:= .agg<|DC false (.slice (Qb Lk 0) 1 1)<|Lib.byteCells<|Bt key [t]) rfl zt zt zt (fun _ _ _ h=>h) (Zho rfl 82 #[(1,.tmp 24),(2,.tmp 28)] rfl #[(1,.slice (Qb Lk 0) 1 1),(2,Ip<|Bt key [t])] (by simp[Act.eval]) fun u hS=>Zp4 US _ u) Rk ?_;simp only[Act.put];refine MZ (rs:=[9]) zt zw<|ND rfl (fun K' hK'=>?_) M8;go_simp;have hC:AO (u.alloc<|.cells BH 82) u.heap.size BH 82:=AO.new u BH _;have uR:w2.heap.size<=u.heap.size:=hb.size;have hne:Lk≠u.heap.size:=by have:=hK.1.lt;omega
     have uP:=AJ (hK.1.alloc<|.cells BH 82) hK.2;have WJ:=hb.alloc hb.size<|.cells BH 82;have uS:=Rk.alloc<|.cells BH 82;refine hK'.out _ _ uS fun _=>?_;clear hK' K' hK hb Rk h4 Yx;generalize u.heap.size=LC at*;change wpAnyH _ _ _ _ _ _ _ _ (u.alloc<|.cells BH 82);generalize u.alloc (.cells BH 82)=U at*
    case' true=>
     change wpAnyH _ _ _ _ _ 2 _ (Xu key t w.heap.size (.slice p1 x.facts.length c1) (.slice p2 x.rules.length c2) (.slice p3 x.checks.length c3) (zq Lc 0) (.slice (Qb Lk 0) 1 1) (.slice (Qb Lt 0) 1 1) (Ip<|Bt key [t]) undef) _;unfold Xu;refine wpAnyH_take (i:=8) (oi:={dst:=some 29,op:= .build 82 #[(1,.tmp 24),(2,.tmp 28)],type:=82,pos:= "warrant.go:188",after:=#[{on:=3,ground:=Ground.data},{on:=7,ground:=Ground.data}],guard:=none}) (v:= .agg<|DC false (.slice (Qb Lk 0) 1 1)<|Lib.byteCells<|Bt key [t]) rfl zt zt zt (fun _ _ _ h=>h) (Zho rfl 82 #[(1,.tmp 24),(2,.tmp 28)] rfl #[(1,.slice (Qb Lk 0) 1 1),(2,Ip<|Bt key [t])] (by simp[Act.eval]) fun u hS=>Zp4 US _ u) Rk ?_;simp only[Act.put];have hC:=(h4 rfl).1;have uR:=(h4 rfl).2;have hne:=Yx rfl rfl;have uP:=hK;have WJ:=hb;have uS:=Rk;clear hK hb Rk h4 Yx;generalize Lc=LC at*;generalize u=U at*
    all_goals
     refine MZ (rs:=[10]) zt zw<|ND rfl (fun K' hK'=>?_) M8;have hlen:(Lib.byteCells<|Bt key [t]).length=32:=by rw[Lib.byteCells_length,US]
     refine Zhl rfl 82 (.tmp 8) (.tmp 29) rfl LC (DC false (.slice (Qb Lk 0) 1 1)<|Lib.byteCells<|Bt key [t]) rfl rfl 82 BH hC (Wv _ _ hlen) (by rw[Vi _ _ hlen];rfl) (gK _ _ _ _ _) ?_;refine hK'.out _ _ (uS.of<|Db _ _ _ _ zx) fun _=>?_;clear hK' K';refine Uy zt ?_ _;have hR:=GM U LC _ (DC false (.slice (Qb Lk 0) 1 1)<|Lib.byteCells<|Bt key [t]) _ _ hC;have Rh:=uP.1.of<|Db U LC Lk (DC false (.slice (Qb Lk 0) 1 1)<|Lib.byteCells<|Bt key [t]) hne;have MF:=WJ.Ar (g:=LC) (DC false (.slice (Qb Lk 0) 1 1)<|Lib.byteCells<|Bt key [t]) uR;clear hC uP WJ uS;obtain⟨W,hW⟩: ∃ W,U.setRow LC (DC false (.slice (Qb Lk 0) 1 1)<|Lib.byteCells<|Bt key [t])=W:=⟨_,rfl⟩;rw[hW]at hR Rh MF⊢;have hrow:Ap 4 (Uh W.heap.size W) (Qb Lk 0) [t]:=⟨zw,fun i y hi=>by
      cases i with
      | succ i=>simp at hi
      | zero=>
       obtain rfl:t=y:=by simpa using hi
       exact⟨Lk,0,rfl,AO.lt Rh,zx,_,_,_,_,_,_,_,_,_,(AO.four Rh).1,(AO.four Rh).2.1,(AO.four Rh).2.2.1,(AO.four Rh).2.2.2.1⟩⟩
     have CW:=AC<|Zza (S:=false) (c:=1) lr hrow US<|jw false zw (fun y hy=>by have e:y=t:=by{simpa using hy};rw[e];exact H7) US;have RW:=AC<|AJ MF<|AJ (HM.out.2.1 hn) HM.out.1;clear hW hrow Rh MF;go_wp2_with (refine QN rfl 82 (.tmp 8) rfl LC rfl 82 (DC false (.slice (Qb Lk 0) 1 1)<|Lib.byteCells<|Bt key [t]) (0,0) _ hR underlying82 rfl (Wv _ _ hlen) ?_)
     refine mq CW.out ?_;rintro w9 oL;have R9:=AC<|B2.out.trans<|(RW.out.1.trans<|oL.mono RW.out.1.size).mono B2.out.size;clear CW oL;go_wp2
     go_ret2
     exact⟨by rw[RW.out.2.1,RW.out.2.2,hn,JR,ht.out];rfl,R9.out⟩
  ·have E1:AF (LQ key x=Ic x/\Ji key x=ByteArray.empty/\A7 x=ByteArray.empty):=⟨HM.out.1,HM.out.2.2 hn,if_neg hn⟩;rw[BU _ hn];clear CE CK hb2 z8;go_wp2
   go_ret2
   exact⟨by rw[E1.out.1,E1.out.2.1,BU _ hn];rfl,B2.out⟩
 ·have hkey:O9 key=false:=by simpa using hkey
  have HM:AF (LQ key x=8/\Ji key x=ByteArray.empty):=⟨by unfold LQ;rw[hkey];rfl,by unfold Ji;rw[hkey];rfl⟩;have z8':=fun o=>Cb z8 (B0 o);rw[hkey];clear CE CK z8;go_wp2
  go_quiet (fail)
  go_wp2
  go_ret2
  exact⟨by rw[HM.out.1,HM.out.2];rfl,(B0 _).WU _⟩
end Go.P
namespace Go.W
variable {P:Program}{w:World}{e:TypeId}{ops:Array Oper}{o:Oper}{a:Act}{F:List Nat}{v:Value}
def X3 {α:Type}{t:TypeId}{s bytes:Nat}(E:J3 P t e s bytes){K:Act->World->Prop}{K2:Exit->Act->World->Prop}{K3:Prop}(hgd:o.guard=none)(sl x:Operand)
  (ho:o.op= .call {callee:= .builtin .append,args:=#[sl,x],argTypes:=#[t,t]}) {Q:Du α} (hQ:Ii Q) (Bw: ∀ w vs x F,Q w vs x F-> ∀ u,u∈vs->u.oneCell'=true) (B:Nat) (v:Value) (xs:List α) (F:List Nat) (hs:a.eval sl=v) (hrow:AQ e s Q w v xs F)
  (b:Nat) (cs:Array Value) (et:TypeId) (fr:Nat×Nat) (y:α) (G:List Nat) (hx:a.eval x= .slice (Qb b 0) 1 1) (hblk:w.heap[b]?=some (.cells cs et fr)) (hcs:cs.size=s) (hq:Q w cs.toList y G)
  (hn:xs.length+1<1000000000) (hB:B<=w.heap.size) (nF:Ag B w F) (nG:Ag B w G) (hd: ∀ k,k∈F->k∉G)
  (h: ∀ g cap w1 F',O7 e s Q B w w1 xs F G y g cap F'->K (a.put o.dst<|.slice (Qb g 0) (xs.length+1) cap) w1):if Region.wanted o (yielded ops a.tmps)=true then Oper.wp P o a w K K2 else K3:=by
 obtain⟨zs,hown,hz,rfl,rfl,hl⟩:=hrow;refine Yav E hgd sl x ho 0 v zs.length _ hs hown b cs et fr hx hblk hcs (Bw w _ _ _ hq) (by simpa using hl) (Eg _) fun g cap w1 ha=>?_
 have:=Z7q (cs:=cs) (y:=y) (G:=G) hQ hz hcs hq (by simpa using hn) nF nG hd hB ha
 have h2:=h g cap w1 _ this;simpa using h2
def Zny {rest:List Oper}{Q:Exit->Act->World->Prop}(hgd:o.guard=none)(ty:TypeId)(x y:Operand)(ho:o.op= .store ty x y)(g off:Nat)(cells cur nv:Array Value)(hx:a.eval x= zq g off)(hy:a.eval y= .agg cells)(t:TypeId)(hg:w.heap[g]?=some (.cells cur t (0,0)))(hi:(P.info? ty).map (·.size)=some cells.size)(Fj:off+cells.size<=cur.size)(h1:cells.all (·.oneCell')=true)(RH:(cur.toList.take off++cells.toList++cur.toList.drop (off+cells.size)).toArray=nv)(h:wpList P ops Q rest (a.put o.dst undef) (w.setRow g nv)):wpList P ops Q (o::rest) a w:=by
 refine wpList_plain hgd fun K hK=>?_;have hst:=run_storeCells_at P g off t cells.toList 0 cur w hg (by simpa using Fj) fun v hv=>(Array.all_eq_true_iff_forall_mem.1 h1) v (by simpa using hv);simp only[Qs,Vp]at hst;rw[RH]at hst;have hrun:(storeVar ty (zm g off)<|.agg cells).run P w= .ok () (w.setRow g nv):=by
  cases hq:P.info? ty with
  | none=>simp[hq]at hi
  | some i=>
   have hs:cells.size=i.size:=by simp[hq]at hi;omega
   simp[storeVar,sizeOf,typeInfo,hq,Value.cells,hs,hst]
 unfold Oper.wp execOp;simp only[ho,hx,hy,Instr.storeAt,Instr.sureAddr,Uz,Sem.run_pure,Vs,hrun];exact hK _ _ h
def Oe:Du ByteArray:=fun _ vs x F=>F=[]/\Ye4 vs x
def Oe.stable:Ii Oe:=fun _ _ _ _ _ h _=>h
def Oe.one {vs:List Value}{x:ByteArray}(h:Oe w vs x F): ∀ u,u∈vs->u.oneCell'=true:=by
 obtain⟨_,p1,n1,c1,p2,n2,c2,p3,n3,c3,rfl,_⟩:=h;intro u hu;simp at hu;rcases hu with rfl | rfl | rfl | rfl <;> rfl
def AQ.texts {ty:U2}{d:Nat}{xs:List (ByteArray×Bk)}(h:AQ e 4 (Iu ty d) w v xs F):AQ e 4 Oe w v (xs.map (·.1)) v.ownBlock.toList/\ ∀ k,k∈v.ownBlock.toList->k∈F:=by
 obtain⟨zs,ho,hz,rfl,rfl,hl⟩:=h;refine⟨⟨zs.map fun z=>(z.1,z.2.1.1,[]),?_,?_,?_,?_,?_⟩,fun k hk=>Md _ hk⟩
 ·rw[Dj,List.map_map];exact ho
 ·intro z su;obtain⟨y,hy,rfl⟩:=List.mem_map.1 su;refine⟨(hz y hy).1,rfl,?_⟩;obtain⟨p,c,p',c',p2,c2,hv⟩:=Iu.vals (hz y hy).2;obtain⟨vb,_,hs,_⟩:=(hz y hy).2;exact⟨p,_,c,p',_,c',p2,_,c2,hv,hs⟩
 ·rw[List.map_map,List.map_map];rfl
 ·have:(zs.map fun z=>(z.1,z.2.1.1,([]:List Nat))).map (·.2.2)=zs.map (fun _=>[]):=by rw[List.map_map];rfl
  rw[this];simp
 ·rw[Dj];exact hl
def AQ.links {ts:List ByteArray}(h:AQ e 4 Oe w v ts F)(hF: ∀ k,k∈F->k<w.heap.size): ∃ p c,v= .slice p ts.length c/\Ap 4 (Uh w.heap.size w) p ts:=by
 obtain⟨p,c,hv,_,hr⟩:Qi 4 (Uh w.heap.size w) v ts:=h.rowOf hF fun b o vs x G hc hb hG hq=>by
  obtain⟨_,p1,n1,c1,p2,n2,c2,p3,n3,c3,rfl,hx⟩:=hq;exact⟨hb,hx,p1,n1,c1,p2,n2,c2,p3,n3,c3,hc 0 zx,hc 1 zx,hc 2 zx,hc 3 zx⟩
 exact⟨p,c,hv,hr⟩
end Go.W
namespace Go.P
variable {a:Nat->Addr}{N:Nat}{w:World}
def AZ.Rn {u:World}(h:AZ a w)(hb:Below N w u)(hN:23<=N):AZ a u:=by
 obtain⟨w0,h0,h1⟩:=h;exact⟨w0,h0,fun g o hg=>⟨BK (h1 g o hg).1 hb.size,(hb.cell (p:=(zm g o))<|BK hg hN).trans (h1 g o hg).2⟩⟩
def Z4s (S:Bool)(v:Value){z l:List Value}(hz:z.length=32)(hl:l.length=32):((DC S v z).toList.take 2++l.toArray.toList++(DC S v z).toList.drop (2+l.toArray.size)).toArray=DC S v l:=by
 simp[DC,hz,hl]
def Qe (n:Nat) (x:Bk):Int:=if n=8 then 4 else Ic x
def Yfd (V:D9){B D C:Nat}{S:Bool}{v:Value}{tag:List UInt8}{ts:List ByteArray}{F:List Nat}{vs:List Value}{x:Bk}(Z:AZ a w)(hB:B<=N)(hg:23<=N)(hNC:N<=C)(hC:AO w C (DC S v<|Lib.byteCells tag) 82)(ht:tag.length=32)(hR:AQ 110 4 Oe w v ts F)(hN:Ag N w F)(jJ:C∉F)(hS:EZ B w D vs x)(h8:ts.length<=8):
  Calls prog 21 #[zq C 0,.agg vs.toArray] w fun e w'=>e= .returned (BG a<|Qe ts.length x)/\Below N w w'/\(Qe ts.length x=0-> ∃ v' F',AO w' C (DC S v'<|Lib.byteCells<|Bt ⟨tag.toArray⟩ [A7 x]) 82/\AQ 110 4 Oe w' v' (ts++[A7 x]) F'/\Ag N w' F'/\C∉F'):=by
 have hsz:N<=w.heap.size:=Ab hNC<|Nat.le_of_lt hC.lt;have hCl:=hC.lt;obtain⟨p,c,rfl⟩:=AQ.form hR;have c1:w.cell? (zm C 1)=some (.slice p ts.length c):=hC.cell 1;have B0:=fun o=>(AR w.heap.size w).alloc lr o;have CE:=AC fun o=>Ztl V (Z.below<|B0 o) (by simp;omega) (EZ.carry hS<|Bq (B0 o)<|Ab hB hsz);have ZZ:=AC Z;have HC:=AC<|AJ hC<|AJ hR<|AJ hN jJ;have z4:=fun o=>Cb Z.c4 (B0 o);obtain⟨q1,k1,q2,k2,q3,k3,rfl,_⟩:=hS;clear Z V hC hR hN jJ;obtain⟨n,hn⟩: ∃ n,AF (ts.length=n):=⟨_,⟨rfl⟩⟩;rw[hn.out]at c1 h8⊢;go_in
 by_cases VK:n=8
 ·have g:((n:Int)==8)=true:=by rw[DR];omega
  have E4:AF (Qe n x=4):=⟨if_pos VK⟩;clear VK CE;go_wp2
  go_ret
  exact⟨by rw[E4.out];rfl,(B0 _).mono hsz,fun h=>absurd (E4.out.symm.trans h) zu⟩
 ·have g:((n:Int)==8)=false:=by rw[BJ];omega
  have E4:AF (Qe n x=Ic x):=⟨if_neg VK⟩;clear VK z4;go_wp2_with fail
  refine(CE.out _).mono ?_;rintro e w2 ⟨rfl,hb2⟩;have B2:=AC<|(B0 _).trans<|hb2.mono zw;by_cases he:Ic x=0
  ·have LX:=AC<|(AO.new w #[.slice q1 x.facts.length k1,.slice q2 x.rules.length k2,.slice q3 x.checks.length k3] 33).of<|hb2.block _ zw;obtain⟨y0,y1,y2,sy⟩:=LX.out.three;have C2:=HC.out.1.of<|B2.out.block _ hCl;rw[hn.out]at C2;have c2:w2.cell? (zm C 1)=some (.slice p n c):=C2.cell 1;have s2:=C2.soft;have hC2:=C2.lt;have hX2:=LX.out.lt;have H7:=bL x;obtain⟨tx,htx⟩: ∃ tx,AF (A7 x=tx):=⟨_,⟨rfl⟩⟩;rw[htx.out]at H7⊢;have R2:AF (AQ 110 4 Oe w2 (.slice p n c) ts F):=⟨by
    have:=AQ.stable Oe.stable _ w2 _ _ _ HC.out.2.1 fun k hk=>B2.out.block k (HC.out.2.2.1.lt k hk)
    rw[hn.out]at this;exact this⟩
   have N2:AF (Ag N w2 F):=⟨HC.out.2.2.1.later lr B2.out.size⟩;have HC2:=AC C2;rw[he,JR];clear CE hb2 c1 C2;go_wp2
   go_region_law (refine X3 Zxj rfl (.tmp 26) (.tmp 30) rfl Oe.stable (fun _ _ _ _ h=>Oe.one h) N (.slice p n c) ts F rfl (AQ.stable Oe.stable _ _ _ _ _ R2.out fun j hj=>Ah _ _ _ (N2.out.lt j hj)) w2.heap.size #[.string tx,.slice q1 x.facts.length k1,.slice q2 x.rules.length k2,.slice q3 x.checks.length k3] 110 (0,0) tx [] rfl (Hw _ _) rfl ⟨rfl,q1,_,k1,q2,_,k2,q3,_,k3,rfl,zx⟩ (by rw[hn.out];omega) (by have:=B2.out.size;simp;omega) (N2.out.later lr zw) (Ag.nil _ _) (fun _ _ h=>by cases h) ?_;intro g5 P4 w5 F5 AM;have c5:w5.cell? (zm C 1)=some (.slice p n c):=(A9 (a:=(zm C 1))<|(AM.same C (by simp;omega) HC.out.2.2.2).trans<|Ah _ _ _ hC2).trans c2;have s5: ∀ j,w5.frozen? (zm C j)=false:=fun j=>(bQ (a:=(zm C j))<|(AM.same C (by simp;omega) HC.out.2.2.2).trans<|Ah _ _ _ hC2).trans (s2 j))
   all_goals
    have hl5:w2.heap.size+1<=w5.heap.size:=by have:=AM.size;simpa using this
    have C5:AO w5 C (DC S (.slice p n c)<|Lib.byteCells tag) 82:=HC2.out.of<|(AM.same C (by simp;omega) HC.out.2.2.2).trans<|Ah _ _ _ hC2;have HNC:AF (C∉F5):=⟨fun h=>by
     rcases AM.sub C h with h | h | h
     ·exact HC.out.2.2.2 h
     ·cases h
     ·simp at h;omega⟩
    have C6:AF (AO (w5.setCell (zm C 1)<|.slice (Qb g5 0) (ts.length+1) P4) C (DC S (.slice (Qb g5 0) (ts.length+1) P4)<|Lib.byteCells tag) 82):=⟨C5.set 1 _⟩;have R6:AF (AQ 110 4 Oe (w5.setCell (zm C 1)<|.slice (Qb g5 0) (ts.length+1) P4) (.slice (Qb g5 0) (ts.length+1) P4) (ts++[tx]) F5):=⟨AQ.stable Oe.stable _ _ _ _ _ AM.row fun j hj=>Aw _ _ _ _ (fun e=>HNC.out (by rw[show C=j from e.symm];exact hj))⟩;have N6:AF (Ag N (w5.setCell (zm C 1)<|.slice (Qb g5 0) (ts.length+1) P4) F5):=⟨AM.new.later lr zw⟩;have B6:AF (Below N w<|w5.setCell (zm C 1)<|.slice (Qb g5 0) (ts.length+1) P4):=⟨Below.setCell ⟨AM.os.trans B2.out.os,AM.tape.trans B2.out.tape,AM.output.trans B2.out.output,by have:=B2.out.size;omega,fun j hj=>(AM.same j (by have:=B2.out.size;simp;omega) (fun h=>by have:=N2.out.ge j h;omega)).trans ((Ah _ _ _ (by have:=B2.out.size;omega)).trans<|B2.out.block j zx)⟩ (p:=(zm C 1)) hNC _⟩;clear AM c5 s5 C5 hl5;generalize w5.setCell (zm C 1) (.slice (Qb g5 0) (ts.length+1) P4)=W6 at*;generalize (.slice (Qb g5 0) (ts.length+1) P4:Value)=v6 at*;have C6o:=C6.out;have hrg:W6.rangeAt C 2 (Lib.byteCells tag):=fun j u hj=>by
     rw[AO.cell C6o,DC,Tu,Nat.add_comm 2 j];exact hj
    have dX:(Lib.byteCells tag).length=32:=by rw[Lib.byteCells_length,ht]
    have CBd:=AC<|Zp3 (t:=tx) (ZZ.out.Rn B6.out hg) ht zx;unfold Ip at CBd;go_wp2_with (refine wpList_load_mid rfl 80 (.tmp 37) rfl C 2 rfl (Lib.byteCells tag) _ hrg underlying80 rfl (by rw[dX];kernel_rfl) ?_)
    refine mq CBd.out ?_;rintro w7 G6;have C7:=C6.out.of<|G6.block _<|AO.lt C6o;have US:(Bt ⟨tag.toArray⟩ [tx]).length=32:=KZ _;have tq:(Lib.byteCells<|Bt ⟨tag.toArray⟩ [tx]).length=32:=by rw[Lib.byteCells_length,US]
    have RH:=Z4s S v6 dX tq;have zN:(prog.info? 80).map (·.size)=some (Lib.byteCells<|Bt ⟨tag.toArray⟩ [tx]).toArray.size:=ZT US;have R7:=AC<|AJ (G6.mono<|Ab hsz B6.out.size) fun j (hj:j∈F5)=>G6.block j (N6.out.lt j hj);have PY:=AC G6.size;clear C6o hrg G6 CBd;go_wp2_with (refine Zny rfl 80 (.tmp 42) (.tmp 40) rfl C 2 (Lib.byteCells<|Bt ⟨tag.toArray⟩ [tx]).toArray (DC S v6<|Lib.byteCells tag) _ rfl rfl 82 C7 zN (by rw[Vi _ _ dX,GN,tq];decide) (ZV _) RH ?_)
    go_ret
    refine⟨by rw[E4.out,he];rfl,((B6.out.trans R7.out.1).Ar _ hNC),fun _=>⟨v6,F5,?_,?_,N6.out.later lr (by rw[Ef];exact PY.out),HNC.out⟩⟩
    ·rw[htx.out];exact GM _ _ _ _ _ _ C7
    ·rw[htx.out];exact AQ.stable Oe.stable _ _ _ _ _ R6.out fun j hj=>(Db w7 C j _ fun e=>HNC.out (by rw[<- e];exact hj)).trans (R7.out.2 j hj)
  ·rw[BU _ he];clear CE hb2;go_wp2
   go_ret
   exact⟨by rw[E4.out,BU _ he];rfl,B2.out.mono hsz,fun h=>absurd (E4.out.symm.trans h) he⟩
end Go.P
namespace Go.W
def Iz.vals {B D b o:Nat}{w:World}{x:Bk}(h:Iz B w (D+1) b o x):b<B/\ ∃ p c p' c' p2 c2,w.cell? (zm b o)=some (.slice p x.facts.length c)/\w.cell? (zm b (o+1))=some (.slice p' x.rules.length c')/\w.cell? (zm b (o+2))=some (.slice p2 x.checks.length c2)/\EZ B w D [.slice p x.facts.length c,.slice p' x.rules.length c',.slice p2 x.checks.length c2] x:=by
 obtain⟨hb,⟨v,h2,p,c,rfl,h3,h4⟩,⟨u,h5,p',c',rfl,h6,h7⟩,q,h8,p2,c2,rfl,h9,h10⟩:=h;exact⟨hb,p,c,p',c',p2,c2,h2,h5,h8,p,c,p',c',p2,c2,rfl,h3,h4,h6,h7,h9,h10⟩
end Go.W
namespace Go.P
variable {tag:List UInt8}
def O8 (tag:List UInt8) (xs:List Bk):List UInt8:=xs.foldl (fun t x=>Bt ⟨t.toArray⟩ [A7 x]) tag
def Z6r {xs:List Bk}{k:Nat}{x:Bk}(h:xs[k]?=some x):O8 tag (xs.take<|k+1)=Bt ⟨(O8 tag<|xs.take k).toArray⟩ [A7 x]:=by
 have e1:xs.take (k+1)=xs.take k++[x]:=by rw[PM,h];rfl
 rw[e1];unfold O8;rw[List.foldl_append];rfl
def qy (h:tag.length=32)(xs:List Bk):(O8 tag xs).length=32:=by
 unfold O8;induction xs generalizing tag with
 | nil=>exact h
 | cons x xs ih=>exact ih<|KZ _
end Go.P
namespace Go.W
def Tn:Du (List UInt8):=fun _ vs x F=>F=[]/\x.length=32/\vs=Lib.byteCells x
def Tn.stable:Ii Tn:=fun _ _ _ _ _ h _=>h
def Tn.one {w:World}{vs:List Value}{x:List UInt8}{F:List Nat}(h:Tn w vs x F): ∀ u,u∈vs->u.oneCell'=true:=by
 obtain⟨_,_,rfl⟩:=h;exact Lib.byteCells_one x
def Zfu {P:Program}(w:World){ops:Array Oper}{rest:List Oper}{o:Oper}{a:Act}{Q:Exit->Act->World->Prop}(hgd:o.guard=none)(ty:TypeId)(n:Nat)(ps:Array (Nat×Operand))(ho:o.op= .buildSlice ty n ps)(pv:Array (Nat×Value))(hp:ps.map (fun p=>(p.1,a.eval p.2))=pv){v':Value}{w':World}
  (hr:(Instr.buildSlice ty n pv).run P w= .ok v' w') (h:wpList P ops Q rest (a.put o.dst v') w'):wpList P ops Q (o::rest) a w:=by
 refine wpList_plain hgd fun _ hK=>?_;unfold Oper.wp execOp;rw[ho];simp only[hp,Uz,Sem.run_pure,Vs,hr];exact hK _ _ h
end Go.W
namespace Go.P
variable {tag:List UInt8}{ts:List ByteArray}{k:Nat}{w:World}
def Zks {T:List UInt8}(h:T.length=32)(w:World):(Instr.buildSlice 150 1 #[(0,.agg (Lib.byteCells T).toArray)]).run prog w= .ok (.slice (Qb w.heap.size 0) 1 1) (w.alloc<|.cells (Lib.byteCells T).toArray 80):=by
 obtain⟨a0,a1,a2,a3,a4,a5,a6,a7,a8,a9,b0,b1,b2,b3,b4,b5,b6,b7,b8,b9,c0,c1,c2,c3,c4,c5,c6,c7,c8,c9,d0,d1,rfl⟩:=Yen h;kernel_rfl
def Yck:(prog.info? 80).map (fun i=>(i.zero,i.size,i.bytes))=some (some<|.agg Bj,32,32):=zt
def Yb1:J3 prog 150 80 32 32:=by
 obtain⟨i0,hi,hz0,hz1,hz2⟩:=info_parts Yck;exact⟨i0,_,underlying150,hi,hz0,hz1,hz2,rfl,zu,zu⟩
def Ju (tag:List UInt8):List ByteArray->List (List UInt8)
 | []=>[]
 | t::ts=>Bt ⟨tag.toArray⟩ [t]::Ju (Bt ⟨tag.toArray⟩ [t]) ts
def JF (tag:List UInt8) (ts:List ByteArray):List UInt8:=ts.foldl (fun t x=>Bt ⟨t.toArray⟩ [x]) tag
def wJ (h:tag.length=32)(ts:List ByteArray):(JF tag ts).length=32:=by
 unfold JF;induction ts generalizing tag with
 | nil=>exact h
 | cons x xs ih=>exact ih<|KZ _
def qz (tag:List UInt8)(ts:List ByteArray):(Ju tag ts).length=ts.length:=by
 induction ts generalizing tag with
 | nil=>rfl
 | cons x xs ih=>simp[Ju,ih]
def Zru: ∀ (ts:List ByteArray) (tag:List UInt8) (k:Nat),k<ts.length->(Ju tag ts)[k]?=some (JF tag<|ts.take<|k+1)
 | [],_,_,h=>by simp at h
 | t::ts,tag,0,_=>rfl
 | t::ts,tag,k+1,h=>by
  show(Ju _ ts)[k]?=_;rw[Zru ts _ k (by simpa using h)];rfl
def Z6q (h:k<ts.length):(Ju tag ts).take (k+1)=(Ju tag ts).take k++[JF tag<|ts.take<|k+1]:=by rw[PM,Zru ts tag k h];rfl
def Yaz {t:ByteArray}(h:ts[k]?=some t):JF tag (ts.take<|k+1)=Bt ⟨(JF tag<|ts.take k).toArray⟩ [t]:=by
 rw[PM,h];unfold JF;simp
def Yed (w:World) (T:Nat) (T0:List UInt8) (ts:List ByteArray) (iv tv:Value) (wr:World):Prop:= ∃ (k:Nat) (F:List Nat),k<=ts.length/\iv= zo (k:Int)/\AQ 80 32 Tn wr tv (T0::(Ju T0 ts).take k) F/\Ag w.heap.size wr F/\T∉F/\AO wr T (Lib.byteCells<|JF T0<|ts.take k).toArray 80/\Bl w wr
def Ygn {x:List UInt8}(hx:x.length=32):AQ 80 32 Tn (w.alloc<|.cells (Lib.byteCells x).toArray 80) (.slice (Qb w.heap.size 0) 1 1) [x] [w.heap.size]:=by
 have hl:(Lib.byteCells x).length=32:=by rw[Lib.byteCells_length,hx]
 refine⟨[(Lib.byteCells x,x,[])],⟨by simp[hl],Or.inr ⟨w.heap.size,1,(Lib.byteCells x).toArray,rfl,Eg _,AO.new w _ _,EO _,by unfold maxLen;omega,by simp[hl],by simp;exact U0 zx⟩⟩,?_,rfl,rfl,zw⟩
 ·intro z hz;obtain rfl:z=(Lib.byteCells x,x,[]):=by simpa using hz
  exact⟨hl,rfl,hx,rfl⟩
def Z30 {a:Nat->Addr}{B:Nat}{key:ByteArray}{S:Bool}{t0:ByteArray}{p:Option Addr}{c:Nat}(Z:AZ a w)(hk:key.size<1000000000)(hB:B<=w.heap.size)(hrow:Ap 4 (Uh B w) p (t0::ts))(hn:ts.length<100)(hc:ts.length+1<=c):
  Calls prog 59 #[.agg<|DC S (.slice p (ts.length+1) c)<|Lib.byteCells tag,.string key] w fun e w'=> ∃ v F,e= .returned v/\AQ 80 32 Tn w' v (Bt key [t0]::Ju (Bt key [t0]) ts) F/\Ag w.heap.size w' F/\Bl w w':=by
 obtain⟨CV,Dt⟩: ∃ CV,AF (DC S (.slice p (ts.length+1) c) (Lib.byteCells tag)=CV):=⟨_,⟨rfl⟩⟩;have v1:CV[1]?=some (.slice p (ts.length+1) c):=by rw[<- Dt.out];rfl
 rw[Dt.out];obtain⟨b,o,rfl,h0⟩:=hrow.get 0 zw;obtain⟨hb0,Ib,_,_,_,_,_,_,_,_,_,k0,_⟩:=h0;rw[YC,Qs]at k0;have k0:w.cell? (zm b o)=some (.string t0):=k0;have Ib:t0.size<1000000000:=Ib;have Af:b<w.heap.size:=BK hb0 hB;have ZZ:=AC Z;have HR:=AC hrow;clear Z hrow;obtain⟨n,Ov⟩: ∃ n,AF (ts.length=n):=⟨_,⟨rfl⟩⟩;rw[Ov.out]at v1 hn hc;go_in
 go_wp2_with fail
 have hb1:=((AR w.heap.size w).alloc lr<|.cells CV 82).alloc zw<|.cells #[.string t0] 9;have Im:AO ((w.alloc<|.cells CV 82).alloc<|.cells #[.string t0] 9) (w.heap.size+1) #[.string t0] 9:=by
  have:=AO.new (w.alloc<|.cells CV 82) #[.string t0] 9
  simpa using this
 refine(Zq5 (c:=1) (ZZ.out.below hb1) hk (jh Im Ib) zw).mono ?_;rintro e w2 ⟨rfl,hb2⟩;have Rf:(Bt key [t0]).length=32:=KZ _;have B2:=AC<|hb1.trans<|hb2.mono hb1.size;have C2:=AC<|((AO.new w CV 82).alloc<|.cells #[.string t0] 9).of<|hb2.block _ (by simp;omega);have hs2:w.heap.size+2<=w2.heap.size:=by have:=hb2.size;simpa using this
 clear hb1 hb2 Im;unfold Ip;have EK:AF (Bt key [t0]=Bt key [t0]):=⟨rfl⟩;obtain⟨T0,hT⟩: ∃ T0,AF (Bt key [t0]=T0):=⟨_,⟨rfl⟩⟩;rw[hT.out]at Rf⊢;clear EK;have S2:=AO.new w2 Bj 80;have S3:=GM _ _ _ (Lib.byteCells T0).toArray _ _ S2;have Xd:=ZT Rf;have hs0:(Lib.byteCells T0).toArray.size=32:=by rw[GN,Lib.byteCells_length,Rf]
 obtain⟨TV,hTV⟩: ∃ TV,AF ((Lib.byteCells T0).toArray=TV):=⟨_,⟨rfl⟩⟩;have Xe:=AC fun u=>Zks Rf u;have Bw:=ZV T0;rw[hTV.out]at S3 Xd hs0 Xe Bw⊢;have x1: ∀ o1 o2,(((w2.alloc o1).setRow w2.heap.size TV).alloc o2).cell? (zm w.heap.size 1)=some (.slice (Qb b o) (n+1) c):=fun o1 o2=>((((C2.out.alloc o1).of<|Db _ _ _ _ zx).alloc o2).cell 1).trans v1;have hc1:((1:Int)<=(n:Int)+1):=zx
 have hc2:((n:Int)+1<=(c:Int)):=zx
 go_wp2_with (first
  | (refine Ij rfl 80 (.tmp 5) (.tmp 16) rfl w2.heap.size TV rfl rfl 80 Bj S2 Xd (by rw[hs0];rfl) Bw ?_)
  | (refine QN rfl 80 (.tmp 5) rfl w2.heap.size rfl 80 TV (0,0) _ S3 underlying80 rfl Xd ?_)
  | (refine Zfu _ rfl 150 1 #[(0,.tmp 17)] rfl #[(0,.agg TV)] (by simp[Act.eval,Act.put]) (Xe.out _) ?_))
 case' inl=>
  have HA:AF (∃ ad cx,(Value.slice (Qb b o) n 0)= .slice (some ad) n cx/\(0<n->ad=(zm b (o+4)))):=⟨⟨(zm b o),0,rfl,fun h=>zx⟩⟩;generalize Value.slice (Qb b o) n 0=sl at*
 case' inr=>
  have HA:AF (∃ ad cx,(Value.slice (Qb b<|o+4) n<|c-1)= .slice (some ad) n cx/\(0<n->ad=(zm b (o+4)))):=⟨⟨(zm b (o+4)),c-1,rfl,fun _=>rfl⟩⟩;generalize Value.slice (Qb b<|o+4) n (c-1)=sl at*
 all_goals
  change Code.wp _ _ _ _ (((w2.alloc<|.cells Bj 80).setRow w2.heap.size TV).alloc<|.cells TV 80);have oW:AQ 80 32 Tn (((w2.alloc<|.cells Bj 80).setRow w2.heap.size TV).alloc<|.cells TV 80) (.slice (Qb (w2.heap.size+1) 0) 1 1) [T0] [w2.heap.size+1]:=by
   have:=Ygn (w:=(w2.alloc<|.cells Bj 80).setRow w2.heap.size TV) Rf
   rw[hTV.out,Ef,EV]at this;exact this
  have I0:AF (Yed w w2.heap.size T0 ts (zo ((0:Nat):Int)) (.slice (Qb (w2.heap.size+1) 0) 1 1)<|((w2.alloc<|.cells Bj 80).setRow w2.heap.size TV).alloc<|.cells TV 80):=⟨⟨0,[w2.heap.size+1],Eg _,rfl,oW,⟨zw,fun k hk=>by simp at hk;omega,fun k hk=>by simp at hk;rw[EV,Ef,EV];omega⟩,zw,by rw[List.take_zero,show JF T0 []=T0 from rfl,hTV.out];exact AO.alloc S3 _,(((B2.out.alloc B2.out.size _).Ar _ B2.out.size).alloc (by rw[Ef,EV];omega) _)⟩⟩;have hTw:w.heap.size<=w2.heap.size:=zx
  clear x1 S2 S3 Xe Bw hs0 Xd oW;generalize ((w2.alloc<|.cells Bj 80).setRow w2.heap.size TV).alloc (.cells TV 80)=W3 at*;generalize (Value.slice (Qb (w2.heap.size+1) 0) 1 1)=sl0 at*;generalize w2.heap.size=T at*;go_loopw [23,6] (fun iv tv wr=>Yed w T T0 ts iv tv wr) (fun iv _ _=>ts.length-(intOf iv).toNat)
  case atStart=>exact I0.out
  case round=>
   clear I0;obtain⟨k,F,hk,rfl,oZ,uM,d9,VQ,Bo⟩:=hrel;by_cases hlt:k<n
   ·first
    | (exfalso;omega)
    | (have g:(k:Int)<(n:Int):=by omega
       obtain⟨ad,cx,rfl,zl⟩:=HA.out;obtain rfl:=zl zx;have WF:k<ts.length:=by have:=Ov.out;omega
       obtain⟨b',o',uH,hx⟩:=HR.out.get (k+1) (by simpa using WF);obtain⟨rfl,rfl⟩:b=b'/\o=o':=by injection uH with h;injection h with h1 h2;exact⟨h1,h2⟩
       have GR:ts[k]?=some ts[k]:=A8 WF;obtain⟨hb1,VA,p1,n1,c1,p2,n2,c2,p3,n3,c3,z0,z1,z2,z3⟩:=Uh.carry (Go.W.Below.carry (Bo.mono hB) lr) hx;rw[show o+(k+1)*4=o+4+k*4 by omega]at z0 z1 z2 z3;replace z0:wr.cell? (zm b (o+4+k*4))=some (.string ts[k]):=z0
       replace VA:ts[k].size<1000000000:=VA
       have hKl:=wJ Rf<|ts.take k;have Yt:=wJ Rf<|ts.take<|k+1;have EK:=Yaz (tag:=T0) GR;have ETL:=AC<|Z6q (tag:=T0) WF;have hUb: ∀ o,Bl w (wr.alloc o):=fun o=>Bo.alloc Bo.size o;have CB:=AC fun o=>Zp3 (t:=ts[k]) ((ZZ.out.Rn Bo ZZ.out.size).below<|(AR _ wr).alloc lr o) hKl VA;rw[<- EK]at CB;unfold Ip at CB;have hik:=ZT hKl;have dZ:=ZT Yt;have dm:=AC fun u=>Zks Yt u;have aD:=ZV<|JF T0<|ts.take<|k+1;have dK:(Lib.byteCells<|JF T0<|ts.take<|k+1).toArray.size=32:=by rw[GN,Lib.byteCells_length,Yt]
       have hsk:(Lib.byteCells<|JF T0<|ts.take k).toArray.size=32:=by rw[GN,Lib.byteCells_length,hKl]
       obtain⟨TK,hTK⟩: ∃ TK,AF ((Lib.byteCells<|JF T0<|ts.take k).toArray=TK):=⟨_,⟨rfl⟩⟩;obtain⟨Nz,hTK1⟩: ∃ Nz,AF ((Lib.byteCells<|JF T0<|ts.take<|k+1).toArray=Nz):=⟨_,⟨rfl⟩⟩;rw[hTK.out,hTK1.out]at CB;rw[hTK.out]at VQ hik hsk;rw[hTK1.out]at dZ dm aD dK;have TU:=fun o=>VQ.alloc o;have HH:=AC<|AJ oZ<|AJ uM<|AJ d9 Bo;have US:T<wr.heap.size:=VQ.lt;clear hx EK oZ uM d9 VQ Bo;obtain⟨xk,hxk'⟩: ∃ xk,AF (ts[k]=xk):=⟨_,⟨rfl⟩⟩;rw[hxk'.out]at CB z0 VA;go_wp2_with (refine QN rfl 80 (.tmp 5) rfl T rfl 80 TK (0,0) _ (TU _) underlying80 rfl hik ?_)
       refine(CB.out _).mono ?_;rintro e w5 ⟨rfl,BX⟩;have T5:=(TU<|.cells #[.string xk,.slice p1 n1 c1,.slice p2 n2 c2,.slice p3 n3 c3] 110).of<|BX.block _ (by simp;omega);have T6:=GM _ _ _ Nz _ _ T5;have hs5:wr.heap.size+1<=w5.heap.size:=by have:=BX.size;simpa using this
       have oD:=dm.out<|w5.setRow T Nz;rw[Ef]at oD;have Zy:AF (∀ j,j<wr.heap.size->j≠T->(w5.setRow T Nz).heap[j]?=wr.heap[j]?):=⟨fun j hj hne=>(Db _ _ j _ hne).trans ((BX.block j (by simp;omega)).trans<|Ah _ _ _ hj)⟩;have B6:AF (Bl w<|w5.setRow T Nz):=⟨((hUb _).trans<|BX.mono (by have:=HH.out.2.2.2.size;simp;omega)).Ar _ hTw⟩;have R7:AF (AQ 80 32 Tn ((w5.setRow T Nz).alloc<|.cells Nz 80) u6 (T0::(Ju T0 ts).take k) F):=⟨AQ.stable Tn.stable _ _ _ _ _ HH.out.1 fun j hj=>(Ah _ _ _ (by rw[Ef];have:=HH.out.2.1.lt j hj;omega)).trans (Zy.out j (HH.out.2.1.lt j hj) fun e=>HH.out.2.2.1 (e▸hj))⟩;have N7:AF (Ag w.heap.size ((w5.setRow T Nz).alloc<|.cells Nz 80) F):=⟨HH.out.2.1.later lr (by rw[EV,Ef];omega)⟩;have yj:AF (Tn ((w5.setRow T Nz).alloc<|.cells Nz 80) Nz.toList (JF T0<|ts.take<|k+1) []):=⟨rfl,Yt,by rw[<- hTK1.out]⟩;have Bi:=AO.new (w5.setRow T Nz) Nz 80;rw[Ef]at Bi;have FY:(T0::(Ju T0 ts).take k).length<100000000:=by simp[qz];have:=Ov.out;omega
       clear CB BX TU dm hUb;go_wp2_with (first
        | (refine Ij rfl 80 (.tmp 5) (.tmp 30) rfl T Nz rfl rfl 80 TK T5 dZ (by rw[hsk,dK]) aD ?_)
        | (refine QN rfl 80 (.tmp 5) rfl T rfl 80 Nz (0,0) _ T6 underlying80 rfl dZ ?_)
        | (refine Zfu _ rfl 150 1 #[(0,.tmp 32)] rfl #[(0,.agg Nz)] (by simp[Act.eval,Act.put]) oD ?_)
        | (at_builtin;go_must (refine Nu Yb1 rfl (.tmp 31) (.tmp 33) rfl Tn.stable (fun _ _ _ _ h=>Tn.one h) w.heap.size u6 (T0::(Ju T0 ts).take k) F rfl R7.out w5.heap.size Nz 80 (0,0) (JF T0<|ts.take<|k+1) [] rfl Bi dK yj.out FY (by have:=HH.out.2.2.2.size;rw[EV,Ef];omega) N7.out (Ag.nil _ _) (fun _ _ h=>by cases h) ?_);intro g8 UU w8 F8 AM))
       have mi:=AM.size;rw[EV,Ef]at mi;have st8: ∀ j,j<wr.heap.size->j∉F->j≠T->w8.heap[j]?=wr.heap[j]?:=fun j hj zL hjT=>(AM.same j (by rw[EV,Ef];omega) zL).trans ((Ah _ _ _ (by rw[Ef];omega)).trans<|Zy.out j hj hjT);go_roundw
       case rel=>
        refine⟨k+1,F8,zx,by go_num,?_,AM.new,?_,?_,?_⟩
        ·rw[ETL.out]
         have:=AM.row
         simpa using this
        ·intro h;rcases AM.sub T h with h | h | h
         ·exact HH.out.2.2.1 h
         ·cases h
         ·rw[EV,Ef]at h;omega
        ·rw[hTK1.out];exact AO.of (AO.alloc T6<|.cells Nz 80)<|AM.same T (by rw[EV,Ef];omega) HH.out.2.2.1
        ·have hb:=HH.out.2.2.2;exact⟨AM.os.trans B6.out.os,AM.tape.trans B6.out.tape,AM.output.trans B6.out.output,by have:=hb.size;omega,fun j hj=>(st8 j (by have:=hb.size;omega) (fun h=>by have:=HH.out.2.1.ge j h;omega) zx).trans (hb.block j hj)⟩
       case measure=>simp[intOf];omega)
   ·obtain rfl:k=n:=by have:=Ov.out;omega
    have e1:(Ju T0 ts).take k=Ju T0 ts:=U0 (by rw[qz];have:=Ov.out;omega);rw[e1]at oZ;have HH:=AC<|AJ oZ<|AJ uM Bo;clear oZ uM Bo d9 VQ;go_wp2
    go_ret
    rw[hT.out];exact⟨u6,F,rfl,HH.out.1,HH.out.2.1,HH.out.2.2⟩
end Go.P
namespace Go.P
def Zyf {T:List UInt8}{i:Nat}(h:i<T.length)(w:World):(part 5 (Lib.byteCells T).toArray<|i*1).run prog w= .ok (.int .u8 ((T.getD i 0).toNat:Int)) w:=by
 have:=Zp7 T i h
 rw[Nat.mul_one];simp[part,go_sem,this]
end Go.P
