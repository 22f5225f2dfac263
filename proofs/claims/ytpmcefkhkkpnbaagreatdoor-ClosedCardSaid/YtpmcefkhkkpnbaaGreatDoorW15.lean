import Derived.Test.YtpmcefkhkkpnbaaGreatDoorW14
import Derived.ChangeKeysEq
import Derived.SizedLaws
import Derived.ChangeArms
import Derived.ChangeOld
import Derived.KernelRfl
import Derived.RowKit
set_option linter.all false
set_option maxRecDepth 100000
set_option maxHeartbeats 8000000
open Go.Proofs Go.RowKit Go.W Tryz
namespace Go.W
def _root_.Go.RowKit.Below.WU {B:Nat}{a w:Bb}(h:Below B a w)(n:Nat):Below B a (w.drewN n):=⟨h.os,h.tape,h.output,h.size,h.block⟩
def Zho {P:Program}{ops:Array Oper}{S:Bb->Prop}{o:Oper}{v:Value}{a:Act}(hgd:o.guard=none)(ty:TypeId)(ps:Array (Nat×Operand))(ho:o.op= .build ty ps)(pv:Array (Nat×Value))(hp:ps.map (fun p=>(p.1,a.eval p.2))=pv)(h: ∀ u,S u->(Instr.build ty pv).run P u= .ok v u):YieldsIf P ops S o v a:=
 Or.inl ⟨by simp[Region.wanted,hgd],fun u hS=>by
  unfold execOp;rw[ho];simp only[hp,Uz,Sem.run_pure,Vs,h u hS]⟩
def O9 (key:Ay):Bool:=decide<|0<key.size/\key.size<=100
def qW (key:Ay)(hk:key.size<1000000000)(w:Bb):Calls prog 37 #[um key] w fun e w'=>e=uY (.bool<|O9 key)/\w'=w:=by
 by_cases h0:key.size=0
 .obtain rfl:key=ByteArray.empty:=jy<|(M9<|(gL key).trans h0).trans (by rw[Nw];rfl);go_in
  go_wp2
  go_ret
  exact⟨rfl,rfl⟩
 .have g:key.toList.isEmpty=false:=by
   rw[List.isEmpty_eq_false_iff];intro h
   have:=gL key
   rw[h]at this;simp at this;omega
  have HE:AF (O9 key=decide ((key.size:Int)<=100)):=⟨by unfold O9;rw[decide_eq_decide];omega⟩;go_in
  go_wp2
  go_ret
  exact⟨by rw[HE.o];rfl,rfl⟩
def LQ (key:Ay) (x:Bk):Int:=if O9 key then Ic x else 8
def Ji (key:Ay) (x:Bk):Ay:=if O9 key/\Ic x=0 then KT false [A7 x] (Bt key [A7 x])else ByteArray.empty
def Xu (key t:Ay) (B:Nat) (v1 v2 v3 t8 t24 t27 t28 t29:Value):Act:={tmps:=#[um key,.agg #[v1,v2,v3],undef,zq B 0,sE,.nilIface,um t,.nilIface,t8,um key,.bool true,.bool false,undef,.tuple #[um t,.nilIface],.agg #[v1,v2,v3],.tuple #[um t,.nilIface],um t,.nilIface,.nilIface,.bool false,undef,um t,.agg #[v1,v2,v3],.agg #[um t,v1,v2,v3],t24,um key,um t,t27,t28,t29,undef,undef],defers:=[]}
def Yji (w2:Bb) (key t:Ay) (B:Nat) (v1 v2 v3:Value) (d1 d2 d3 d4:Bool) (a:Act) (u:Bb):Prop:= ∃ Lk Lt Lc:Nat,
 a=Xu key t B v1 v2 v3 (if d4 then zq Lc 0 else undef) (if d1 then sP (Qb Lk 0) 1 1 else undef) (if d2 then sP (Qb Lt 0) 1 1 else undef) (if d3 then Ip (Bt key [t])else undef) undef/\
 (d1=true->AO u Lk #[um t,v1,v2,v3] 112/\w2.heap.size<=Lk)/\(d2=true->AO u Lt #[um t] 9)/\(d4=true->AO u Lc BH 118/\w2.heap.size<=Lc)/\(d1=true->d4=true->Lk≠Lc)/\Bl w2 u/\AO u B #[v1,v2,v3] 38
def bL (x:Bk):(A7 x).size<=4000:=by
 unfold A7;split
 .rename_i h;unfold Ic at h;split at h
  .rename_i h';exact absurd h h'
  .split at h
   .cases h
   .omega
 .decide
def Yen {α:Type}{l:List α}(h:l.length=32): ∃ a0 a1 a2 a3 a4 a5 a6 a7 a8 a9 b0 b1 b2 b3 b4 b5 b6 b7 b8 b9 c0 c1 c2 c3 c4 c5 c6 c7 c8 c9 d0 d1,l=[a0,a1,a2,a3,a4,a5,a6,a7,a8,a9,b0,b1,b2,b3,b4,b5,b6,b7,b8,b9,c0,c1,c2,c3,c4,c5,c6,c7,c8,c9,d0,d1]:=by
 match l,h with
 | [a0,a1,a2,a3,a4,a5,a6,a7,a8,a9,b0,b1,b2,b3,b4,b5,b6,b7,b8,b9,c0,c1,c2,c3,c4,c5,c6,c7,c8,c9,d0,d1],_=>exact⟨_,_,_,_,_,_,_,_,_,_,_,_,_,_,_,_,_,_,_,_,_,_,_,_,_,_,_,_,_,_,_,_,rfl⟩
def Zp4 {T:List UInt8}(h:T.length=32)(L:Nat)(w:Bb):(Instr.build 118 #[(1,sP (Qb L 0) 1 1),(2,Ip T)]).run prog w= .ok (.agg<|DC false (sP (Qb L 0) 1 1)<|Lib.byteCells T) w:=by
 obtain⟨a0,a1,a2,a3,a4,a5,a6,a7,a8,a9,b0,b1,b2,b3,b4,b5,b6,b7,b8,b9,c0,c1,c2,c3,c4,c5,c6,c7,c8,c9,d0,d1,rfl⟩:=Yen h;kernel_rfl
def jw (S:Bool){ts:List Ay}{tag:List UInt8}(hn:ts.length<=8)(ht: ∀ t,t∈ts->t.size<=4000)(hl:tag.length=32):(KT S ts tag).size<1000000000:=by
 have h1:(BO Em ts).size<=11+8*4011:=Zg hn fun x hx=>by
  rw[Em,BM]
  have:=qC x.size
  have:=ht x hx
  omega
 rw[KT,BM,BM,BM,Lh,Uk tag,hl]
 have:(ba Nr).size=4:=rfl
 omega
def Ycv (V:D9){a:Nat->Addr}{B D:Nat}{w:Bb}{key:Ay}{vs:Bu}{x:Bk}(Z:AZ a w)(hk:key.size<1000000000)(hB:B<=w.heap.size)(hS:EZ B w D vs x):
  Calls prog 21 #[um key,.agg vs.toArray] w fun e w'=>e=uY (.tuple #[.string<|Ji key x,BG a<|LQ key x])/\Bl w w':=by
 have CK:=AC fun u=>qW key hk u;have B0:=fun o=>zv w o;have CE:=AC fun o=>Ztl V (Z.be<|B0 o) zc (EZ.cy hS<|Bq (B0 o) hB);have ZZ:=AC Z;have HS:=AC hS;have z8:=Z.c8;obtain⟨p1,c1,p2,c2,p3,c3,rfl,_⟩:=hS;clear Z V;go_in
 go_wp2_with fail
 apply(CK.o _).mono;rintro e w1 ⟨rfl,rfl⟩;by_cases hkey:O9 key=true
 .have HM:AF (LQ key x=Ic x/\(Ic x=0->Ji key x=KT false [A7 x] (Bt key [A7 x]))/\(Ic x≠0->Ji key x=ByteArray.empty)):=⟨by unfold LQ;rw[xj hkey],fun h=>by unfold Ji;rw[xj ⟨hkey,h⟩],fun h=>by unfold Ji;rw[xd fun q=>h q.2]⟩;rw[hkey];go_wp2_with fail
  apply(CE.o _).mono;rintro e w2 ⟨rfl,hb2⟩;have B2:=AC<|(B0 _).trans<|hb2.mono zw;by_cases hn:Ic x=0
  .have LX:=AC<|(AO.new w #[sP p1 x.fa.length c1,sP p2 x.ru.length c2,sP p3 x.ck.length c3] 38).of<|hb2.block _ zw;obtain⟨y0,y1,y2,sy⟩:=LX.o.three;rw[hn,JR];clear CE CK hb2 z8;go_wp2_with fail
   have H7:=bL x;obtain⟨t,ht⟩:=cK (A7 x);rw[ht.o]at H7⊢;clear y0 y1 y2 sy;refine Zh (S:=fun u=>AO u w.heap.size #[sP p1 x.fa.length c1,sP p2 x.ru.length c2,sP p3 x.ck.length c3] 38) zt ?_;change wpAnyH _ _ _ _ _ _ _ _ (World.drew _);have AY:AO w2.drew w.heap.size #[sP p1 x.fa.length c1,sP p2 x.ru.length c2,sP p3 x.ck.length c3] 38:=LX.o;refine tk 0 (um t) AY ?_;simp only[Act.put];refine wpAnyH_take (i:=1) (oi:={dst:=some 22,op:= .load 38<|.tmp 3,type:=38,pos:= "warrant.go:188",after:=#[],guard:=none}) (v:= .agg #[sP p1 x.fa.length c1,sP p2 x.ru.length c2,sP p3 x.ck.length c3]) rfl zt zt zt (fun _ _ _ h=>h) (wP rfl 38 (.tmp 3) rfl (zm w.heap.size 0) rfl fun u hS=>Vo u w.heap.size 38 38 _ _ _ hS underlying38 rfl zt) AY ?_;simp only[Act.put];refine tk 2 (.agg #[um t,sP p1 x.fa.length c1,sP p2 x.ru.length c2,sP p3 x.ck.length c3]) AY ?_;simp only[Act.put];refine tk 4 (um key) AY ?_;simp only[Act.put];refine tk 5 (um t) AY ?_;change wpAnyH _ _ _ _ _ (2+4) ((fun d1 d2 d3 d4=>#[true,true,true,d1,true,true,d2,d3,false,d4,false]) false false false false) (Xu key t w.heap.size (sP p1 x.fa.length c1) (sP p2 x.ru.length c2) (sP p3 x.ck.length c3) undef undef undef undef undef) _;have hlt0:w.heap.size<w2.heap.size:=LX.o.lt;have Z2: ∀ u,Bl w2 u->AZ a u:=fun u hu=>(ZZ.o.be B2.o).be hu;refine Z7a (fun d1 d2 d3 d4=>#[true,true,true,d1,true,true,d2,d3,false,d4,false]) 3 6 7 9 _ _ _ _ (Yji w2 key t w.heap.size (sP p1 x.fa.length c1) (sP p2 x.ru.length c2)<|sP p3 x.ck.length c3) 2 (fun d1 d2 d3 d4 a u hJ=>?_) rfl rfl rfl rfl (fun d1 d2 d3 d4 h hn=>?_) (fun d2 d3 d4=>rfl) (fun d1 d3 d4=>rfl) (fun d1 d2 d4=>rfl) (fun d1 d2 d3=>rfl) (fun d2 d3 d4 a u hJ K hK=>?_) (fun d1 d4 a u hJ K hK=>?_) (fun d1 d4 a u hJ K hK=>?_) (fun d1 d2 d3 a u hJ K hK=>?_) (fun d4 a u hJ=>?_) 4 false false false false rfl (fun h=>by cases h) _ _ ⟨0,0,0,rfl,(fun h=>by cases h),(fun h=>by cases h),(fun h=>by cases h),(fun h=>by cases h),(AR _ w2).drew,AY⟩
   .obtain⟨Lk,Lt,Lc,_,_,_,_,_,_,hb⟩:=hJ;exact hb
   .cases d1 <;> cases d2 <;> cases d3 <;> cases d4 <;> first | (exact absurd (h rfl) zu) | (exact absurd hn zu) | kernel_rfl
   .obtain⟨Lk,Lt,Lc,rfl,h1,h2,h4,Yx,hb,Rk⟩:=hJ;unfold bH Xu;go_simp;exact hK _ _ ⟨u.heap.size,Lt,Lc,rfl,fun _=>⟨AO.new u _ _,hb.size⟩,fun h=>(h2 h).alloc _,fun h=>⟨(h4 h).1.alloc _,(h4 h).2⟩,(fun _ h=>fw ((h4 h).1.lt)),hb.alloc hb.size _,Rk.alloc _⟩
   .obtain⟨Lk,Lt,Lc,rfl,h1,h2,h4,Yx,hb,Rk⟩:=hJ;unfold bH Xu;go_simp;exact hK _ _ ⟨Lk,u.heap.size,Lc,rfl,fun h=>⟨(h1 h).1.alloc _,(h1 h).2⟩,fun _=>AO.new u _ _,fun h=>⟨(h4 h).1.alloc _,(h4 h).2⟩,Yx,hb.alloc hb.size _,Rk.alloc _⟩
   .obtain⟨Lk,Lt,Lc,rfl,h1,h2,h4,Yx,hb,Rk⟩:=hJ;unfold bH Xu;go_simp;apply(Zq5 (c:=1) (Z2 u hb) hk (jh (h2 rfl) zx) zw).mono;rintro e u' ⟨rfl,hb'⟩;exact hK _ _ ⟨Lk,Lt,Lc,rfl,fun h=>⟨(h1 h).1.of<|hb'.block _ (h1 h).1.lt,(h1 h).2⟩,fun h=>(h2 h).of (hb'.block _ (h2 h).lt),fun h=>⟨(h4 h).1.of<|hb'.block _ (h4 h).1.lt,(h4 h).2⟩,Yx,hb.trans<|hb'.mono hb.size,Rk.of<|hb'.block _ Rk.lt⟩
   .obtain⟨Lk,Lt,Lc,rfl,h1,h2,h4,Yx,hb,Rk⟩:=hJ;unfold bH Xu;go_simp;exact hK _ _ ⟨Lk,Lt,u.heap.size,rfl,fun h=>⟨(h1 h).1.alloc _,(h1 h).2⟩,fun h=>(h2 h).alloc _,fun _=>⟨AO.new u BH _,hb.size⟩,(fun h _=>fw ((h1 h).1.lt)),hb.alloc hb.size _,Rk.alloc _⟩
   .obtain⟨Lk,Lt,Lc,rfl,h1,h2,h4,Yx,hb,Rk⟩:=hJ;have hK:=h1 rfl;have US:(Bt key [t]).length=32:=KZ _;clear h1 h2;cases d4
    case' false=>
     change wpAnyH _ _ _ _ _ 3 _ (Xu key t w.heap.size (sP p1 x.fa.length c1) (sP p2 x.ru.length c2) (sP p3 x.ck.length c3) undef (sP (Qb Lk 0) 1 1) (sP (Qb Lt 0) 1 1) (Ip<|Bt key [t]) undef) _;unfold Xu;refine wpAnyH_take (i:=8) (oi:={dst:=some 29,op:= .build 118 #[(1,.tmp 24),(2,.tmp 28)],type:=118,pos:= "warrant.go:188",after:=#[{on:=3,ground:=Ground.data},{on:=7,ground:=Ground.data}],guard:=none}) (v:= .agg<|DC false (sP (Qb Lk 0) 1 1)<|Lib.byteCells<|Bt key [t]) rfl zt zt zt (fun _ _ _ h=>h) (Zho rfl 118 #[(1,.tmp 24),(2,.tmp 28)] rfl #[(1,sP (Qb Lk 0) 1 1),(2,Ip<|Bt key [t])] (by simp[Act.eval]) fun u hS=>Zp4 US _ u) Rk ?_;simp only[Act.put];refine yr 9 fun K' hK'=>?_;go_simp;have hC:AO (u.alloc<|.cells BH 118) u.heap.size BH 118:=AO.new u BH _;have uR:w2.heap.size<=u.heap.size:=hb.size;have hne:Lk≠u.heap.size:=fw (hK.1.lt)
     have uP:=AJ (hK.1.alloc<|.cells BH 118) hK.2;have WJ:=hb.alloc hb.size<|.cells BH 118;have uS:=Rk.alloc<|.cells BH 118;refine hK'.o _ _ uS fun _=>?_;clear hK' K' hK hb Rk h4 Yx;generalize u.heap.size=LC at*;change wpAnyH _ _ _ _ _ _ _ _ (u.alloc<|.cells BH 118);generalize u.alloc (.cells BH 118)=U at*
    case' true=>
     change wpAnyH _ _ _ _ _ 2 _ (Xu key t w.heap.size (sP p1 x.fa.length c1) (sP p2 x.ru.length c2) (sP p3 x.ck.length c3) (zq Lc 0) (sP (Qb Lk 0) 1 1) (sP (Qb Lt 0) 1 1) (Ip<|Bt key [t]) undef) _;unfold Xu;refine wpAnyH_take (i:=8) (oi:={dst:=some 29,op:= .build 118 #[(1,.tmp 24),(2,.tmp 28)],type:=118,pos:= "warrant.go:188",after:=#[{on:=3,ground:=Ground.data},{on:=7,ground:=Ground.data}],guard:=none}) (v:= .agg<|DC false (sP (Qb Lk 0) 1 1)<|Lib.byteCells<|Bt key [t]) rfl zt zt zt (fun _ _ _ h=>h) (Zho rfl 118 #[(1,.tmp 24),(2,.tmp 28)] rfl #[(1,sP (Qb Lk 0) 1 1),(2,Ip<|Bt key [t])] (by simp[Act.eval]) fun u hS=>Zp4 US _ u) Rk ?_;simp only[Act.put];have hC:=(h4 rfl).1;have uR:=(h4 rfl).2;have hne:=Yx rfl rfl;have uP:=hK;have WJ:=hb;have uS:=Rk;clear hK hb Rk h4 Yx;generalize Lc=LC at*;generalize u=U at*
    all_goals
     refine yr 10 fun K' hK'=>?_;have hlen:(Lib.byteCells<|Bt key [t]).length=32:=by rw[xl,US]
     refine Zhl rfl 118 (.tmp 8) (.tmp 29) rfl LC (DC false (sP (Qb Lk 0) 1 1)<|Lib.byteCells<|Bt key [t]) rfl rfl 118 BH hC (Wv _ _ hlen) (by rw[Vi _ _ hlen];rfl) (gK _ _ _ _ _) ?_;refine hK'.o _ _ (uS.of<|Db _ _ _ _ zx) fun _=>?_;clear hK' K';refine Uy zt ?_ _;have hR:=GM U LC _ (DC false (sP (Qb Lk 0) 1 1)<|Lib.byteCells<|Bt key [t]) _ _ hC;have Rh:=uP.1.of<|Db U LC Lk (DC false (sP (Qb Lk 0) 1 1)<|Lib.byteCells<|Bt key [t]) hne;have MF:=WJ.Ar (g:=LC) (DC false (sP (Qb Lk 0) 1 1)<|Lib.byteCells<|Bt key [t]) uR;clear hC uP WJ uS;obtain⟨W,hW⟩:=fu (U.setRow LC (DC false (sP (Qb Lk 0) 1 1)<|Lib.byteCells<|Bt key [t]));rw[hW]at hR Rh MF⊢;have hrow:Ap 4 (Uh W.heap.size W) (Qb Lk 0) [t]:=⟨zw,fun i y hi=>by
      cases i with
      | succ i=>simp at hi
      | zero=>
       obtain rfl:t=y:=by simpa using hi
       exact⟨Lk,0,rfl,AO.lt Rh,zx,_,_,_,_,_,_,_,_,_,(AO.four Rh).1,(AO.four Rh).2.1,(AO.four Rh).2.2.1,(AO.four Rh).2.2.2.1⟩⟩
     have CW:=AC<|Zza (S:=false) (c:=1) lr hrow US<|jw false zw (fun y hy=>by have e:y=t:=by{simpa using hy};rw[e];exact H7) US;have RW:=AC<|AJ MF<|AJ (HM.o.2.1 hn) HM.o.1;clear hW hrow Rh MF;go_wp2_with (refine QN rfl 118 (.tmp 8) rfl LC rfl 118 (DC false (sP (Qb Lk 0) 1 1)<|Lib.byteCells<|Bt key [t]) (0,0) _ hR underlying118 rfl (Wv _ _ hlen) ?_)
     apply mq CW.o;rintro w9 oL;have R9:=AC<|B2.o.trans<|(RW.o.1.trans<|oL.mono RW.o.1.size).mono B2.o.size;clear CW oL;go_wp2
     go_ret2
     exact⟨by rw[RW.o.2.1,RW.o.2.2,hn,JR,ht.o];rfl,R9.o⟩
  .have E1:AF (LQ key x=Ic x/\Ji key x=ByteArray.empty/\A7 x=ByteArray.empty):=⟨HM.o.1,HM.o.2.2 hn,xd hn⟩;rw[BU _ hn];clear CE CK hb2 z8;go_wp2
   go_ret2
   exact⟨by rw[E1.o.1,E1.o.2.1,BU _ hn];rfl,B2.o⟩
 .have hkey:O9 key=false:=by simpa using hkey
  have HM:AF (LQ key x=8/\Ji key x=ByteArray.empty):=⟨by unfold LQ;rw[hkey];rfl,by unfold Ji;rw[hkey];rfl⟩;have z8':=fun o=>Cb z8 (B0 o);rw[hkey];clear CE CK z8;go_wp2
  go_quiet (fail)
  go_wp2
  go_ret2
  exact⟨by rw[HM.o.1,HM.o.2];rfl,(B0 _).WU _⟩
variable {P:Program}{w:Bb}{e:TypeId}{ops:Array Oper}{o:Oper}{a:Act}{F:Cg}{v:Value}
def X3 {α:Type}{t:TypeId}{s bytes:Nat}(E:J3 P t e s bytes){K:Act->Bb->Prop}{K2:Exit->Act->Bb->Prop}{K3:Prop}(hgd:o.guard=none)(sl x:Operand)
  (ho:o.op= .call {callee:= .builtin .append,args:=#[sl,x],argTypes:=#[t,t]}) {Q:Du α} (hQ:Ii Q) (Bw: ∀ w vs x F,Q w vs x F-> ∀ u,u∈vs->u.oneCell'=true) (B:Nat) (v:Value) (xs:List α) (F:Cg) (hs:a.eval sl=v) (hrow:AQ e s Q w v xs F)
  (b:Nat) (cs:Ca) (et:TypeId) (fr:Nat×Nat) (y:α) (G:Cg) (hx:a.eval x= sP (Qb b 0) 1 1) (hblk:w.heap[b]?=some (.cells cs et fr)) (hcs:cs.size=s) (hq:Q w cs.toList y G)
  (hn:xs.length+1<1000000000) (hB:B<=w.heap.size) (nF:Ag B w F) (nG:Ag B w G) (hd: ∀ k,k∈F->k∉G)
  (h: ∀ g cap w1 F',O7 e s Q B w w1 xs F G y g cap F'->K (a.put o.dst<|sP (Qb g 0) (xs.length+1) cap) w1):if Region.wanted o (yielded ops a.tmps)=true then Oper.wp P o a w K K2 else K3:=by
 obtain⟨zs,hown,hz,rfl,rfl,hl⟩:=hrow;refine Yav E hgd sl x ho 0 v zs.length _ hs hown b cs et fr hx hblk hcs (Bw w _ _ _ hq) (by simpa using hl) (Eg _) fun g cap w1 ha=>?_
 have:=Z7q (cs:=cs) (y:=y) (G:=G) hQ hz hcs hq (by simpa using hn) nF nG hd hB ha
 have h2:=h g cap w1 _ this;simpa using h2
def Zny {rest:List Oper}{Q:Exit->Act->Bb->Prop}(hgd:o.guard=none)(ty:TypeId)(x y:Operand)(ho:o.op= .store ty x y)(g off:Nat)(cells cur nv:Ca)(hx:a.eval x= zq g off)(hy:a.eval y= .agg cells)(t:TypeId)(hg:w.heap[g]?=some (.cells cur t (0,0)))(hi:(P.info? ty).map (·.size)=some cells.size)(Fj:off+cells.size<=cur.size)(h1:cells.all (·.oneCell')=true)(RH:(cur.toList.take off++cells.toList++cur.toList.drop (off+cells.size)).toArray=nv)(h:wpList P ops Q rest (a.put o.dst undef) (w.setRow g nv)):wpList P ops Q (o::rest) a w:=by
 refine wpList_plain hgd fun K hK=>?_;have hst:=run_storeCells_at P g off t cells.toList 0 cur w hg (by simpa using Fj) fun v hv=>(Array.all_eq_true_iff_forall_mem.1 h1) v (by simpa using hv);simp only[Qs,Vp]at hst;rw[RH]at hst;have hrun:(storeVar ty (zm g off)<|.agg cells).run P w= .ok () (w.setRow g nv):=by
  cases hq:P.info? ty with
  | none=>simp[hq]at hi
  | some i=>
   have hs:cells.size=i.size:=by simp[hq]at hi;omega
   simp[storeVar,sizeOf,typeInfo,hq,Value.cells,hs,hst]
 unfold Oper.wp execOp;simp only[ho,hx,hy,Instr.storeAt,Instr.sureAddr,Uz,Sem.run_pure,Vs,hrun];exact hK _ _ h
def Oe:Du Ay:=fun _ vs x F=>F=[]/\Ye4 vs x
def Oe.sb:Ii Oe:=fun _ _ _ _ _ h _=>h
def Oe.one {vs:Bu}{x:Ay}(h:Oe w vs x F): ∀ u,u∈vs->u.oneCell'=true:=by
 obtain⟨_,p1,n1,c1,p2,n2,c2,p3,n3,c3,rfl,_⟩:=h;intro u hu;simp at hu;rcases hu with rfl | rfl | rfl | rfl <;> rfl
def AQ.texts {ty:U2}{d:Nat}{xs:List (Ay×Bk)}(h:AQ e 4 (Iu ty d) w v xs F):AQ e 4 Oe w v (xs.map (·.1)) v.ownBlock.toList/\ ∀ k,k∈v.ownBlock.toList->k∈F:=by
 obtain⟨zs,ho,hz,rfl,rfl,hl⟩:=h;refine⟨⟨zs.map fun z=>(z.1,z.2.1.1,[]),?_,?_,?_,?_,?_⟩,fun k hk=>Md _ hk⟩
 .rw[Dj,List.map_map];exact ho
 .intro z su;obtain⟨y,hy,rfl⟩:=List.mem_map.1 su;refine⟨(hz y hy).1,rfl,?_⟩;obtain⟨p,c,p',c',p2,c2,hv⟩:=Iu.vals (hz y hy).2;obtain⟨vb,_,hs,_⟩:=(hz y hy).2;exact⟨p,_,c,p',_,c',p2,_,c2,hv,hs⟩
 .rw[List.map_map,List.map_map];rfl
 .have:(zs.map fun z=>(z.1,z.2.1.1,([]:Cg))).map (·.2.2)=zs.map (fun _=>[]):=by rw[List.map_map];rfl
  rw[this];simp
 .rw[Dj];exact hl
def AQ.links {ts:List Ay}(h:AQ e 4 Oe w v ts F)(hF: ∀ k,k∈F->k<w.heap.size): ∃ p c,v= sP p ts.length c/\Ap 4 (Uh w.heap.size w) p ts:=by
 obtain⟨p,c,hv,_,hr⟩:Qi 4 (Uh w.heap.size w) v ts:=h.rowOf hF fun b o vs x G hc hb hG hq=>by
  obtain⟨_,p1,n1,c1,p2,n2,c2,p3,n3,c3,rfl,hx⟩:=hq;exact⟨hb,hx,p1,n1,c1,p2,n2,c2,p3,n3,c3,hc 0 zx,hc 1 zx,hc 2 zx,hc 3 zx⟩
 exact⟨p,c,hv,hr⟩
variable {a:Nat->Addr}{N:Nat}
def AZ.Rn {u:Bb}(h:AZ a w)(hb:Below N w u)(hN:24<=N):AZ a u:=by
 obtain⟨w0,h0,h1⟩:=h;exact⟨w0,h0,fun g o hg=>⟨BK (h1 g o hg).1 hb.size,(hb.cell (p:=(zm g o))<|BK hg hN).trans (h1 g o hg).2⟩⟩
def Z4s (S:Bool)(v:Value){z l:Bu}(hz:z.length=32)(hl:l.length=32):((DC S v z).toList.take 2++l.toArray.toList++(DC S v z).toList.drop (2+l.toArray.size)).toArray=DC S v l:=by
 simp[DC,hz,hl]
def Qe (n:Nat) (x:Bk):Int:=if n=8 then 4 else Ic x
def Yfd (V:D9){B D C:Nat}{S:Bool}{v:Value}{tag:List UInt8}{ts:List Ay}{F:Cg}{vs:Bu}{x:Bk}(Z:AZ a w)(hB:B<=N)(hg:24<=N)(hNC:N<=C)(hC:AO w C (DC S v<|Lib.byteCells tag) 118)(ht:tag.length=32)(hR:AQ 112 4 Oe w v ts F)(hN:Ag N w F)(jJ:C∉F)(hS:EZ B w D vs x)(h8:ts.length<=8):
  Calls prog 42 #[zq C 0,.agg vs.toArray] w fun e w'=>e=uY (BG a<|Qe ts.length x)/\Below N w w'/\(Qe ts.length x=0-> ∃ v' F',AO w' C (DC S v'<|Lib.byteCells<|Bt ⟨tag.toArray⟩ [A7 x]) 118/\AQ 112 4 Oe w' v' (ts++[A7 x]) F'/\Ag N w' F'/\C∉F'):=by
 have hsz:N<=w.heap.size:=Ab hNC<|Nat.le_of_lt hC.lt;have hCl:=hC.lt;obtain⟨p,c,rfl⟩:=AQ.form hR;have c1:w.cell? (zm C 1)=some (sP p ts.length c):=hC.cell 1;have B0:=fun o=>zv w o;have CE:=AC fun o=>Ztl V (Z.be<|B0 o) zc (EZ.cy hS<|Bq (B0 o)<|Ab hB hsz);have ZZ:=AC Z;have HC:=AC<|AJ hC<|AJ hR<|AJ hN jJ;have z4:=fun o=>Cb Z.c4 (B0 o);obtain⟨q1,k1,q2,k2,q3,k3,rfl,_⟩:=hS;clear Z V hC hR hN jJ;obtain⟨n,hn⟩:=cK (ts.length);rw[hn.o]at c1 h8⊢;go_in
 by_cases VK:n=8
 .have g:((n:Int)==8)=true:=by rw[DR];omega
  have E4:AF (Qe n x=4):=⟨xj VK⟩;clear VK CE;go_wp2
  go_ret
  exact⟨by rw[E4.o];rfl,(B0 _).mono hsz,fun h=>absurd (E4.o.symm.trans h) zu⟩
 .have g:((n:Int)==8)=false:=zj
  have E4:AF (Qe n x=Ic x):=⟨xd VK⟩;clear VK z4;go_wp2_with fail
  apply(CE.o _).mono;rintro e w2 ⟨rfl,hb2⟩;have B2:=AC<|(B0 _).trans<|hb2.mono zw;by_cases he:Ic x=0
  .have LX:=AC<|(AO.new w #[sP q1 x.fa.length k1,sP q2 x.ru.length k2,sP q3 x.ck.length k3] 38).of<|hb2.block _ zw;obtain⟨y0,y1,y2,sy⟩:=LX.o.three;have C2:=HC.o.1.of<|B2.o.block _ hCl;rw[hn.o]at C2;have c2:w2.cell? (zm C 1)=some (sP p n c):=C2.cell 1;have s2:=C2.soft;have hC2:=C2.lt;have hX2:=LX.o.lt;have H7:=bL x;obtain⟨tx,htx⟩:=cK (A7 x);rw[htx.o]at H7⊢;have R2:AF (AQ 112 4 Oe w2 (sP p n c) ts F):=⟨by
    have:=AQ.sb Oe.sb _ w2 _ _ _ HC.o.2.1 fun k hk=>B2.o.block k (HC.o.2.2.1.lt k hk)
    rw[hn.o]at this;exact this⟩
   have N2:AF (Ag N w2 F):=⟨HC.o.2.2.1.la lr B2.o.size⟩;have HC2:=AC C2;rw[he,JR];clear CE hb2 c1 C2;go_wp2
   go_region_law (refine X3 Zxj rfl (.tmp 26) (.tmp 30) rfl Oe.sb (fun _ _ _ _ h=>Oe.one h) N (sP p n c) ts F rfl (AQ.sb Oe.sb _ _ _ _ _ R2.o fun j hj=>Ah _ _ _ (N2.o.lt j hj)) w2.heap.size #[um tx,sP q1 x.fa.length k1,sP q2 x.ru.length k2,sP q3 x.ck.length k3] 112 (0,0) tx [] rfl (Hw _ _) rfl ⟨rfl,q1,_,k1,q2,_,k2,q3,_,k3,rfl,zx⟩ (by rw[hn.o];omega) (by have:=B2.o.size;simp;omega) (N2.o.la lr zw) (Ag.nil _ _) (fun _ _ h=>by cases h) ?_;intro g5 P4 w5 F5 AM;have c5:w5.cell? (zm C 1)=some (sP p n c):=(A9 (a:=(zm C 1))<|(AM.same C zc HC.o.2.2.2).trans<|Ah _ _ _ hC2).trans c2;have s5: ∀ j,w5.frozen? (zm C j)=false:=fun j=>(bQ (a:=(zm C j))<|(AM.same C zc HC.o.2.2.2).trans<|Ah _ _ _ hC2).trans (s2 j))
   all_goals
    have hl5:w2.heap.size+1<=w5.heap.size:=by have:=AM.size;simpa using this
    have C5:AO w5 C (DC S (sP p n c)<|Lib.byteCells tag) 118:=HC2.o.of<|(AM.same C zc HC.o.2.2.2).trans<|Ah _ _ _ hC2;have HNC:AF (C∉F5):=⟨fun h=>by
     rcases AM.sub C h with h | h | h
     .exact HC.o.2.2.2 h
     .cases h
     .simp at h;omega⟩
    have C6:AF (AO (w5.setCell (zm C 1)<|sP (Qb g5 0) (ts.length+1) P4) C (DC S (sP (Qb g5 0) (ts.length+1) P4)<|Lib.byteCells tag) 118):=⟨C5.set 1 _⟩;have R6:AF (AQ 112 4 Oe (w5.setCell (zm C 1)<|sP (Qb g5 0) (ts.length+1) P4) (sP (Qb g5 0) (ts.length+1) P4) (ts++[tx]) F5):=⟨AQ.sb Oe.sb _ _ _ _ _ AM.row fun j hj=>Aw _ _ _ _ (fun e=>HNC.o (by rw[show C=j from e.symm];exact hj))⟩;have N6:AF (Ag N (w5.setCell (zm C 1)<|sP (Qb g5 0) (ts.length+1) P4) F5):=⟨AM.new.la lr zw⟩;have B6:AF (Below N w<|w5.setCell (zm C 1)<|sP (Qb g5 0) (ts.length+1) P4):=⟨Below.setCell ⟨AM.os.trans B2.o.os,AM.tape.trans B2.o.tape,AM.output.trans B2.o.output,fw (B2.o.size),fun j hj=>(AM.same j (by have:=B2.o.size;simp;omega) (fun h=>fw (N2.o.ge j h))).trans ((Ah _ _ _ (fw (B2.o.size))).trans<|B2.o.block j zx)⟩ (p:=(zm C 1)) hNC _⟩;clear AM c5 s5 C5 hl5;generalize w5.setCell (zm C 1) (sP (Qb g5 0) (ts.length+1) P4)=W6 at*;generalize (sP (Qb g5 0) (ts.length+1) P4:Value)=v6 at*;have C6o:=C6.o;have hrg:W6.rangeAt C 2 (Lib.byteCells tag):=fun j u hj=>by
     rw[AO.cell C6o,DC,Tu,Nat.add_comm 2 j];exact hj
    have dX:(Lib.byteCells tag).length=32:=by rw[xl,ht]
    have CBd:=AC<|Zp3 (t:=tx) (ZZ.o.Rn B6.o hg) ht zx;unfold Ip at CBd;go_wp2_with (refine wpList_load_mid rfl 115 (.tmp 37) rfl C 2 rfl (Lib.byteCells tag) _ hrg underlying115 rfl (by rw[dX];kernel_rfl) ?_)
    apply mq CBd.o;rintro w7 G6;have C7:=C6.o.of<|G6.block _<|AO.lt C6o;have US:(Bt ⟨tag.toArray⟩ [tx]).length=32:=KZ _;have tq:(Lib.byteCells<|Bt ⟨tag.toArray⟩ [tx]).length=32:=by rw[xl,US]
    have RH:=Z4s S v6 dX tq;have zN:(prog.info? 115).map (·.size)=some (Lib.byteCells<|Bt ⟨tag.toArray⟩ [tx]).toArray.size:=ZT US;have R7:=AC<|AJ (G6.mono<|Ab hsz B6.o.size) fun j (hj:j∈F5)=>G6.block j (N6.o.lt j hj);have PY:=AC G6.size;clear C6o hrg G6 CBd;go_wp2_with (refine Zny rfl 115 (.tmp 42) (.tmp 40) rfl C 2 (Lib.byteCells<|Bt ⟨tag.toArray⟩ [tx]).toArray (DC S v6<|Lib.byteCells tag) _ rfl rfl 118 C7 zN (by rw[Vi _ _ dX,GN,tq];decide) (ZV _) RH ?_)
    go_ret
    refine⟨by rw[E4.o,he];rfl,((B6.o.trans R7.o.1).Ar _ hNC),fun _=>⟨v6,F5,?_,?_,N6.o.la lr (by rw[Ef];exact PY.o),HNC.o⟩⟩
    .rw[htx.o];exact GM _ _ _ _ _ _ C7
    .rw[htx.o];exact AQ.sb Oe.sb _ _ _ _ _ R6.o fun j hj=>(Db w7 C j _ fun e=>HNC.o (by rw[<- e];exact hj)).trans (R7.o.2 j hj)
  .rw[BU _ he];clear CE hb2;go_wp2
   go_ret
   exact⟨by rw[E4.o,BU _ he];rfl,B2.o.mono hsz,fun h=>absurd (E4.o.symm.trans h) he⟩
def Iz.vals {B D b o:Nat}{w:Bb}{x:Bk}(h:Iz B w (D+1) b o x):b<B/\ ∃ p c p' c' p2 c2,w.cell? (zm b o)=some (sP p x.fa.length c)/\w.cell? (zm b (o+1))=some (sP p' x.ru.length c')/\w.cell? (zm b (o+2))=some (sP p2 x.ck.length c2)/\EZ B w D [sP p x.fa.length c,sP p' x.ru.length c',sP p2 x.ck.length c2] x:=by
 obtain⟨hb,⟨v,h2,p,c,rfl,h3,h4⟩,⟨u,h5,p',c',rfl,h6,h7⟩,q,h8,p2,c2,rfl,h9,h10⟩:=h;exact⟨hb,p,c,p',c',p2,c2,h2,h5,h8,p,c,p',c',p2,c2,rfl,h3,h4,h6,h7,h9,h10⟩
variable {tag:List UInt8}
def O8 (tag:List UInt8) (xs:List Bk):List UInt8:=xs.foldl (fun t x=>Bt ⟨t.toArray⟩ [A7 x]) tag
def Z6r {xs:List Bk}{k:Nat}{x:Bk}(h:xs[k]?=some x):O8 tag (xs.take<|k+1)=Bt ⟨(O8 tag<|xs.take k).toArray⟩ [A7 x]:=by
 have e1:xs.take (k+1)=xs.take k++[x]:=by rw[PM,h];rfl
 rw[e1];unfold O8;rw[List.foldl_append];rfl
def qy (h:tag.length=32)(xs:List Bk):(O8 tag xs).length=32:=by
 unfold O8;induction xs generalizing tag with
 | nil=>exact h
 | cons x xs ih=>exact ih<|KZ _
def Tn:Du (List UInt8):=fun _ vs x F=>F=[]/\x.length=32/\vs=Lib.byteCells x
def Tn.sb:Ii Tn:=fun _ _ _ _ _ h _=>h
def Tn.one {w:Bb}{vs:Bu}{x:List UInt8}{F:Cg}(h:Tn w vs x F): ∀ u,u∈vs->u.oneCell'=true:=by
 obtain⟨_,_,rfl⟩:=h;exact Lib.byteCells_one x
def Zfu {P:Program}(w:Bb){ops:Array Oper}{rest:List Oper}{o:Oper}{a:Act}{Q:Exit->Act->Bb->Prop}(hgd:o.guard=none)(ty:TypeId)(n:Nat)(ps:Array (Nat×Operand))(ho:o.op= .buildSlice ty n ps)(pv:Array (Nat×Value))(hp:ps.map (fun p=>(p.1,a.eval p.2))=pv){v':Value}{w':Bb}
  (hr:(Instr.buildSlice ty n pv).run P w= .ok v' w') (h:wpList P ops Q rest (a.put o.dst v') w'):wpList P ops Q (o::rest) a w:=by
 refine wpList_plain hgd fun _ hK=>?_;unfold Oper.wp execOp;rw[ho];simp only[hp,Uz,Sem.run_pure,Vs,hr];exact hK _ _ h
variable {ts:List Ay}{k:Nat}
def Zks {T:List UInt8}(h:T.length=32)(w:Bb):(Instr.buildSlice 207 1 #[(0,.agg (Lib.byteCells T).toArray)]).run prog w= .ok (sP (Qb w.heap.size 0) 1 1) (w.alloc<|.cells (Lib.byteCells T).toArray 115):=by
 obtain⟨a0,a1,a2,a3,a4,a5,a6,a7,a8,a9,b0,b1,b2,b3,b4,b5,b6,b7,b8,b9,c0,c1,c2,c3,c4,c5,c6,c7,c8,c9,d0,d1,rfl⟩:=Yen h;kernel_rfl
def Yck:(prog.info? 115).map (fun i=>(i.zero,i.size,i.bytes))=some (some<|.agg Bj,32,32):=zt
def Yb1:J3 prog 207 115 32 32:=eL Yck underlying207
def Ju (tag:List UInt8):List Ay->List (List UInt8)
 | []=>[]
 | t::ts=>Bt ⟨tag.toArray⟩ [t]::Ju (Bt ⟨tag.toArray⟩ [t]) ts
def JF (tag:List UInt8) (ts:List Ay):List UInt8:=ts.foldl (fun t x=>Bt ⟨t.toArray⟩ [x]) tag
def wJ (h:tag.length=32)(ts:List Ay):(JF tag ts).length=32:=by
 unfold JF;induction ts generalizing tag with
 | nil=>exact h
 | cons x xs ih=>exact ih<|KZ _
def qz (tag:List UInt8)(ts:List Ay):(Ju tag ts).length=ts.length:=by
 induction ts generalizing tag with
 | nil=>rfl
 | cons x xs ih=>simp[Ju,ih]
def Zru: ∀ (ts:List Ay) (tag:List UInt8) (k:Nat),k<ts.length->(Ju tag ts)[k]?=some (JF tag<|ts.take<|k+1)
 | [],_,_,h=>by simp at h
 | t::ts,tag,0,_=>rfl
 | t::ts,tag,k+1,h=>by
  show(Ju _ ts)[k]?=_;rw[Zru ts _ k (by simpa using h)];rfl
def Z6q (h:k<ts.length):(Ju tag ts).take (k+1)=(Ju tag ts).take k++[JF tag<|ts.take<|k+1]:=by rw[PM,Zru ts tag k h];rfl
def Yaz {t:Ay}(h:ts[k]?=some t):JF tag (ts.take<|k+1)=Bt ⟨(JF tag<|ts.take k).toArray⟩ [t]:=by
 rw[PM,h];unfold JF;simp
def Yed (w:Bb) (T:Nat) (T0:List UInt8) (ts:List Ay) (iv tv:Value) (wr:Bb):Prop:= ∃ (k:Nat) (F:Cg),k<=ts.length/\iv= zo (k:Int)/\AQ 115 32 Tn wr tv (T0::(Ju T0 ts).take k) F/\Ag w.heap.size wr F/\T∉F/\AO wr T (Lib.byteCells<|JF T0<|ts.take k).toArray 115/\Bl w wr
def Ygn {x:List UInt8}(hx:x.length=32):AQ 115 32 Tn (w.alloc<|.cells (Lib.byteCells x).toArray 115) (sP (Qb w.heap.size 0) 1 1) [x] [w.heap.size]:=by
 have hl:(Lib.byteCells x).length=32:=by rw[xl,hx]
 refine⟨[(Lib.byteCells x,x,[])],⟨by simp[hl],Or.inr ⟨w.heap.size,1,(Lib.byteCells x).toArray,rfl,Eg _,AO.new w _ _,EO _,by unfold maxLen;omega,by simp[hl],by simp;exact U0 zx⟩⟩,?_,rfl,rfl,zw⟩
 .intro z hz;obtain rfl:z=(Lib.byteCells x,x,[]):=by simpa using hz
  exact⟨hl,rfl,hx,rfl⟩
def Z30 {a:Nat->Addr}{B:Nat}{key:Ay}{S:Bool}{t0:Ay}{p:Bp}{c:Nat}(Z:AZ a w)(hk:key.size<1000000000)(hB:B<=w.heap.size)(hrow:Ap 4 (Uh B w) p (t0::ts))(hn:ts.length<100)(hc:ts.length+1<=c):
  Calls prog 94 #[.agg<|DC S (sP p (ts.length+1) c)<|Lib.byteCells tag,um key] w fun e w'=> ∃ v F,e=uY v/\AQ 115 32 Tn w' v (Bt key [t0]::Ju (Bt key [t0]) ts) F/\Ag w.heap.size w' F/\Bl w w':=by
 obtain⟨CV,Dt⟩:=cK (DC S (sP p (ts.length+1) c) (Lib.byteCells tag));have v1:CV[1]?=some (sP p (ts.length+1) c):=by rw[<- Dt.o];rfl
 rw[Dt.o];obtain⟨b,o,rfl,h0⟩:=hrow.get 0 zw;obtain⟨hb0,Ib,_,_,_,_,_,_,_,_,_,k0,_⟩:=h0;rw[YC,Qs]at k0;have k0:w.cell? (zm b o)=some (um t0):=k0;have Ib:t0.size<1000000000:=Ib;have Af:b<w.heap.size:=BK hb0 hB;have ZZ:=AC Z;have HR:=AC hrow;clear Z hrow;obtain⟨n,Ov⟩:=cK (ts.length);rw[Ov.o]at v1 hn hc;go_in
 go_wp2_with fail
 have hb1:=(zv w<|.cells CV 118).alloc zw<|.cells #[um t0] 9;have Im:AO ((w.alloc<|.cells CV 118).alloc<|.cells #[um t0] 9) (w.heap.size+1) #[um t0] 9:=by
  have:=AO.new (w.alloc<|.cells CV 118) #[um t0] 9
  simpa using this
 apply(Zq5 (c:=1) (ZZ.o.be hb1) hk (jh Im Ib) zw).mono;rintro e w2 ⟨rfl,hb2⟩;have Rf:(Bt key [t0]).length=32:=KZ _;have B2:=AC<|hb1.trans<|hb2.mono hb1.size;have C2:=AC<|((AO.new w CV 118).alloc<|.cells #[um t0] 9).of<|hb2.block _ zc;have hs2:w.heap.size+2<=w2.heap.size:=by have:=hb2.size;simpa using this
 clear hb1 hb2 Im;unfold Ip;have EK:AF (Bt key [t0]=Bt key [t0]):=⟨rfl⟩;obtain⟨T0,hT⟩:=cK (Bt key [t0]);rw[hT.o]at Rf⊢;clear EK;have S2:=AO.new w2 Bj 115;have S3:=GM _ _ _ (Lib.byteCells T0).toArray _ _ S2;have Xd:=ZT Rf;have hs0:(Lib.byteCells T0).toArray.size=32:=by rw[GN,xl,Rf]
 obtain⟨TV,hTV⟩:=cK ((Lib.byteCells T0).toArray);have Xe:=AC fun u=>Zks Rf u;have Bw:=ZV T0;rw[hTV.o]at S3 Xd hs0 Xe Bw⊢;have x1: ∀ o1 o2,(((w2.alloc o1).setRow w2.heap.size TV).alloc o2).cell? (zm w.heap.size 1)=some (sP (Qb b o) (n+1) c):=fun o1 o2=>((((C2.o.alloc o1).of<|Db _ _ _ _ zx).alloc o2).cell 1).trans v1;have hc1:((1:Int)<=(n:Int)+1):=zx
 have hc2:((n:Int)+1<=(c:Int)):=zx
 go_wp2_with (first
  | (refine Ij rfl 115 (.tmp 5) (.tmp 16) rfl w2.heap.size TV rfl rfl 115 Bj S2 Xd (by rw[hs0];rfl) Bw ?_)
  | (refine QN rfl 115 (.tmp 5) rfl w2.heap.size rfl 115 TV (0,0) _ S3 underlying115 rfl Xd ?_)
  | (refine Zfu _ rfl 207 1 #[(0,.tmp 17)] rfl #[(0,.agg TV)] (by simp[Act.eval,Act.put]) (Xe.o _) ?_))
 case' inl=>
  have HA:AF (∃ ad cx,(Value.slice (Qb b o) n 0)= sP (some ad) n cx/\(0<n->ad=(zm b (o+4)))):=⟨⟨(zm b o),0,rfl,fun h=>zx⟩⟩;generalize Value.slice (Qb b o) n 0=sl at*
 case' inr=>
  have HA:AF (∃ ad cx,(Value.slice (Qb b<|o+4) n<|c-1)= sP (some ad) n cx/\(0<n->ad=(zm b (o+4)))):=⟨⟨(zm b (o+4)),c-1,rfl,fun _=>rfl⟩⟩;generalize Value.slice (Qb b<|o+4) n (c-1)=sl at*
 all_goals
  change Code.wp _ _ _ _ (((w2.alloc<|.cells Bj 115).setRow w2.heap.size TV).alloc<|.cells TV 115);have oW:AQ 115 32 Tn (((w2.alloc<|.cells Bj 115).setRow w2.heap.size TV).alloc<|.cells TV 115) (sP (Qb (w2.heap.size+1) 0) 1 1) [T0] [w2.heap.size+1]:=by
   have:=Ygn (w:=(w2.alloc<|.cells Bj 115).setRow w2.heap.size TV) Rf
   rw[hTV.o,Ef,EV]at this;exact this
  have I0:AF (Yed w w2.heap.size T0 ts (zo ((0:Nat):Int)) (sP (Qb (w2.heap.size+1) 0) 1 1)<|((w2.alloc<|.cells Bj 115).setRow w2.heap.size TV).alloc<|.cells TV 115):=⟨⟨0,[w2.heap.size+1],Eg _,rfl,oW,⟨zw,fun k hk=>by simp at hk;omega,fun k hk=>by simp at hk;rw[EV,Ef,EV];omega⟩,zw,by rw[List.take_zero,show JF T0 []=T0 from rfl,hTV.o];exact AO.alloc S3 _,(((B2.o.alloc B2.o.size _).Ar _ B2.o.size).alloc (by rw[Ef,EV];omega) _)⟩⟩;have hTw:w.heap.size<=w2.heap.size:=zx
  clear x1 S2 S3 Xe Bw hs0 Xd oW;generalize ((w2.alloc<|.cells Bj 115).setRow w2.heap.size TV).alloc (.cells TV 115)=W3 at*;generalize (Value.slice (Qb (w2.heap.size+1) 0) 1 1)=sl0 at*;generalize w2.heap.size=T at*;go_loopw [23,6] (fun iv tv wr=>Yed w T T0 ts iv tv wr) (fun iv _ _=>ts.length-(intOf iv).toNat)
  .exact I0.o
  .clear I0;obtain⟨k,F,hk,rfl,oZ,uM,d9,VQ,Bo⟩:=hrel;by_cases hlt:k<n
   .first
    | (exfalso;omega)
    | (have g:(k:Int)<(n:Int):=by omega
       obtain⟨ad,cx,rfl,zl⟩:=HA.o;obtain rfl:=zl zx;have WF:k<ts.length:=fw (Ov.o)
       obtain⟨b',o',uH,hx⟩:=HR.o.get (k+1) (by simpa using WF);obtain⟨rfl,rfl⟩:b=b'/\o=o':=by injection uH with h;injection h with h1 h2;exact⟨h1,h2⟩
       have GR:ts[k]?=some ts[k]:=A8 WF;obtain⟨hb1,VA,p1,n1,c1,p2,n2,c2,p3,n3,c3,z0,z1,z2,z3⟩:=Uh.cy (Go.W.Below.cy (Bo.mono hB) lr) hx;rw[show o+(k+1)*4=o+4+k*4 by omega]at z0 z1 z2 z3;replace z0:wr.cell? (zm b (o+4+k*4))=some (um ts[k]):=z0
       replace VA:ts[k].size<1000000000:=VA
       have hKl:=wJ Rf<|ts.take k;have Yt:=wJ Rf<|ts.take<|k+1;have EK:=Yaz (tag:=T0) GR;have ETL:=AC<|Z6q (tag:=T0) WF;have hUb: ∀ o,Bl w (wr.alloc o):=fun o=>Bo.alloc Bo.size o;have CB:=AC fun o=>Zp3 (t:=ts[k]) ((ZZ.o.Rn Bo ZZ.o.size).be<|(AR _ wr).alloc lr o) hKl VA;rw[<- EK]at CB;unfold Ip at CB;have hik:=ZT hKl;have dZ:=ZT Yt;have dm:=AC fun u=>Zks Yt u;have aD:=ZV<|JF T0<|ts.take<|k+1;have dK:(Lib.byteCells<|JF T0<|ts.take<|k+1).toArray.size=32:=by rw[GN,xl,Yt]
       have hsk:(Lib.byteCells<|JF T0<|ts.take k).toArray.size=32:=by rw[GN,xl,hKl]
       obtain⟨TK,hTK⟩:=cK ((Lib.byteCells<|JF T0<|ts.take k).toArray);obtain⟨Nz,hTK1⟩:=cK ((Lib.byteCells<|JF T0<|ts.take<|k+1).toArray);rw[hTK.o,hTK1.o]at CB;rw[hTK.o]at VQ hik hsk;rw[hTK1.o]at dZ dm aD dK;have TU:=fun o=>VQ.alloc o;have HH:=AC<|AJ oZ<|AJ uM<|AJ d9 Bo;have US:T<wr.heap.size:=VQ.lt;clear hx EK oZ uM d9 VQ Bo;obtain⟨xk,hxk'⟩: ∃ xk,AF (ts[k]=xk):=⟨_,⟨rfl⟩⟩;rw[hxk'.o]at CB z0 VA;go_wp2_with (refine QN rfl 115 (.tmp 5) rfl T rfl 115 TK (0,0) _ (TU _) underlying115 rfl hik ?_)
       apply(CB.o _).mono;rintro e w5 ⟨rfl,BX⟩;have T5:=(TU<|.cells #[um xk,sP p1 n1 c1,sP p2 n2 c2,sP p3 n3 c3] 112).of<|BX.block _ zc;have T6:=GM _ _ _ Nz _ _ T5;have hs5:wr.heap.size+1<=w5.heap.size:=by have:=BX.size;simpa using this
       have oD:=dm.o<|w5.setRow T Nz;rw[Ef]at oD;have Zy:AF (∀ j,j<wr.heap.size->j≠T->(w5.setRow T Nz).heap[j]?=wr.heap[j]?):=⟨fun j hj hne=>(Db _ _ j _ hne).trans ((BX.block j zc).trans<|Ah _ _ _ hj)⟩;have B6:AF (Bl w<|w5.setRow T Nz):=⟨((hUb _).trans<|BX.mono (by have:=HH.o.2.2.2.size;simp;omega)).Ar _ hTw⟩;have R7:AF (AQ 115 32 Tn ((w5.setRow T Nz).alloc<|.cells Nz 115) u6 (T0::(Ju T0 ts).take k) F):=⟨AQ.sb Tn.sb _ _ _ _ _ HH.o.1 fun j hj=>(Ah _ _ _ (by rw[Ef];have:=HH.o.2.1.lt j hj;omega)).trans (Zy.o j (HH.o.2.1.lt j hj) fun e=>HH.o.2.2.1 (e▸hj))⟩;have N7:AF (Ag w.heap.size ((w5.setRow T Nz).alloc<|.cells Nz 115) F):=⟨HH.o.2.1.la lr (by rw[EV,Ef];omega)⟩;have yj:AF (Tn ((w5.setRow T Nz).alloc<|.cells Nz 115) Nz.toList (JF T0<|ts.take<|k+1) []):=⟨rfl,Yt,by rw[<- hTK1.o]⟩;have Bi:=AO.new (w5.setRow T Nz) Nz 115;rw[Ef]at Bi;have FY:(T0::(Ju T0 ts).take k).length<100000000:=by simp[qz];have:=Ov.o;omega
       clear CB BX TU dm hUb;go_wp2_with (first
        | (refine Ij rfl 115 (.tmp 5) (.tmp 30) rfl T Nz rfl rfl 115 TK T5 dZ (by rw[hsk,dK]) aD ?_)
        | (refine QN rfl 115 (.tmp 5) rfl T rfl 115 Nz (0,0) _ T6 underlying115 rfl dZ ?_)
        | (refine Zfu _ rfl 207 1 #[(0,.tmp 32)] rfl #[(0,.agg Nz)] (by simp[Act.eval,Act.put]) oD ?_)
        | (at_builtin;go_must (refine Nu Yb1 rfl (.tmp 31) (.tmp 33) rfl Tn.sb (fun _ _ _ _ h=>Tn.one h) w.heap.size u6 (T0::(Ju T0 ts).take k) F rfl R7.o w5.heap.size Nz 115 (0,0) (JF T0<|ts.take<|k+1) [] rfl Bi dK yj.o FY (by have:=HH.o.2.2.2.size;rw[EV,Ef];omega) N7.o (Ag.nil _ _) (fun _ _ h=>by cases h) ?_);intro g8 UU w8 F8 AM))
       have mi:=AM.size;rw[EV,Ef]at mi;have st8: ∀ j,j<wr.heap.size->j∉F->j≠T->w8.heap[j]?=wr.heap[j]?:=fun j hj zL hjT=>(AM.same j (by rw[EV,Ef];omega) zL).trans ((Ah _ _ _ (by rw[Ef];omega)).trans<|Zy.o j hj hjT);go_roundw
       .refine⟨k+1,F8,zx,by go_num,?_,AM.new,?_,?_,?_⟩
        .rw[ETL.o]
         have:=AM.row
         simpa using this
        .intro h;rcases AM.sub T h with h | h | h
         .exact HH.o.2.2.1 h
         .cases h
         .rw[EV,Ef]at h;omega
        .rw[hTK1.o];exact AO.of (AO.alloc T6<|.cells Nz 115)<|AM.same T (by rw[EV,Ef];omega) HH.o.2.2.1
        .have hb:=HH.o.2.2.2;exact⟨AM.os.trans B6.o.os,AM.tape.trans B6.o.tape,AM.output.trans B6.o.output,fw (hb.size),fun j hj=>(st8 j (fw (hb.size)) (fun h=>fw (HH.o.2.1.ge j h)) zx).trans (hb.block j hj)⟩
       simp[intOf];omega)
   .obtain rfl:k=n:=fw (Ov.o)
    have e1:(Ju T0 ts).take k=Ju T0 ts:=U0 (by rw[qz];have:=Ov.o;omega);rw[e1]at oZ;have HH:=AC<|AJ oZ<|AJ uM Bo;clear oZ uM Bo d9 VQ;go_wp2
    go_ret
    rw[hT.o];exact⟨u6,F,rfl,HH.o.1,HH.o.2.1,HH.o.2.2⟩
def Zyf {T:List UInt8}{i:Nat}(h:i<T.length)(w:Bb):(part 5 (Lib.byteCells T).toArray<|i*1).run prog w= .ok (yS ((T.getD i 0).toNat:Int)) w:=by
 have:=Zp7 T i h
 rw[Nat.mul_one];simp[part,go_sem,this]
variable {vs:Bu}
def Rt (W0:Bb) (D:Nat):Du Bk:=fun _ vs x F=>F=[]/\EZ W0.heap.size W0 D vs x
def Rt.sb (W0:Bb)(D:Nat):Ii (Rt W0 D):=fun _ _ _ _ _ h _=>h
def Rt.one {W0:Bb}{D:Nat}{x:Bk}(h:Rt W0 D w vs x F): ∀ u,u∈vs->u.oneCell'=true:=by
 obtain⟨_,p,c,p',c',p2,c2,rfl,_⟩:=h;intro u hu;simp at hu;rcases hu with rfl | rfl | rfl <;> rfl
def Yhq (W0:Bb) (b o:Nat) (y:Ay×Bk):Prop:=b<W0.heap.size/\y.1.size<1000000000/\ ∃ p c p' c' p2 c2,W0.cell? (zm b o)=some (um y.1)/\W0.cell? (zm b (o+1))=some (sP p y.2.fa.length c)/\W0.cell? (zm b (o+2))=some (sP p' y.2.ru.length c')/\W0.cell? (zm b (o+3))=some (sP p2 y.2.ck.length c2)/\EZ W0.heap.size W0 3 [sP p y.2.fa.length c,sP p' y.2.ru.length c',sP p2 y.2.ck.length c2] y.2
def GD:Du Ay:=fun _ vs x F=>F=[]/\vs=[um x]
def GD.sb:Ii GD:=fun _ _ _ _ _ h _=>h
def GD.one {x:Ay}(h:GD w vs x F): ∀ u,u∈vs->u.oneCell'=true:=by
 obtain⟨_,rfl⟩:=h;intro u hu;simp at hu;subst hu;rfl
variable {xs:List (Ay×Bk)}
def Z2z (h:AQ e 4 (Iu AV 4) w v xs F)(hF: ∀ k,k∈F->k<w.heap.size):Qi 4 (Yhq w) v xs:=h.rowOf hF fun b o vs x G hc hb hG hq=>by
 obtain⟨vb,rfl,hx,uH⟩:=hq;have hS:=Dx.toS uH hG;obtain⟨p,c,p',c',p2,c2,rfl⟩:=Dx.vals uH;exact⟨hb,hx,p,c,p',c',p2,c2,hc 0 zx,hc 1 zx,hc 2 zx,hc 3 zx,hS⟩
def Ztt {u:Bb}{p:Bp}(h:Ap 4 (Yhq w) p xs)(hb:Bl w u):Ap 4 (Uh w.heap.size u) p (xs.map (·.1)):=⟨by simpa using h.len,fun i x hx=>by
 rw[FK]at hx;obtain⟨y,hy,rfl⟩:=QP.1 hx;obtain⟨b,o,hp,hl,hs,p1,c1,p2,c2,p3,c3,k0,k1,k2,k3,_⟩:=h.at_ i y hy;have cc:=fun o=>hb.cell (p:=(zm b o)) hl;exact⟨b,o,hp,hl,hs,p1,_,c1,p2,_,c2,p3,_,c3,(cc _).trans k0,(cc _).trans k1,(cc _).trans k2,(cc _).trans k3⟩⟩
def Zug (T0:List UInt8)(ts:List Ay):(T0::Ju T0 ts)[ts.length]?=some (JF T0 ts):=by
 cases ts with
 | nil=>rfl
 | cons z zs=>
  rw[DU,List.getElem?_cons_succ,Zru _ _ _ zw];rw[U0 zw]
def Yay {xs:List (List UInt8)}(h:AQ e 32 Tn w v xs F)(hF: ∀ k,k∈F->k<w.heap.size):Qi 32 (fun b o x=>b<w.heap.size/\x.length=32/\w.rangeAt b o (Lib.byteCells x)) v xs:=h.rowOf hF fun b o vs x G hc hb hG hq=>by
 obtain⟨_,hx,rfl⟩:=hq;refine⟨hb,hx,fun j u hj=>?_⟩;have hl:j<32:=by have:=(DW.1 hj).1;rw[xl,hx]at this;exact this
 exact(hc j hl).trans hj
def Yci:(prog.info? 38).map (fun i=>(i.zero,i.size,i.bytes))=some (some<|.agg #[zn,zn,zn],3,72):=zt
def Zu7:J3 prog 27 38 3 72:=eL Yci underlying27
def gB:J3 prog 29 9 1 16:=eL Zvo underlying29
def Zjx {L off:Nat}{xs:List UInt8}(h:w.rangeAt L off (Lib.byteCells xs))(n:Nat)(hn:n=xs.length){cap:Nat}:
  (convert 149 9<|sP (Qb L off) n cap).run prog w= .ok (.string ⟨xs.toArray⟩) w:=by
 subst hn;refine xD (P:=prog) w 149 9 5 (zm L off) cap xs underlying149 underlying5 underlying9 fun j hj=>?_;have e1:((zm L off):Addr).add j=(zm L (off+j)):=Addr.add_lit _ _ _;rw[e1];exact h j _ (by simp[Lib.byteCells,A8 hj])
def Yh3 (w2 w5:Bb) (xs:List Bk) (ids:List Ay) (iv bv dv:Value) (wr:Bb):Prop:= ∃ (k:Nat) (F1 F2:Cg),k<=xs.length/\iv= zo (k:Int)/\AQ 38 3 (Rt w2 3) wr bv (xs.take k) F1/\AQ 9 1 GD wr dv (ids.take k) F2/\Ag w5.heap.size wr F1/\Ag w5.heap.size wr F2/\(∀ j,j∈F1->j∉F2)/\Bl w5 wr
def SL:Du (Int×Int×Ay):=fun _ vs x F=>F=[]/\vs=[zo x.1,zo x.2.1,um x.2.2]
def SL.sb:Ii SL:=fun _ _ _ _ _ h _=>h
def SL.one {vs:Bu}{x:Int×Int×Ay}(h:SL w vs x F): ∀ u,u∈vs->u.oneCell'=true:=by
 obtain⟨_,rfl⟩:=h;intro u hu;simp at hu;rcases hu with rfl | rfl | rfl <;> rfl
def O7.put {α:Type}{e:TypeId}{s:Nat}{Q:Du α}(hQ:Ii Q){L:Nat}(j:Nat){u w1:Bb}{cs:Ca}{t:TypeId}{xs:List α}{G F':Cg}{y:α}{g cap:Nat}{O:Cg}(AM:O7 e s Q (L+1) w w1 xs F G y g cap F')(hL:AO u L cs t)(hb:Bl u w)(hF: ∀ k,k∈F->L<k)(hG: ∀ k,k∈G->u.heap.size<=k)(hO: ∀ k,k∈O->L<k/\k<u.heap.size/\k∉F):
  AQ e s Q (w1.setCell (zm L j)<|sP (Qb g 0) (xs.length+1) cap) (sP (Qb g 0) (xs.length+1) cap) (xs++[y]) F'/\Ag (L+1) (w1.setCell (zm L j)<|sP (Qb g 0) (xs.length+1) cap) F'/\(∀ k,k∈O->k∉F')/\(∀ k,k∈O->(w1.setCell (zm L j)<|sP (Qb g 0) (xs.length+1) cap).heap[k]?=u.heap[k]?)/\AO (w1.setCell (zm L j)<|sP (Qb g 0) (xs.length+1) cap) L (cs.setIfInBounds j<|sP (Qb g 0) (xs.length+1) cap) t/\Below L u (w1.setCell (zm L j)<|sP (Qb g 0) (xs.length+1) cap):=by
 have hl:=hL.lt;have hs:=hb.size;have H8: ∀ k,k<u.heap.size->k∉F->w1.heap[k]?=u.heap[k]?:=fun k hk hf=>(AM.same k zx hf).trans (hb.block k hk);have Na:Below L u w1:=⟨AM.os.trans hb.os,AM.tape.trans hb.tape,AM.output.trans hb.output,Ab hs AM.size,fun k hk=>H8 k zx fun hf=>fw (hF k hf)⟩;have hne: ∀ k,L<k-> ∀ v:Value,(w1.setCell (zm L j) v).heap[k]?=w1.heap[k]?:=fun k hk v=>Aw w1 (zm L j) v k (by show k≠L;omega);have Io:=Na.setCell (p:=(zm L j)) (EO L)<|sP (Qb g 0) (xs.length+1) cap;refine⟨AQ.sb hQ _ _ _ _ _ AM.row fun k hk=>hne k (AM.new.ge k hk) _,AM.new.la lr zw,fun k hk hf=>?_,fun k hk=>(hne k (hO k hk).1 _).trans (H8 k (hO k hk).2.1 (hO k hk).2.2),(hL.of (H8 L hl fun hf=>fw (hF L hf))).set j _,Io⟩;have h1:=hO k hk;rcases AM.sub k hf with h | h | h
 .exact h1.2.2 h
 .have:=hG k h;omega
 .omega
variable {x:Ay}
structure JP (L:Nat) (u:Bb) (vb vp vk vc vy vr vd:Value) (bs:List Bk) (ys rs:List Ay) (ds:List (Int×Int×Ay)) (ps:List Dk) (Fb Fy Fr Fd Fp:Cg):Prop where
 blk:AO u L #[vb,vp,vk,vc,vy,vr,vd] 31
 rb:AQ 38 3 (Dx AV 4) u vb bs Fb
 ry:AQ 9 1 GD u vy ys Fy
 rr:AQ 9 1 GD u vr rs Fr
 rd:AQ 44 3 SL u vd ds Fd
 nb:Ag (L+1) u Fb
 ny:Ag (L+1) u Fy
 nr:Ag (L+1) u Fr
 nd:Ag (L+1) u Fd
 ib: ∀ k,k∈Fb->k∉Fy/\k∉Fr/\k∉Fd
 iy: ∀ k,k∈Fy->k∉Fr/\k∉Fd
 ir: ∀ k,k∈Fr->k∉Fd
 rp:AQ 189 2 (DY AV 4) u vp ps Fp
 np:Ag (L+1) u Fp
 ip: ∀ k,k∈Fp->k∉Fb/\k∉Fy/\k∉Fr/\k∉Fd
section
variable {L:Nat} {u w:Bb} {vb vp vk vc vy vr vd:Value} {bs:List Bk} {ys rs:List Ay} {ds:List (Int×Int×Ay)} {ps:List Dk} {Fb Fy Fr Fd Fp:Cg}
def JP.la (h:JP L u vb vp vk vc vy vr vd bs ys rs ds ps Fb Fy Fr Fd Fp)(hb:Bl u w):JP L w vb vp vk vc vy vr vd bs ys rs ds ps Fb Fy Fr Fd Fp:=
 ⟨h.blk.of<|hb.block _ h.blk.lt,AQ.sb (Dx.sb (ty:=AV) 4) _ _ _ _ _ h.rb fun k hk=>hb.block k (h.nb.lt k hk),AQ.sb GD.sb _ _ _ _ _ h.ry fun k hk=>hb.block k (h.ny.lt k hk),AQ.sb GD.sb _ _ _ _ _ h.rr fun k hk=>hb.block k (h.nr.lt k hk),AQ.sb SL.sb _ _ _ _ _ h.rd fun k hk=>hb.block k (h.nd.lt k hk),h.nb.la lr hb.size,h.ny.la lr hb.size,h.nr.la lr hb.size,h.nd.la lr hb.size,h.ib,h.iy,h.ir,AQ.sb (DY.sb (ty:=AV) 4) _ _ _ _ _ h.rp fun k hk=>hb.block k (h.np.lt k hk),h.np.la lr hb.size,h.ip⟩
def JP.set (h:JP L u vb vp vk vc vy vr vd bs ys rs ds ps Fb Fy Fr Fd Fp)(j:Nat)(v:Value){vk' vc':Value}(he:(#[vb,vp,vk,vc,vy,vr,vd]:Ca).setIfInBounds j v=#[vb,vp,vk',vc',vy,vr,vd]):JP L (u.setCell (zm L j) v) vb vp vk' vc' vy vr vd bs ys rs ds ps Fb Fy Fr Fd Fp:=by
 have hne: ∀ k,L<k->(u.setCell (zm L j) v).heap[k]?=u.heap[k]?:=fun k hk=>Aw u (zm L j) v k (by show k≠L;omega);have hs:u.heap.size<=(u.setCell (zm L j) v).heap.size:=zw
 exact⟨he▸h.blk.set j v,AQ.sb (Dx.sb (ty:=AV) 4) _ _ _ _ _ h.rb fun k hk=>hne k (h.nb.ge k hk),AQ.sb GD.sb _ _ _ _ _ h.ry fun k hk=>hne k (h.ny.ge k hk),AQ.sb GD.sb _ _ _ _ _ h.rr fun k hk=>hne k (h.nr.ge k hk),AQ.sb SL.sb _ _ _ _ _ h.rd fun k hk=>hne k (h.nd.ge k hk),h.nb.la lr hs,h.ny.la lr hs,h.nr.la lr hs,h.nd.la lr hs,h.ib,h.iy,h.ir,AQ.sb (DY.sb (ty:=AV) 4) _ _ _ _ _ h.rp fun k hk=>hne k (h.np.ge k hk),h.np.la lr hs,h.ip⟩
def JP.xy (h:JP L u vb vp vk vc vy vr vd bs ys rs ds ps Fb Fy Fr Fd Fp){N:Nat}{v:Value}{l:List Dk}{F:Cg}(hr:AQ 189 2 (DY AV 4) u v l F)(hF:Ag N u F)(hN:L+1<=N)(hi: ∀ k,k∈F->k∉Fb/\k∉Fy/\k∉Fr/\k∉Fd):JP L (u.setCell (zm L 1) v) vb v vk vc vy vr vd bs ys rs ds l Fb Fy Fr Fd F:=by
 have hne: ∀ k,L<k->(u.setCell (zm L 1) v).heap[k]?=u.heap[k]?:=fun k hk=>Aw u (zm L 1) v k (by show k≠L;omega);have hs:u.heap.size<=(u.setCell (zm L 1) v).heap.size:=zw
 exact⟨h.blk.set 1 v,AQ.sb (Dx.sb (ty:=AV) 4) _ _ _ _ _ h.rb fun k hk=>hne k (h.nb.ge k hk),AQ.sb GD.sb _ _ _ _ _ h.ry fun k hk=>hne k (h.ny.ge k hk),AQ.sb GD.sb _ _ _ _ _ h.rr fun k hk=>hne k (h.nr.ge k hk),AQ.sb SL.sb _ _ _ _ _ h.rd fun k hk=>hne k (h.nd.ge k hk),h.nb.la lr hs,h.ny.la lr hs,h.nr.la lr hs,h.nd.la lr hs,h.ib,h.iy,h.ir,AQ.sb (DY.sb (ty:=AV) 4) _ _ _ _ _ hr fun k hk=>hne k (fw (hF.ge k hk)),hF.la hN hs,hi⟩
variable {w1:Bb} {G F':Cg} {g cap:Nat}
def JP.appB (h:JP L u vb vp vk vc vy vr vd bs ys rs ds ps Fb Fy Fr Fd Fp){x:Bk}(hb:Bl u w)(hG: ∀ k,k∈G->u.heap.size<=k)(AM:O7 38 3 (Dx AV 4) (L+1) w w1 bs Fb G x g cap F'):JP L (w1.setCell (zm L 0)<|sP (Qb g 0) (bs.length+1) cap) (sP (Qb g 0) (bs.length+1) cap) vp vk vc vy vr vd (bs++[x]) ys rs ds ps F' Fy Fr Fd Fp/\Below L u (w1.setCell (zm L 0)<|sP (Qb g 0) (bs.length+1) cap):=by
 obtain⟨h1,h2,h3,h4,h5,h6⟩:=O7.put (Dx.sb (ty:=AV) 4) 0 (O:=Fy++(Fr++(Fd++Fp))) AM h.blk hb (fun k hk=>h.nb.ge k hk) hG fun k hk=>by
  simp only[Aj]at hk;rcases hk with hk | hk | hk | hk
  .exact⟨h.ny.ge k hk,h.ny.lt k hk,fun hf=>(h.ib k hf).1 hk⟩
  .exact⟨h.nr.ge k hk,h.nr.lt k hk,fun hf=>(h.ib k hf).2.1 hk⟩
  .exact⟨h.nd.ge k hk,h.nd.lt k hk,fun hf=>(h.ib k hf).2.2 hk⟩
  .exact⟨h.np.ge k hk,h.np.lt k hk,(h.ip k hk).1⟩
 have hs:=h6.size;exact⟨⟨h5,h1,AQ.sb GD.sb _ _ _ _ _ h.ry fun k hk=>h4 k (by simp[hk]),AQ.sb GD.sb _ _ _ _ _ h.rr fun k hk=>h4 k (by simp[hk]),AQ.sb SL.sb _ _ _ _ _ h.rd fun k hk=>h4 k (by simp[hk]),h2,h.ny.la lr hs,h.nr.la lr hs,h.nd.la lr hs,fun k hk=>⟨fun q=>h3 k (by simp[q]) hk,fun q=>h3 k (by simp[q]) hk,fun q=>h3 k (by simp[q]) hk⟩,h.iy,h.ir,AQ.sb (DY.sb (ty:=AV) 4) _ _ _ _ _ h.rp fun k hk=>h4 k (by simp[hk]),h.np.la lr hs,fun k hk=>⟨h3 k (by simp[hk]),(h.ip k hk).2⟩⟩,h6⟩
def JP.appY (h:JP L u vb vp vk vc vy vr vd bs ys rs ds ps Fb Fy Fr Fd Fp)(hb:Bl u w)(hG: ∀ k,k∈G->u.heap.size<=k)(AM:O7 9 1 GD (L+1) w w1 ys Fy G x g cap F'):JP L (w1.setCell (zm L 4)<|sP (Qb g 0) (ys.length+1) cap) vb vp vk vc (sP (Qb g 0) (ys.length+1) cap) vr vd bs (ys++[x]) rs ds ps Fb F' Fr Fd Fp/\Below L u (w1.setCell (zm L 4)<|sP (Qb g 0) (ys.length+1) cap):=by
 obtain⟨h1,h2,h3,h4,h5,h6⟩:=O7.put GD.sb 4 (O:=Fb++(Fr++(Fd++Fp))) AM h.blk hb (fun k hk=>h.ny.ge k hk) hG fun k hk=>by
  simp only[Aj]at hk;rcases hk with hk | hk | hk | hk
  .exact⟨h.nb.ge k hk,h.nb.lt k hk,(h.ib k hk).1⟩
  .exact⟨h.nr.ge k hk,h.nr.lt k hk,fun hf=>(h.iy k hf).1 hk⟩
  .exact⟨h.nd.ge k hk,h.nd.lt k hk,fun hf=>(h.iy k hf).2 hk⟩
  .exact⟨h.np.ge k hk,h.np.lt k hk,(h.ip k hk).2.1⟩
 have hs:=h6.size;exact⟨⟨h5,AQ.sb (Dx.sb (ty:=AV) 4) _ _ _ _ _ h.rb fun k hk=>h4 k (by simp[hk]),h1,AQ.sb GD.sb _ _ _ _ _ h.rr fun k hk=>h4 k (by simp[hk]),AQ.sb SL.sb _ _ _ _ _ h.rd fun k hk=>h4 k (by simp[hk]),h.nb.la lr hs,h2,h.nr.la lr hs,h.nd.la lr hs,fun k hk=>⟨h3 k (by simp[hk]),(h.ib k hk).2⟩,fun k hk=>⟨fun q=>h3 k (by simp[q]) hk,fun q=>h3 k (by simp[q]) hk⟩,h.ir,AQ.sb (DY.sb (ty:=AV) 4) _ _ _ _ _ h.rp fun k hk=>h4 k (by simp[hk]),h.np.la lr hs,fun k hk=>⟨(h.ip k hk).1,h3 k (by simp[hk]),(h.ip k hk).2.2⟩⟩,h6⟩
def JP.appR (h:JP L u vb vp vk vc vy vr vd bs ys rs ds ps Fb Fy Fr Fd Fp)(hb:Bl u w)(hG: ∀ k,k∈G->u.heap.size<=k)(AM:O7 9 1 GD (L+1) w w1 rs Fr G x g cap F'):JP L (w1.setCell (zm L 5)<|sP (Qb g 0) (rs.length+1) cap) vb vp vk vc vy (sP (Qb g 0) (rs.length+1) cap) vd bs ys (rs++[x]) ds ps Fb Fy F' Fd Fp/\Below L u (w1.setCell (zm L 5)<|sP (Qb g 0) (rs.length+1) cap):=by
 obtain⟨h1,h2,h3,h4,h5,h6⟩:=O7.put GD.sb 5 (O:=Fb++(Fy++(Fd++Fp))) AM h.blk hb (fun k hk=>h.nr.ge k hk) hG fun k hk=>by
  simp only[Aj]at hk;rcases hk with hk | hk | hk | hk
  .exact⟨h.nb.ge k hk,h.nb.lt k hk,(h.ib k hk).2.1⟩
  .exact⟨h.ny.ge k hk,h.ny.lt k hk,(h.iy k hk).1⟩
  .exact⟨h.nd.ge k hk,h.nd.lt k hk,fun hf=>h.ir k hf hk⟩
  .exact⟨h.np.ge k hk,h.np.lt k hk,(h.ip k hk).2.2.1⟩
 have hs:=h6.size;exact⟨⟨h5,AQ.sb (Dx.sb (ty:=AV) 4) _ _ _ _ _ h.rb fun k hk=>h4 k (by simp[hk]),AQ.sb GD.sb _ _ _ _ _ h.ry fun k hk=>h4 k (by simp[hk]),h1,AQ.sb SL.sb _ _ _ _ _ h.rd fun k hk=>h4 k (by simp[hk]),h.nb.la lr hs,h.ny.la lr hs,h2,h.nd.la lr hs,fun k hk=>⟨(h.ib k hk).1,h3 k (by simp[hk]),(h.ib k hk).2.2⟩,fun k hk=>⟨h3 k (by simp[hk]),(h.iy k hk).2⟩,fun k hk q=>h3 k (by simp[q]) hk,AQ.sb (DY.sb (ty:=AV) 4) _ _ _ _ _ h.rp fun k hk=>h4 k (by simp[hk]),h.np.la lr hs,fun k hk=>⟨(h.ip k hk).1,(h.ip k hk).2.1,h3 k (by simp[hk]),(h.ip k hk).2.2.2⟩⟩,h6⟩
def JP.appD (h:JP L u vb vp vk vc vy vr vd bs ys rs ds ps Fb Fy Fr Fd Fp){x:Int×Int×Ay}(hb:Bl u w)(hG: ∀ k,k∈G->u.heap.size<=k)(AM:O7 44 3 SL (L+1) w w1 ds Fd G x g cap F'):JP L (w1.setCell (zm L 6)<|sP (Qb g 0) (ds.length+1) cap) vb vp vk vc vy vr (sP (Qb g 0) (ds.length+1) cap) bs ys rs (ds++[x]) ps Fb Fy Fr F' Fp/\Below L u (w1.setCell (zm L 6)<|sP (Qb g 0) (ds.length+1) cap):=by
 obtain⟨h1,h2,h3,h4,h5,h6⟩:=O7.put SL.sb 6 (O:=Fb++(Fy++(Fr++Fp))) AM h.blk hb (fun k hk=>h.nd.ge k hk) hG fun k hk=>by
  simp only[Aj]at hk;rcases hk with hk | hk | hk | hk
  .exact⟨h.nb.ge k hk,h.nb.lt k hk,(h.ib k hk).2.2⟩
  .exact⟨h.ny.ge k hk,h.ny.lt k hk,(h.iy k hk).2⟩
  .exact⟨h.nr.ge k hk,h.nr.lt k hk,h.ir k hk⟩
  .exact⟨h.np.ge k hk,h.np.lt k hk,(h.ip k hk).2.2.2⟩
 have hs:=h6.size;exact⟨⟨h5,AQ.sb (Dx.sb (ty:=AV) 4) _ _ _ _ _ h.rb fun k hk=>h4 k (by simp[hk]),AQ.sb GD.sb _ _ _ _ _ h.ry fun k hk=>h4 k (by simp[hk]),AQ.sb GD.sb _ _ _ _ _ h.rr fun k hk=>h4 k (by simp[hk]),h1,h.nb.la lr hs,h.ny.la lr hs,h.nr.la lr hs,h2,fun k hk=>⟨(h.ib k hk).1,(h.ib k hk).2.1,h3 k (by simp[hk])⟩,fun k hk=>⟨(h.iy k hk).1,h3 k (by simp[hk])⟩,fun k hk=>h3 k (by simp[hk]),AQ.sb (DY.sb (ty:=AV) 4) _ _ _ _ _ h.rp fun k hk=>h4 k (by simp[hk]),h.np.la lr hs,fun k hk=>⟨(h.ip k hk).1,(h.ip k hk).2.1,(h.ip k hk).2.2.1,h3 k (by simp[hk])⟩⟩,h6⟩
end
def rJ (w:Bb) (p:Bp) (xs:List (Int×Int×Ay)):Prop:= ∀ (i:Nat) (x:Int×Int×Ay),xs[i]?=some x->(x.2.2.size<140737488355328/\ -9223372036854775808<=x.2.1/\x.2.1<9223372036854775808)/\ ∃ b o,p=some (zm b o)/\w.cell? (zm b (o+i*3))=some (zo x.1)/\w.cell? (zm b (o+i*3+1))=some (zo x.2.1)/\w.cell? (zm b (o+i*3+2))=some (um x.2.2)
def Yjo (w:Bb) (xs:List (Int×Int×Ay)) (nv iv:Value) (wr:Bb):Prop:= ∃ (k:Nat) (m:Nat),k<=xs.length/\iv= zo (k:Int)/\nv= zo (m:Int)/\m<=65536/\wr=w/\ ∀ (i:Nat) (x:Int×Int×Ay),i<k->xs[i]?=some x->x.2.2.size<=65536
def Yaq {w:Bb}{p:Bp}{c:Nat}{xs:List (Int×Int×Ay)}(h:rJ w p xs)(hl:xs.length<140737488355328):Calls prog 8 #[sP p xs.length c] w fun e w'=> ∃ b,e=uY (.bool b)/\w'=w/\(b=true->xs.length<=65536/\ ∀ (i:Nat) (x:Int×Int×Ay),xs[i]?=some x->x.2.2.size<=65536):=by
 have H:=AC h;clear h;obtain⟨n,hn⟩:=cK (xs.length);rw[hn.o]at hl⊢;by_cases h0:n<=65536
 .have h1: ¬ (65536:Int)<(n:Int):=zx
  go_in
  go_wp2
  go_loopw [3,4] (fun nv iv wr=>Yjo w xs nv iv wr) (fun _ iv _=>n-(intOf iv).toNat)
  .exact⟨0,n,zx,rfl,rfl,h0,rfl,fun _ _ h=>zx⟩
  .obtain⟨k,m,hk,rfl,rfl,hm,rfl,hall⟩:=hrel;have HA:=AC hall;clear hall;by_cases hlt:k<n
   .have OP:k<xs.length:=by rw[hn.o];exact hlt
    obtain⟨⟨hs,_⟩,b,o,rfl,_,_,k2⟩:=H.o k xs[k]<|A8 OP;have hx:=AC<|A8 OP;generalize xs[k]=x at*;by_cases hg:m+x.2.2.size<=65536
    .have g1: ¬ (65536:Int)<(m:Int)+(x.2.2.size:Int):=zx
     go_wp2_with fail
     refine⟨⟨k+1,m+x.2.2.size,OP,by go_num,by go_num,hg,rfl,fun i y hi hy=>?_⟩,zd⟩;rcases Qp i k with h | h
     .exact HA.o i y h hy
     .obtain rfl:i=k:=zx
      rw[hx.o]at hy;cases hy;omega
    .have g1:(65536:Int)<(m:Int)+(x.2.2.size:Int):=zx
     go_wp2
     go_ret
     exact⟨false,rfl,rfl,fun h=>by cases h⟩
   .have uA:k=n:=by rw[hn.o]at hk;omega
    subst uA;go_wp2
    go_ret
    exact⟨true,rfl,rfl,fun _=>⟨h0,fun i y hy=>HA.o i y (by have:=(DW.1 hy).1;rw[hn.o]at this;exact this) hy⟩⟩
 .have h1:(65536:Int)<(n:Int):=zx
  go_in
  go_wp2
  go_ret
  exact⟨false,rfl,rfl,fun h=>by cases h⟩
variable {W:Bb}{base fuel:Nat}{sp:Nat->Bool}{held:Bool}
section
variable {H:Type}
def Zta (y:DataW H×List MemPlace):Int×Int×Ay:=match y.1 with
 | .agg [.lit<|.int _ k,.lit<|.int _ a,.lit<|.string t]=>(k,a,⟨t.toArray⟩)
 | _=>(0,0,⟨#[]⟩)
def uj:prog.cellsOf 44=3:=zt
def Yia:prog.cellsOf 3=1:=zt
def Yib:prog.cellsOf 9=1:=zt
def Yfm:prog.bytesOf 44=32:=zt
def Z1t {P:Program}{e:TypeId}{l:List (DataW H)}{d:DataW H}(h:d∈l): ∀ n,n∈d.weights P e->n∈DataW.weightsAll P e l:=by
 induction l with
 | nil=>cases h
 | cons y r ih=>
  intro n hn;simp only[DataW.weightsAll,Aj];rcases Ak.1 h with rfl | h
  .exact .inl hn
  .exact .inr<|ih h n hn
def Yio {α:Type}{l:List α}(h:l.length=3): ∃ a b c,l=[a,b,c]:=by
 match l,h with
 | [a,b,c],_=>exact⟨a,b,c,rfl⟩
def Yas {w:Bb}{a:Addr}(hc:w.cell? ((a.add<|0*3).add 0)=some v):a.spot=none:=by
 simp only[YC,Addr.add,if_true]at hc;unfold World.cell? at hc;split at hc
 .split at hc
  .cases hc
  .rename_i hh;cases hs:a.spot with
   | none=>rfl
   | some z=>rw[hs]at hh;exact absurd rfl hh
 .cases hc
def Zt5 {enc:TypeId×Value->H}{cs:Bu}{y:DataW H×List MemPlace}(h:DataW.trod enc prog W base sp held fuel 44 cs=some y):cs=[zo (Zta y).1,zo (Zta y).2.1,um (Zta y).2.2]/\(Zta y).2.2.size∈y.1.weights prog 44/\(-9223372036854775808<=(Zta y).2.1/\(Zta y).2.1<9223372036854775808):=by
 obtain⟨xs,n,_,hy,hl,hx,hf⟩:=DataW.trod_struct underlying44 h;rw[uj]at hl;obtain⟨c0,c1,c2,rfl⟩:=Yio hl;obtain⟨x0,x1,x2,rfl⟩:=Yio (hx.trans rfl:xs.length=3);have f0:DataW.trod enc prog W base sp held n 3 (List.take (prog.cellsOf 3) [c0,c1,c2])=some x0:=hf 0 _ rfl;have f1:DataW.trod enc prog W base sp held n 3 (List.take (prog.cellsOf 3) [c1,c2])=some x1:=hf 1 _ rfl;have f2:DataW.trod enc prog W base sp held n 9 (List.take (prog.cellsOf 9) [c2])=some x2:=hf 2 _ rfl;rw[Yia]at f0 f1;rw[Yib]at f2;obtain⟨k,e0,rfl,_⟩:=DataW.trod_int underlying3 f0;obtain⟨a,e1,rfl,ea⟩:=DataW.trod_int underlying3 f1;obtain⟨s,e2,rfl,_⟩:=DataW.trod_string underlying9 f2;simp at e0 e1 e2;subst hy e0 e1 e2;refine⟨rfl,?_,(by
  have h1:(decide (IntKind.i64.min<=a) && decide (a<=IntKind.i64.max))=true:=ea;rw[show IntKind.i64.min= -9223372036854775808 by decide,show IntKind.i64.max=9223372036854775807 by decide]at h1;simp at h1;exact⟨h1.1,Int.lt_of_le_of_lt h1.2 zu⟩)⟩
 rw[DataW.weights,underlying44];refine DataW.weights_mem_each (j:=2) (t:=9) (d:= .lit<|.string s.data.toList) rfl rfl _ ?_;rw[DataW.weights];exact Bh.2<|Vp▸rfl
def Zre {enc:TypeId×Value->H}{x:DataW H×List MemPlace}(h:DataW.trod enc prog W base sp held fuel 22 [v]=some x)(hz:(x.1.weights prog 22).all (·<=reachBytes)=true): ∃ p c xs,v= sP p xs.length c/\xs.length<140737488355328/\rJ W p xs:=by
 rcases DataW.trod_slice underlying22 h with⟨hv,_⟩ | ⟨a,len,cap,elems,rest,n,_,hv,hx,_,_,_,hlen,hel,_,_⟩
 .cases hv;exact⟨none,0,[],rfl,zu,fun i x hx=>by simp at hx⟩
 cases hv;subst hx;have hr:=reachBytes_lt;simp only[DataW.weights,underlying22,List.all_cons,List.all_append,wx,Dj,Yfm,wA]at hz;obtain⟨hz0,hz1,_⟩:=hz;have each: ∀ i y,elems[i]?=some y->((Zta y).2.2.size<140737488355328/\ -9223372036854775808<=(Zta y).2.1/\(Zta y).2.1<9223372036854775808)/\ ∃ b o,a=(zm b o)/\W.cell? (zm b (o+i*3))=some (zo (Zta y).1)/\W.cell? (zm b (o+i*3+1))=some (zo (Zta y).2.1)/\W.cell? (zm b (o+i*3+2))=some (um (Zta y).2.2):=by
  intro i y hy;have hi:i<len:=by rw[<- hlen];exact(DW.1 hy).1
  have h1:=hel i hi;have h0:=hel 0 zx;rw[hy,Option.bind_eq_some_iff]at h1;obtain⟨cs,hcs,ht⟩:=h1;obtain⟨rfl,hw,hA⟩:=Zt5 ht;have hsz:=SI.1 hz1 _<|Z1t (List.mem_map.2 ⟨y,Ej hy,rfl⟩) _ hw;simp only[wA]at hsz;have hsp:a.spot=none:=by
   have: ∃ y0,elems[0]?=some y0:=⟨elems[0]' zx,A8 _⟩
   obtain⟨y0,mJ⟩:=this;rw[mJ,Option.bind_eq_some_iff]at h0;obtain⟨cs0,zf,Ib⟩:=h0;obtain⟨rfl,_⟩:=Zt5 Ib;have hc:=(World.cells?_some zf).2.2 0 (by rw[uj];omega);rw[uj]at hc;exact Yas<|hc.trans rfl
  obtain⟨b,o,z⟩:=a;simp only at hsp;subst hsp;rw[uj]at hcs;have hc:=(World.cells?_some hcs).2.2;have ad: ∀ k,((zm b o):Addr).add k=(zm b (o+k)):=fun k=>Addr.add_lit _ _ _;refine⟨⟨zx,hA⟩,b,o,rfl,?_,?_,?_⟩
  .have:=hc 0 zw;rw[ad,Addr.add_lit]at this;exact this
  .have:=hc 1 zw;rw[ad,Addr.add_lit]at this;exact this
  .have:=hc 2 zw;rw[ad,Addr.add_lit]at this;exact this
 refine⟨some a,cap,elems.map Zta,by rw[Dj,hlen],by rw[Dj];omega,fun i x hx=>?_⟩;rw[FK]at hx;obtain⟨y,hy,rfl⟩:=QP.1 hx;obtain⟨h1,b,o,h2,h3⟩:=each i y hy;exact⟨h1,b,o,by rw[h2],h3⟩
end
end Go.W
