import Derived.Test.YtgnakaplmhmdcaaGreatDoorW10
import Derived.Test.YtgnakaplmhmdcaaGreatDoorW20
set_option maxRecDepth 100000
set_option maxHeartbeats 8000000
set_option linter.unusedSimpArgs false
open Go.Proofs Go.RowKit Go.W
namespace Go.W
theorem _root_.Go.RowKit.Below.drewK {B:Nat}{a w:World}(h:Below B a w)(n:Nat):Below B a (w.drewN n):=⟨h.os,h.tape,h.output,h.size,h.block⟩
theorem Zjl {P:Program}{ops:Array Oper}{S:World->Prop}{o:Oper}{v:Value}{a:Act}(hgd:o.guard=none)(ty:TypeId)(ps:Array (Nat×Operand))(ho:o.op= .build ty ps)(pv:Array (Nat×Value))(hp:ps.map (fun p=>(p.1,a.eval p.2))=pv)(h: ∀ u,S u->(Instr.build ty pv).run P u= .ok v u):YieldsIf P ops S o v a:=
 Or.inl ⟨by simp[Region.wanted,hgd],fun u hS=>by
  unfold execOp;rw[ho];simp only[hp,Yek,Sem.run_pure,Yd9,h u hS]⟩
end Go.W
namespace Go.P
def Zrs (key:ByteArray):Bool:=decide (0 < key.size/\key.size<=100)
theorem Zs5 (key:ByteArray)(hk:key.size < 1000000000)(w:World):Calls Tryz.prog 39 #[.string key] w fun e w'=>e= .returned (.bool (Zrs key))/\w'=w:=by
 by_cases h0:key.size=0
 ·obtain rfl:key=ByteArray.empty:=Zgl ((Yda ((Zdy key).trans h0)).trans (by rw[Ydl];rfl));go_enter Tryz.func39,Tryz.ntmps39
  go_wp2_with fail
  go_ret
  exact⟨rfl,rfl⟩
 ·have g:key.toList.isEmpty=false:=by
   rw[List.isEmpty_eq_false_iff];intro h
   have:=Zdy key
   rw[h]at this;simp at this;omega
  have HE:Box (Zrs key=decide ((key.size:Int)<=100)):=⟨by unfold Zrs;rw[decide_eq_decide];omega⟩;go_enter Tryz.func39,Tryz.ntmps39
  go_wp2_with fail
  go_ret
  exact⟨by rw[HE.out];rfl,rfl⟩
def Zwt (key:ByteArray) (x:Bk):Int:=if Zrs key then Zh8 x else 8
def Zrm (key:ByteArray) (x:Bk):ByteArray:=if Zrs key/\Zh8 x=0 then Zf2 false [Zeh x] (Za1 key [Zeh x])else ByteArray.empty
def Zge (key t:ByteArray) (B:Nat) (v1 v2 v3 t8 t24 t27 t28 t29:Value):Act:={tmps:=#[.string key,.agg #[v1,v2,v3],undef,.pointer (some ⟨B,0,none⟩),.string ⟨#[]⟩,.nilIface,.string t,.nilIface,t8,.string key,.bool true,.bool false,undef,.tuple #[.string t,.nilIface],.agg #[v1,v2,v3],.tuple #[.string t,.nilIface],.string t,.nilIface,.nilIface,.bool false,undef,.string t,.agg #[v1,v2,v3],.agg #[.string t,v1,v2,v3],t24,.string key,.string t,t27,t28,t29,undef,undef],defers:=[]}
def Yb2 (w2:World) (key t:ByteArray) (B:Nat) (v1 v2 v3:Value) (d1 d2 d3 d4:Bool) (a:Act) (u:World):Prop:= ∃ Lk Lt Lc:Nat,
 a=Zge key t B v1 v2 v3 (if d4 then .pointer (some ⟨Lc,0,none⟩)else undef) (if d1 then .slice (some ⟨Lk,0,none⟩) 1 1 else undef) (if d2 then .slice (some ⟨Lt,0,none⟩) 1 1 else undef) (if d3 then Zlk (Za1 key [t])else undef) undef/\
 (d1=true->Blk u Lk #[.string t,v1,v2,v3] 114/\w2.heap.size<=Lk)/\(d2=true->Blk u Lt #[.string t] 9)/\(d4=true->Blk u Lc Zay 120/\w2.heap.size<=Lc)/\(d1=true->d4=true->Lk≠Lc)/\Below w2.heap.size w2 u/\Blk u B #[v1,v2,v3] 38
theorem Zfn (x:Bk):(Zeh x).size<=4000:=by
 unfold Zeh;split
 ·rename_i h;unfold Zh8 at h;split at h
  ·rename_i h';exact absurd h h'
  ·split at h
   ·cases h
   ·omega
 ·decide
theorem Z7j {α:Type}{l:List α}(h:l.length=32): ∃ a0 a1 a2 a3 a4 a5 a6 a7 a8 a9 b0 b1 b2 b3 b4 b5 b6 b7 b8 b9 c0 c1 c2 c3 c4 c5 c6 c7 c8 c9 d0 d1,l=[a0,a1,a2,a3,a4,a5,a6,a7,a8,a9,b0,b1,b2,b3,b4,b5,b6,b7,b8,b9,c0,c1,c2,c3,c4,c5,c6,c7,c8,c9,d0,d1]:=by
 match l,h with
 | [a0,a1,a2,a3,a4,a5,a6,a7,a8,a9,b0,b1,b2,b3,b4,b5,b6,b7,b8,b9,c0,c1,c2,c3,c4,c5,c6,c7,c8,c9,d0,d1],_=>exact⟨_,_,_,_,_,_,_,_,_,_,_,_,_,_,_,_,_,_,_,_,_,_,_,_,_,_,_,_,_,_,_,_,rfl⟩
theorem Zoe {T:List UInt8}(h:T.length=32)(L:Nat)(w:World):(Instr.build 120 #[(1,.slice (some ⟨L,0,none⟩) 1 1),(2,Zlk T)]).run Tryz.prog w= .ok (.agg (Zau false (.slice (some ⟨L,0,none⟩) 1 1) (Lib.byteCells T))) w:=by
 obtain⟨a0,a1,a2,a3,a4,a5,a6,a7,a8,a9,b0,b1,b2,b3,b4,b5,b6,b7,b8,b9,c0,c1,c2,c3,c4,c5,c6,c7,c8,c9,d0,d1,rfl⟩:=Z7j h;kernel_rfl
theorem Zi0 (S:Bool){ts:List ByteArray}{tag:List UInt8}(hn:ts.length<=8)(ht: ∀ t,t∈ts->t.size<=4000)(hl:tag.length=32):(Zf2 S ts tag).size < 1000000000:=by
 have h1:(Za4 Zdk ts).size<=11+8*4011:=Zdj hn fun x hx=>by
  rw[Zdk,Zae]
  have:=Zm5 x.size
  have:=ht x hx
  omega
 rw[Zf2,Zae,Zae,Zae,Zch,Ze7 tag,hl]
 have:(ba Zdc).size=4:=rfl
 omega
theorem Z64 (V:Zbe){a:Nat->Addr}{B D:Nat}{w:World}{key:ByteArray}{vs:List Value}{x:Bk}(Z:Zap a w)(hk:key.size < 1000000000)(hB:B<=w.heap.size)(hS:Zbk B w D vs x):
  Calls Tryz.prog 23 #[.string key,.agg vs.toArray] w fun e w'=>e= .returned (.tuple #[.string (Zrm key x),Zc3 a (Zwt key x)])/\Below w.heap.size w w':=by
 have CK:=Zaa (fun u=>Zs5 key hk u);have B0:=fun o=>(Yct w.heap.size w).alloc lr o;have CE:=Zaa (fun o=>Zlo V (Z.below (B0 o)) (by simp;omega) (Zbk.carry hS (Za6 (B0 o) hB)));have ZZ:=Zaa Z;have HS:=Zaa hS;have z8:=Z.c8;obtain⟨p1,c1,p2,c2,p3,c3,rfl,_⟩:=hS;clear Z V;go_enter Tryz.func23,Tryz.ntmps23
 go_wp2_with fail
 refine(CK.out _).mono ?_;rintro e w1 ⟨rfl,rfl⟩;by_cases hkey:Zrs key=true
 ·have HM:Box (Zwt key x=Zh8 x/\(Zh8 x=0->Zrm key x=Zf2 false [Zeh x] (Za1 key [Zeh x]))/\(Zh8 x≠0->Zrm key x=ByteArray.empty)):=⟨by unfold Zwt;rw[if_pos hkey],fun h=>by unfold Zrm;rw[if_pos ⟨hkey,h⟩],fun h=>by unfold Zrm;rw[if_neg (fun q=>h q.2)]⟩;rw[hkey];go_wp2_with fail
  refine(CE.out _).mono ?_;rintro e w2 ⟨rfl,hb2⟩;have B2:=Zaa ((B0 _).trans (hb2.mono (by simp)));by_cases hn:Zh8 x=0
  ·have LX:=Zaa ((Blk.new w #[.slice p1 x.facts.length c1,.slice p2 x.rules.length c2,.slice p3 x.checks.length c3] 38).of (hb2.block _ (by simp)));obtain⟨y0,y1,y2,sy⟩:=LX.out.three;rw[hn,Zbb];clear CE CK hb2 z8;go_wp2_with fail
   have hts:=Zfn x;obtain⟨t,ht⟩: ∃ t,Box (Zeh x=t):=⟨_,⟨rfl⟩⟩;rw[ht.out]at hts⊢;clear y0 y1 y2 sy;refine wp_region_held (S:=fun u=>Blk u w.heap.size #[.slice p1 x.facts.length c1,.slice p2 x.rules.length c2,.slice p3 x.checks.length c3] 38) (by kernel_rfl) ?_;change wpAnyH _ _ _ _ _ _ _ _ (World.drew _);have hS0:Blk w2.drew w.heap.size #[.slice p1 x.facts.length c1,.slice p2 x.rules.length c2,.slice p3 x.checks.length c3] 38:=LX.out;refine tk 0 (.string t) hS0 (hy:=fun u hS=>by go_simp) (h:=?_);simp only[Act.put];refine wpAnyH_take (i:=1) (oi:={dst:=some 22,op:= .load 38 (.tmp 3),type:=38,pos:= "warrant.go:188",after:=#[],guard:=none}) (v:= .agg #[.slice p1 x.facts.length c1,.slice p2 x.rules.length c2,.slice p3 x.checks.length c3]) rfl (by kernel_rfl) (by kernel_rfl) (by kernel_rfl) (fun _ _ _ h=>h) (Zhb rfl 38 (.tmp 3) rfl ⟨w.heap.size,0,none⟩ rfl fun u hS=>run_loadVar_row u w.heap.size 38 38 _ _ _ hS Tryz.underlying38 rfl (by kernel_rfl)) hS0 ?_;simp only[Act.put];refine tk 2 (.agg #[.string t,.slice p1 x.facts.length c1,.slice p2 x.rules.length c2,.slice p3 x.checks.length c3]) hS0 (hy:=fun u hS=>by go_simp) (h:=?_);simp only[Act.put];refine tk 4 (.string key) hS0 (hy:=fun u hS=>by go_simp) (h:=?_);simp only[Act.put];refine tk 5 (.string t) hS0 (hy:=fun u hS=>by go_simp) (h:=?_);change wpAnyH _ _ _ _ _ (2+4) ((fun d1 d2 d3 d4=>#[true,true,true,d1,true,true,d2,d3,false,d4,false]) false false false false) (Zge key t w.heap.size (.slice p1 x.facts.length c1) (.slice p2 x.rules.length c2) (.slice p3 x.checks.length c3) undef undef undef undef undef) _;have hlt0:w.heap.size < w2.heap.size:=LX.out.lt;have Z2: ∀ u,Below w2.heap.size w2 u->Zap a u:=fun u hu=>(ZZ.out.below B2.out).below hu;refine Z0f (fun d1 d2 d3 d4=>#[true,true,true,d1,true,true,d2,d3,false,d4,false]) 3 6 7 9 _ _ _ _ (Yb2 w2 key t w.heap.size (.slice p1 x.facts.length c1) (.slice p2 x.rules.length c2) (.slice p3 x.checks.length c3)) 2 (fun d1 d2 d3 d4 a u hJ=>?_) rfl rfl rfl rfl (fun d1 d2 d3 d4 h hn=>?_) (fun d2 d3 d4=>rfl) (fun d1 d3 d4=>rfl) (fun d1 d2 d4=>rfl) (fun d1 d2 d3=>rfl) (fun d2 d3 d4 a u hJ K hK=>?_) (fun d1 d4 a u hJ K hK=>?_) (fun d1 d4 a u hJ K hK=>?_) (fun d1 d2 d3 a u hJ K hK=>?_) (fun d4 a u hJ=>?_) 4 false false false false rfl (fun h=>by cases h) _ _ ⟨0,0,0,rfl,(fun h=>by cases h),(fun h=>by cases h),(fun h=>by cases h),(fun h=>by cases h),(Yct _ w2).drew,hS0⟩
   ·obtain⟨Lk,Lt,Lc,_,_,_,_,_,_,hb⟩:=hJ;exact hb
   ·cases d1 <;> cases d2 <;> cases d3 <;> cases d4 <;> first | (exact absurd (h rfl) (by decide)) | (exact absurd hn (by decide)) | kernel_rfl
   ·obtain⟨Lk,Lt,Lc,rfl,h1,h2,h4,h14,hb,hB3⟩:=hJ;unfold Zl5 Zge;go_simp;exact hK _ _ ⟨u.heap.size,Lt,Lc,rfl,fun _=>⟨Blk.new u _ _,hb.size⟩,fun h=>(h2 h).alloc _,fun h=>⟨(h4 h).1.alloc _,(h4 h).2⟩,(fun _ h=>by have:=(h4 h).1.lt;omega),hb.alloc hb.size _,hB3.alloc _⟩
   ·obtain⟨Lk,Lt,Lc,rfl,h1,h2,h4,h14,hb,hB3⟩:=hJ;unfold Zl5 Zge;go_simp;exact hK _ _ ⟨Lk,u.heap.size,Lc,rfl,fun h=>⟨(h1 h).1.alloc _,(h1 h).2⟩,fun _=>Blk.new u _ _,fun h=>⟨(h4 h).1.alloc _,(h4 h).2⟩,h14,hb.alloc hb.size _,hB3.alloc _⟩
   ·obtain⟨Lk,Lt,Lc,rfl,h1,h2,h4,h14,hb,hB3⟩:=hJ;unfold Zl5 Zge;go_simp;refine(Zn3 (c:=1) (Z2 u hb) hk (Zgu (h2 rfl) (by omega)) (by simp)).mono ?_;rintro e u' ⟨rfl,hb'⟩;exact hK _ _ ⟨Lk,Lt,Lc,rfl,fun h=>⟨(h1 h).1.of (hb'.block _ (h1 h).1.lt),(h1 h).2⟩,fun h=>(h2 h).of (hb'.block _ (h2 h).lt),fun h=>⟨(h4 h).1.of (hb'.block _ (h4 h).1.lt),(h4 h).2⟩,h14,hb.trans (hb'.mono hb.size),hB3.of (hb'.block _ hB3.lt)⟩
   ·obtain⟨Lk,Lt,Lc,rfl,h1,h2,h4,h14,hb,hB3⟩:=hJ;unfold Zl5 Zge;go_simp;exact hK _ _ ⟨Lk,Lt,u.heap.size,rfl,fun h=>⟨(h1 h).1.alloc _,(h1 h).2⟩,fun h=>(h2 h).alloc _,fun _=>⟨Blk.new u Zay _,hb.size⟩,(fun h _=>by have:=(h1 h).1.lt;omega),hb.alloc hb.size _,hB3.alloc _⟩
   ·obtain⟨Lk,Lt,Lc,rfl,h1,h2,h4,h14,hb,hB3⟩:=hJ;have hK:=h1 rfl;have hTl:(Za1 key [t]).length=32:=Zbs _;clear h1 h2;cases d4
    case' false=>
     change wpAnyH _ _ _ _ _ 3 _ (Zge key t w.heap.size (.slice p1 x.facts.length c1) (.slice p2 x.rules.length c2) (.slice p3 x.checks.length c3) undef (.slice (some ⟨Lk,0,none⟩) 1 1) (.slice (some ⟨Lt,0,none⟩) 1 1) (Zlk (Za1 key [t])) undef) _;unfold Zge;refine wpAnyH_take (i:=8) (oi:={dst:=some 29,op:= .build 120 #[(1,.tmp 24),(2,.tmp 28)],type:=120,pos:= "warrant.go:188",after:=#[{on:=3,ground:=Ground.data},{on:=7,ground:=Ground.data}],guard:=none}) (v:= .agg (Zau false (.slice (some ⟨Lk,0,none⟩) 1 1) (Lib.byteCells (Za1 key [t])))) rfl (by kernel_rfl) (by kernel_rfl) (by kernel_rfl) (fun _ _ _ h=>h) (Zjl rfl 120 #[(1,.tmp 24),(2,.tmp 28)] rfl #[(1,.slice (some ⟨Lk,0,none⟩) 1 1),(2,Zlk (Za1 key [t]))] (by simp[Act.eval]) fun u hS=>Zoe hTl _ u) hB3 ?_;simp only[Act.put];refine wpAnyH_ready (rs:=[9]) (by kernel_rfl) (by simp) (Yc9 rfl (fun K' hK'=>?_) Ydc);go_simp;have hC:Blk (u.alloc (.cells Zay 120)) u.heap.size Zay 120:=Blk.new u Zay _;have hCw:w2.heap.size<=u.heap.size:=hb.size;have hne:Lk≠u.heap.size:=by have:=hK.1.lt;omega
     have hK9:=Ycs (hK.1.alloc (.cells Zay 120)) hK.2;have hb9:=hb.alloc hb.size (.cells Zay 120);have hB9:=hB3.alloc (.cells Zay 120);refine hK'.out _ _ hB9 fun _=>?_;clear hK' K' hK hb hB3 h4 h14;generalize u.heap.size=LC at*;change wpAnyH _ _ _ _ _ _ _ _ (u.alloc (.cells Zay 120));generalize u.alloc (.cells Zay 120)=U at*
    case' true=>
     change wpAnyH _ _ _ _ _ 2 _ (Zge key t w.heap.size (.slice p1 x.facts.length c1) (.slice p2 x.rules.length c2) (.slice p3 x.checks.length c3) (.pointer (some ⟨Lc,0,none⟩)) (.slice (some ⟨Lk,0,none⟩) 1 1) (.slice (some ⟨Lt,0,none⟩) 1 1) (Zlk (Za1 key [t])) undef) _;unfold Zge;refine wpAnyH_take (i:=8) (oi:={dst:=some 29,op:= .build 120 #[(1,.tmp 24),(2,.tmp 28)],type:=120,pos:= "warrant.go:188",after:=#[{on:=3,ground:=Ground.data},{on:=7,ground:=Ground.data}],guard:=none}) (v:= .agg (Zau false (.slice (some ⟨Lk,0,none⟩) 1 1) (Lib.byteCells (Za1 key [t])))) rfl (by kernel_rfl) (by kernel_rfl) (by kernel_rfl) (fun _ _ _ h=>h) (Zjl rfl 120 #[(1,.tmp 24),(2,.tmp 28)] rfl #[(1,.slice (some ⟨Lk,0,none⟩) 1 1),(2,Zlk (Za1 key [t]))] (by simp[Act.eval]) fun u hS=>Zoe hTl _ u) hB3 ?_;simp only[Act.put];have hC:=(h4 rfl).1;have hCw:=(h4 rfl).2;have hne:=h14 rfl rfl;have hK9:=hK;have hb9:=hb;have hB9:=hB3;clear hK hb hB3 h4 h14;generalize Lc=LC at*;generalize u=U at*
    all_goals
     refine wpAnyH_ready (rs:=[10]) (by kernel_rfl) (by simp) (Yc9 rfl (fun K' hK'=>?_) Ydc);have hlen:(Lib.byteCells (Za1 key [t])).length=32:=by rw[Lib.byteCells_length,hTl]
     refine Zjd rfl 120 (.tmp 8) (.tmp 29) rfl LC (Zau false (.slice (some ⟨Lk,0,none⟩) 1 1) (Lib.byteCells (Za1 key [t]))) rfl rfl 120 Zay hC (Zcn _ _ hlen) (by rw[Zcm _ _ hlen];rfl) (Zfj _ _ _ _ _) ?_;refine hK'.out _ _ (hB9.of (setRow_other _ _ _ _ (by omega))) fun _=>?_;clear hK' K';refine wpAnyH_done (by kernel_rfl) ?_ _;have hR:=setRow_heap U LC _ (Zau false (.slice (some ⟨Lk,0,none⟩) 1 1) (Lib.byteCells (Za1 key [t]))) _ _ hC;have hK10:=hK9.1.of (setRow_other U LC Lk (Zau false (.slice (some ⟨Lk,0,none⟩) 1 1) (Lib.byteCells (Za1 key [t]))) hne);have hb10:=hb9.setRowAt (g:=LC) (Zau false (.slice (some ⟨Lk,0,none⟩) 1 1) (Lib.byteCells (Za1 key [t]))) hCw;clear hC hK9 hb9 hB9;obtain⟨W,hW⟩: ∃ W,U.setRow LC (Zau false (.slice (some ⟨Lk,0,none⟩) 1 1) (Lib.byteCells (Za1 key [t])))=W:=⟨_,rfl⟩;rw[hW]at hR hK10 hb10⊢;have hrow:Zao 4 (Zg7 W.heap.size W) (some ⟨Lk,0,none⟩) [t]:=⟨by simp,fun i y hi=>by
      cases i with
      | succ i=>simp at hi
      | zero=>
       obtain rfl:t=y:=by simpa using hi
       exact⟨Lk,0,rfl,Blk.lt hK10,by omega,_,_,_,_,_,_,_,_,_,(Blk.four hK10).1,(Blk.four hK10).2.1,(Blk.four hK10).2.2.1,(Blk.four hK10).2.2.2.1⟩⟩
     have CW:=Zaa (Ztz (S:=false) (c:=1) lr hrow hTl (Zi0 false (by simp) (fun y hy=>by have e:y=t:=by{simpa using hy};rw[e];exact hts) hTl));have RW:=Zaa (Ycs hb10 (Ycs (HM.out.2.1 hn) HM.out.1));clear hW hrow hK10 hb10;go_wp2_with (refine wpList_load_row rfl 120 (.tmp 8) rfl LC rfl 120 (Zau false (.slice (some ⟨Lk,0,none⟩) 1 1) (Lib.byteCells (Za1 key [t]))) (0,0) _ hR Tryz.underlying120 rfl (Zcn _ _ hlen) ?_)
     refine CW.out.mono ?_;rintro e w9 ⟨rfl,hb11⟩;have R9:=Zaa (B2.out.trans ((RW.out.1.trans (hb11.mono RW.out.1.size)).mono B2.out.size));clear CW hb11;go_wp2_with fail
     go_ret2
     exact⟨by rw[RW.out.2.1,RW.out.2.2,hn,Zbb,ht.out];rfl,R9.out⟩
  ·have E1:Box (Zwt key x=Zh8 x/\Zrm key x=ByteArray.empty/\Zeh x=ByteArray.empty):=⟨HM.out.1,HM.out.2.2 hn,if_neg hn⟩;rw[Zah _ hn];clear CE CK hb2 z8;go_wp2_with fail
   go_ret2
   exact⟨by rw[E1.out.1,E1.out.2.1,Zah _ hn];rfl,B2.out⟩
 ·have hkey:Zrs key=false:=by simpa using hkey
  have HM:Box (Zwt key x=8/\Zrm key x=ByteArray.empty):=⟨by unfold Zwt;rw[hkey];rfl,by unfold Zrm;rw[hkey];rfl⟩;have z8':=fun o=>Zac z8 (B0 o);rw[hkey];clear CE CK z8;go_wp2_with fail
  go_quiet (fail)
  go_wp2_with fail
  go_ret2
  exact⟨by rw[HM.out.1,HM.out.2];rfl,(B0 _).drewK _⟩
end Go.P
namespace Go.W
variable {P:Program}{w:World}{e:TypeId}{ops:Array Oper}{o:Oper}{a:Act}{F:List Nat}{v:Value}
theorem Zdr {α:Type}{t:TypeId}{s bytes:Nat}(E:Zdp P t e s bytes){K:Act->World->Prop}{K2:Exit->Act->World->Prop}{K3:Prop}(hgd:o.guard=none)(sl x:Operand)
  (ho:o.op= .call {callee:= .builtin .append,args:=#[sl,x],argTypes:=#[t,t]}) {Q:Zgk α} (hQ:Zcx Q) (hone: ∀ w vs x F,Q w vs x F-> ∀ u,u∈vs->u.oneCell'=true) (B:Nat) (v:Value) (xs:List α) (F:List Nat) (hs:a.eval sl=v) (hrow:Zag e s Q w v xs F)
  (b:Nat) (cs:Array Value) (et:TypeId) (fr:Nat×Nat) (y:α) (G:List Nat) (hx:a.eval x= .slice (some ⟨b,0,none⟩) 1 1) (hblk:w.heap[b]?=some (.cells cs et fr)) (hcs:cs.size=s) (hq:Q w cs.toList y G)
  (hn:xs.length+1 < 1000000000) (hB:B<=w.heap.size) (nF:Za9 B w F) (nG:Za9 B w G) (hd: ∀ k,k∈F->k∉G)
  (h: ∀ g cap w1 F',Zsv e s Q B w w1 xs F G y g cap F'->K (a.put o.dst (.slice (some ⟨g,0,none⟩) (xs.length+1) cap)) w1):if Region.wanted o (yielded ops a.tmps)=true then Oper.wp P o a w K K2 else K3:=by
 obtain⟨zs,hown,hz,rfl,rfl,hl⟩:=hrow;refine Z34 E hgd sl x ho 0 v zs.length _ hs hown b cs et fr hx hblk hcs (hone w _ _ _ hq) (by simpa using hl) (Yd1 _) fun g cap w1 ha=>?_
 have:=Z21 (cs:=cs) (y:=y) (G:=G) hQ hz hcs hq (by simpa using hn) nF nG hd hB ha
 have h2:=h g cap w1 _ this;simpa using h2
theorem Zk9 {rest:List Oper}{Q:Exit->Act->World->Prop}(hgd:o.guard=none)(ty:TypeId)(x y:Operand)(ho:o.op= .store ty x y)(g off:Nat)(cells cur nv:Array Value)(hx:a.eval x= .pointer (some ⟨g,off,none⟩))(hy:a.eval y= .agg cells)(t:TypeId)(hg:w.heap[g]?=some (.cells cur t (0,0)))(hi:(P.info? ty).map (·.size)=some cells.size)(hfit:off+cells.size<=cur.size)(h1:cells.all (·.oneCell')=true)(hnv:(cur.toList.take off++cells.toList++cur.toList.drop (off+cells.size)).toArray=nv)(h:wpList P ops Q rest (a.put o.dst undef) (w.setRow g nv)):wpList P ops Q (o::rest) a w:=by
 refine wpList_plain hgd fun K hK=>?_;have hst:=run_storeCells_at P g off t cells.toList 0 cur w hg (by simpa using hfit) (fun v hv=>(Array.all_eq_true_iff_forall_mem.1 h1) v (by simpa using hv));simp only[Yeg,Yd7]at hst;rw[hnv]at hst;have hrun:(storeVar ty ⟨g,off,none⟩ (.agg cells)).run P w= .ok () (w.setRow g nv):=by
  cases hq:P.info? ty with
  | none=>simp[hq]at hi
  | some i=>
   have hs:cells.size=i.size:=by simp[hq]at hi;omega
   simp[storeVar,sizeOf,typeInfo,hq,Value.cells,hs,hst]
 unfold Oper.wp execOp;simp only[ho,hx,hy,Instr.storeAt,Instr.sureAddr,Yek,Sem.run_pure,Yd9,hrun];exact hK _ _ h
def Zhk:Zgk ByteArray:=fun _ vs x F=>F=[]/\Z9l vs x
theorem Zhk.stable:Zcx Zhk:=fun _ _ _ _ _ h _=>h
theorem Zhk.one {vs:List Value}{x:ByteArray}(h:Zhk w vs x F): ∀ u,u∈vs->u.oneCell'=true:=by
 obtain⟨_,p1,n1,c1,p2,n2,c2,p3,n3,c3,rfl,_⟩:=h;intro u hu;simp at hu;rcases hu with rfl | rfl | rfl | rfl <;> rfl
theorem Zag.texts {ty:Tys}{d:Nat}{xs:List (ByteArray×Bk)}(h:Zag e 4 (Zeo ty d) w v xs F):Zag e 4 Zhk w v (xs.map (·.1)) v.ownBlock.toList/\ ∀ k,k∈v.ownBlock.toList->k∈F:=by
 obtain⟨zs,ho,hz,rfl,rfl,hl⟩:=h;refine⟨⟨zs.map (fun z=>(z.1,z.2.1.1,[])),?_,?_,?_,?_,?_⟩,fun k hk=>Yd0 _ hk⟩
 ·rw[Yd6,List.map_map];exact ho
 ·intro z hzm;obtain⟨y,hy,rfl⟩:=List.mem_map.1 hzm;refine⟨(hz y hy).1,rfl,?_⟩;obtain⟨p,c,p',c',p2,c2,hv⟩:=Zeo.vals (hz y hy).2;obtain⟨vb,_,hs,_⟩:=(hz y hy).2;exact⟨p,_,c,p',_,c',p2,_,c2,hv,hs⟩
 ·rw[List.map_map,List.map_map];rfl
 ·have:(zs.map (fun z=>(z.1,z.2.1.1,([]:List Nat)))).map (·.2.2)=zs.map (fun _=>[]):=by rw[List.map_map];rfl
  rw[this];simp
 ·rw[Yd6];exact hl
theorem Zag.links {ts:List ByteArray}(h:Zag e 4 Zhk w v ts F)(hF: ∀ k,k∈F->k < w.heap.size): ∃ p c,v= .slice p ts.length c/\Zao 4 (Zg7 w.heap.size w) p ts:=by
 obtain⟨p,c,hv,_,hr⟩:Zlr 4 (Zg7 w.heap.size w) v ts:=h.rowOf hF fun b o vs x G hc hb hG hq=>by
  obtain⟨_,p1,n1,c1,p2,n2,c2,p3,n3,c3,rfl,hx⟩:=hq;exact⟨hb,hx,p1,n1,c1,p2,n2,c2,p3,n3,c3,hc 0 (by omega),hc 1 (by omega),hc 2 (by omega),hc 3 (by omega)⟩
 exact⟨p,c,hv,hr⟩
end Go.W
namespace Go.P
variable {a:Nat->Addr}{N:Nat}{w:World}
theorem Zap.belowN {u:World}(h:Zap a w)(hb:Below N w u)(hN:23<=N):Zap a u:=by
 obtain⟨w0,h0,h1⟩:=h;exact⟨w0,h0,fun g o hg=>⟨Ycz (h1 g o hg).1 hb.size,(hb.cell (p:=⟨g,o,none⟩) (Ycz hg hN)).trans (h1 g o hg).2⟩⟩
theorem Z0e (S:Bool)(v:Value){z l:List Value}(hz:z.length=32)(hl:l.length=32):((Zau S v z).toList.take 2++l.toArray.toList++(Zau S v z).toList.drop (2+l.toArray.size)).toArray=Zau S v l:=by
 simp[Zau,hz,hl]
def Z9w (n:Nat) (x:Bk):Int:=if n=8 then 4 else Zh8 x
theorem Z9a (V:Zbe){B D C:Nat}{S:Bool}{v:Value}{tag:List UInt8}{ts:List ByteArray}{F:List Nat}{vs:List Value}{x:Bk}(Z:Zap a w)(hB:B<=N)(hg:23<=N)(hNC:N<=C)(hC:Blk w C (Zau S v (Lib.byteCells tag)) 120)(ht:tag.length=32)(hR:Zag 114 4 Zhk w v ts F)(hN:Za9 N w F)(hCF:C∉F)(hS:Zbk B w D vs x)(h8:ts.length<=8):
  Calls Tryz.prog 43 #[.pointer (some ⟨C,0,none⟩),.agg vs.toArray] w fun e w'=>e= .returned (Zc3 a (Z9w ts.length x))/\Below N w w'/\(Z9w ts.length x=0-> ∃ v' F',Blk w' C (Zau S v' (Lib.byteCells (Za1 ⟨tag.toArray⟩ [Zeh x]))) 120/\Zag 114 4 Zhk w' v' (ts++[Zeh x]) F'/\Za9 N w' F'/\C∉F'):=by
 have hsz:N<=w.heap.size:=Ycu hNC (Nat.le_of_lt hC.lt);have hCl:=hC.lt;obtain⟨p,c,rfl⟩:=Zag.form hR;have c1:w.cell? ⟨C,1,none⟩=some (.slice p ts.length c):=hC.cell 1;have B0:=fun o=>(Yct w.heap.size w).alloc lr o;have CE:=Zaa (fun o=>Zlo V (Z.below (B0 o)) (by simp;omega) (Zbk.carry hS (Za6 (B0 o) (Ycu hB hsz))));have ZZ:=Zaa Z;have HC:=Zaa (Ycs hC (Ycs hR (Ycs hN hCF)));have z4:=fun o=>Zac Z.c4 (B0 o);obtain⟨q1,k1,q2,k2,q3,k3,rfl,_⟩:=hS;clear Z V hC hR hN hCF;obtain⟨n,hn⟩: ∃ n,Box (ts.length=n):=⟨_,⟨rfl⟩⟩;rw[hn.out]at c1 h8⊢;go_enter Tryz.func43,Tryz.ntmps43
 by_cases hn8:n=8
 ·have g:((n:Int)==8)=true:=by rw[beq_iff_eq];omega
  have E4:Box (Z9w n x=4):=⟨if_pos hn8⟩;clear hn8 CE;go_wp2_with fail
  go_ret
  exact⟨by rw[E4.out];rfl,(B0 _).mono hsz,fun h=>absurd (E4.out.symm.trans h) (by decide)⟩
 ·have g:((n:Int)==8)=false:=by rw[beq_eq_false_iff_ne];omega
  have E4:Box (Z9w n x=Zh8 x):=⟨if_neg hn8⟩;clear hn8 z4;go_wp2_with fail
  refine(CE.out _).mono ?_;rintro e w2 ⟨rfl,hb2⟩;have B2:=Zaa ((B0 _).trans (hb2.mono (by simp)));by_cases he:Zh8 x=0
  ·have LX:=Zaa ((Blk.new w #[.slice q1 x.facts.length k1,.slice q2 x.rules.length k2,.slice q3 x.checks.length k3] 38).of (hb2.block _ (by simp)));obtain⟨y0,y1,y2,sy⟩:=LX.out.three;have C2:=HC.out.1.of (B2.out.block _ hCl);rw[hn.out]at C2;have c2:w2.cell? ⟨C,1,none⟩=some (.slice p n c):=C2.cell 1;have s2:=C2.soft;have hC2:=C2.lt;have hX2:=LX.out.lt;have hts:=Zfn x;obtain⟨tx,htx⟩: ∃ tx,Box (Zeh x=tx):=⟨_,⟨rfl⟩⟩;rw[htx.out]at hts⊢;have R2:Box (Zag 114 4 Zhk w2 (.slice p n c) ts F):=⟨by
    have:=Zag.stable Zhk.stable _ w2 _ _ _ HC.out.2.1 (fun k hk=>B2.out.block k (HC.out.2.2.1.lt k hk))
    rw[hn.out]at this;exact this⟩
   have N2:Box (Za9 N w2 F):=⟨HC.out.2.2.1.later lr B2.out.size⟩;have HC2:=Zaa C2;rw[he,Zbb];clear CE hb2 c1 C2;go_wp2_with fail
   go_region_law (refine Zdr Zve rfl (.tmp 26) (.tmp 30) rfl Zhk.stable (fun _ _ _ _ h=>Zhk.one h) N (.slice p n c) ts F rfl (Zag.stable Zhk.stable _ _ _ _ _ R2.out fun j hj=>Ycx _ _ _ (N2.out.lt j hj)) w2.heap.size #[.string tx,.slice q1 x.facts.length k1,.slice q2 x.rules.length k2,.slice q3 x.checks.length k3] 114 (0,0) tx [] rfl (Zas _ _) rfl ⟨rfl,q1,_,k1,q2,_,k2,q3,_,k3,rfl,by omega⟩ (by rw[hn.out];omega) (by have:=B2.out.size;simp;omega) (N2.out.later lr (by simp)) (Za9.nil _ _) (fun _ _ h=>by cases h) ?_;intro g5 cap5 w5 F5 happ;have c5:w5.cell? ⟨C,1,none⟩=some (.slice p n c):=(Ycw (a:=⟨C,1,none⟩) ((happ.same C (by simp;omega) HC.out.2.2.2).trans (Ycx _ _ _ hC2))).trans c2;have s5: ∀ j,w5.frozen? ⟨C,j,none⟩=false:=fun j=>(Yeh (a:=⟨C,j,none⟩) ((happ.same C (by simp;omega) HC.out.2.2.2).trans (Ycx _ _ _ hC2))).trans (s2 j))
   all_goals
    have hl5:w2.heap.size+1<=w5.heap.size:=by have:=happ.size;simpa using this
    have C5:Blk w5 C (Zau S (.slice p n c) (Lib.byteCells tag)) 120:=HC2.out.of ((happ.same C (by simp;omega) HC.out.2.2.2).trans (Ycx _ _ _ hC2));have HNC:Box (C∉F5):=⟨fun h=>by
     rcases happ.sub C h with h | h | h
     ·exact HC.out.2.2.2 h
     ·cases h
     ·simp at h;omega⟩
    have C6:Box (Blk (w5.setCell ⟨C,1,none⟩ (.slice (some ⟨g5,0,none⟩) (ts.length+1) cap5)) C (Zau S (.slice (some ⟨g5,0,none⟩) (ts.length+1) cap5) (Lib.byteCells tag)) 120):=⟨C5.set 1 _⟩;have R6:Box (Zag 114 4 Zhk (w5.setCell ⟨C,1,none⟩ (.slice (some ⟨g5,0,none⟩) (ts.length+1) cap5)) (.slice (some ⟨g5,0,none⟩) (ts.length+1) cap5) (ts++[tx]) F5):=⟨Zag.stable Zhk.stable _ _ _ _ _ happ.row fun j hj=>Ycy _ _ _ _ (fun e=>HNC.out (by rw[show C=j from e.symm];exact hj))⟩;have N6:Box (Za9 N (w5.setCell ⟨C,1,none⟩ (.slice (some ⟨g5,0,none⟩) (ts.length+1) cap5)) F5):=⟨happ.new.later lr (by simp)⟩;have B6:Box (Below N w (w5.setCell ⟨C,1,none⟩ (.slice (some ⟨g5,0,none⟩) (ts.length+1) cap5))):=⟨Below.setCell ⟨happ.os.trans B2.out.os,happ.tape.trans B2.out.tape,happ.output.trans B2.out.output,by have:=B2.out.size;omega,fun j hj=>(happ.same j (by have:=B2.out.size;simp;omega) (fun h=>by have:=N2.out.ge j h;omega)).trans ((Ycx _ _ _ (by have:=B2.out.size;omega)).trans (B2.out.block j (by omega)))⟩ (p:=⟨C,1,none⟩) hNC _⟩;clear happ c5 s5 C5 hl5;generalize w5.setCell ⟨C,1,none⟩ (.slice (some ⟨g5,0,none⟩) (ts.length+1) cap5)=W6 at*;generalize (.slice (some ⟨g5,0,none⟩) (ts.length+1) cap5:Value)=v6 at*;have C6o:=C6.out;have hrg:W6.rangeAt C 2 (Lib.byteCells tag):=fun j u hj=>by
     rw[Blk.cell C6o,Zau,Ydq,Nat.add_comm 2 j];exact hj
    have hlt6:(Lib.byteCells tag).length=32:=by rw[Lib.byteCells_length,ht]
    have CBd:=Zaa (Zuk (t:=tx) (ZZ.out.belowN B6.out hg) ht (by omega));unfold Zlk at CBd;go_wp2_with (refine wpList_load_mid rfl 117 (.tmp 37) rfl C 2 rfl (Lib.byteCells tag) _ hrg Tryz.underlying117 rfl (by rw[hlt6];kernel_rfl) ?_)
    refine CBd.out.mono ?_;rintro e w7 ⟨rfl,hb7⟩;have C7:=C6.out.of (hb7.block _ (Blk.lt C6o));have hTl:(Za1 ⟨tag.toArray⟩ [tx]).length=32:=Zbs _;have hlT:(Lib.byteCells (Za1 ⟨tag.toArray⟩ [tx])).length=32:=by rw[Lib.byteCells_length,hTl]
    have hnv:=Z0e S v6 hlt6 hlT;have hinf:(Tryz.prog.info? 117).map (·.size)=some (Lib.byteCells (Za1 ⟨tag.toArray⟩ [tx])).toArray.size:=Zi4 hTl;have R7:=Zaa (Ycs (hb7.mono (Ycu hsz B6.out.size)) (fun j (hj:j∈F5)=>hb7.block j (N6.out.lt j hj)));have hs7:=Zaa hb7.size;clear C6o hrg hb7 CBd;go_wp2_with (refine Zk9 rfl 117 (.tmp 42) (.tmp 40) rfl C 2 (Lib.byteCells (Za1 ⟨tag.toArray⟩ [tx])).toArray (Zau S v6 (Lib.byteCells tag)) _ rfl rfl 120 C7 hinf (by rw[Zcm _ _ hlt6,Yc5,hlT];decide) (Zf3 _) hnv ?_)
    go_ret
    refine⟨by rw[E4.out,he];rfl,((B6.out.trans R7.out.1).setRowAt _ hNC),fun _=>⟨v6,F5,?_,?_,N6.out.later lr (by rw[setRow_size];exact hs7.out),HNC.out⟩⟩
    ·rw[htx.out];exact setRow_heap _ _ _ _ _ _ C7
    ·rw[htx.out];exact Zag.stable Zhk.stable _ _ _ _ _ R6.out fun j hj=>(setRow_other w7 C j _ (fun e=>HNC.out (by rw[<- e];exact hj))).trans (R7.out.2 j hj)
  ·rw[Zah _ he];clear CE hb2;go_wp2_with fail
   go_ret
   exact⟨by rw[E4.out,Zah _ he];rfl,B2.out.mono hsz,fun h=>absurd (E4.out.symm.trans h) he⟩
end Go.P
namespace Go.P
variable {w:World}{p:Nat}{fs:List (ByteArray×Nat)}{vs:List T}{F:List Nat}
theorem Z4y (h:Zdv w p fs vs F)(x:ByteArray×Nat)(hn:Zi8 x fs):
  Calls Tryz.prog 238 #[.pointer (some ⟨p,0,none⟩),.agg (Zem x).toArray] w fun e w'=>e= .returned (.bool false)/\Below w.heap.size w w':=by
 obtain⟨k,r,fv,vv,Ff,Fv,hw⟩:=h;have hk: ∀ o,Zep (w.alloc o).drew k fs:=fun o=>hw.know.of (Ycx _ _ _ hw.know.lt);have hk2: ∀ o o',Zep ((w.alloc o).alloc o').drew k fs:=fun o o'=>(hk o).of (Ycx _ _ _ (hk o).lt);have hlk:=fun o=>Zoh (hk o) hn;have hlk2:=fun o o'=>Zoh (hk2 o o') hn;have B0:=fun o=>(Yct w.heap.size w).alloc lr o;have B1:=fun o o'=>(B0 o).alloc (by simp) o';have p1:=fun o=>(hw.blk.alloc o).four.2.1;have p2:=fun o o'=>((hw.blk.alloc o).alloc o').four.2.1;unfold Zem at*;clear hk hk2 hw;go_enter Tryz.func238,Tryz.ntmps238
 go_wp2_with fail
 go_region
 all_goals
  go_wp2_with fail
  go_ret
  exact⟨rfl,(B1 _ _).drew⟩
theorem Z6h:Zdp Tryz.prog 312 318 8 72:=by
 obtain⟨i0,hi,hz0,hz1,hz2⟩:=info_parts (by kernel_rfl:(Tryz.prog.info? 318).map (fun i=>(i.zero,i.size,i.bytes))=some (some (.agg #[.string ⟨#[]⟩,.int .i64 0,.int .i64 0,.int .i64 0,.int .i64 0,.int .i64 0,.int .i64 0,.int .i64 0]),8,72));exact⟨i0,_,Tryz.underlying312,hi,hz0,hz1,hz2,rfl,by decide,by decide⟩
theorem Zy7 (h:Zdv w p fs vs F)(x:ByteArray×Nat)(hn:Zi8 x fs)(hl:fs.length < 60):
  Calls Tryz.prog 219 #[.pointer (some ⟨p,0,none⟩),.agg (Zem x).toArray] w fun e w'=>e= .returned (.bool true)/\ ∃ F',Zdv w' p (fs++[x]) vs F'/\Off F w w'/\ ∀ i,i∈F'->i∈F\/w.heap.size<=i:=by
 have CK:=Zaa (fun o=>Z4y (h.of (w':=w.alloc o) (by simp) fun j hj=>Ycx _ _ _ (h.lt j hj)) x hn);obtain⟨k,r,fv,vv,Ff,Fv,hw⟩:=h;obtain⟨pv,cv,rfl⟩:=hw.facts.form;have H:=Zaa hw;have UP:=Zaa (fun u (hu:Zep u k fs)=>Zwl hu hn);have hl60:((fs.length:Int)==60)=false:=by rw[beq_eq_false_iff_ne];omega
 unfold Zem at CK UP⊢;clear hw hn;go_enter Tryz.func219,Tryz.ntmps219
 go_wp2_with fail
 refine(CK.out _).mono ?_;rintro e w2 ⟨rfl,hb2⟩;have HB:=Zaa (((Yct w.heap.size w).alloc lr _).trans (hb2.mono (by simp)));have L2:=Zaa ((Blk.new w #[.string x.1,.int .i64 1,.int .i64 (x.2:Int),.int .i64 0,.int .i64 0,.int .i64 0,.int .i64 0,.int .i64 0] 318).of (hb2.block w.heap.size (by simp)));obtain⟨t0,t1,t2,t3,t4,t5,t6,t7,ts⟩:=L2.out.eight;have D2:=Zaa (H.out.below HB.out);obtain⟨p0,p1,p2,p3,ps⟩:=D2.out.blk.four;clear hb2 CK;obtain⟨ob,hmu,hnm⟩:=UP.out w2.drew D2.out.know;obtain⟨W5,hW5⟩: ∃ W5,Box ({w2.drew with heap:=w2.drew.heap.setIfInBounds k ob}=W5):=⟨_,⟨rfl⟩⟩;rw[hW5.out]at hmu hnm;go_wp2_with fail
 go_region
 have O5:Box (Off [k] w2.drew W5):=⟨hW5.out▸(Off.refl _ w2.drew).put k ob (by simp)⟩;have HNM:=Zaa hnm;obtain⟨⟨pk,pr,hpF,pvF⟩,⟨kr,kf,kv⟩,_,nf,_,_⟩:=D2.out.apart;have hwk:w.heap.size≠k:=fun e=>by have:=H.out.know.lt;omega
 have b5:W5.heap[p]?=w2.heap[p]?:=O5.out.block p D2.out.blk.lt (by simpa using pk);obtain⟨e0,e1,e2,e3,es⟩:=(D2.out.blk.of b5).four;have L5:=Zaa (L2.out.of (O5.out.block w.heap.size L2.out.lt (by simpa using hwk)));obtain⟨u0,u1,u2,u3,u4,u5,u6,u7,us⟩:=L5.out.eight;have hvl: ∀ j,j∈Ff->j < w2.heap.size:=fun j hj=>D2.out.new.lt j (by rw[D2.out.own];simp[hj]);have R5:=Zaa (Zag.stable Zka.stable _ W5 _ _ _ D2.out.facts fun j hj=>O5.out.block j (hvl j hj) (fun e=>kf (by rw[<- Ydt.1 e];exact hj)));have N5:Box (Za9 0 W5 Ff):=⟨nf,fun _ _=>Yd1 _,fun j hj=>Ycz (hvl j hj) O5.out.size⟩;have hql:p < W5.heap.size:=Ycz D2.out.blk.lt O5.out.size;have hwl:=L5.out.lt;clear hnm hvl b5 t0 t1 t2 t3 t4 t5 t6 t7 ts p0 p1 p2 p3 ps hmu UP pk pr pvF kr kf kv nf;go_wp2_with fail
 go_region_law (refine Zdr Z6h rfl (.tmp 26) (.tmp 28) rfl Zka.stable (fun _ _ _ _ h=>Zka.one h) 0 (.slice pv fs.length cv) fs Ff rfl (Zag.stable Zka.stable _ _ _ _ _ R5.out fun j hj=>Ycx _ _ _ (N5.out.lt j hj)) W5.heap.size #[.string x.1,.int .i64 1,.int .i64 (x.2:Int),.int .i64 0,.int .i64 0,.int .i64 0,.int .i64 0,.int .i64 0] 318 (0,0) x [] rfl (Zas _ _) rfl ⟨rfl,rfl⟩ (by omega) (Yd1 _) (N5.out.later lr (by simp)) (Za9.nil _ _) (fun _ _ h=>by cases h) ?_;intro g6 cap6 w6 F6 happ;have b6:=(happ.same p (by simp;omega) hpF).trans (Ycx _ _ _ hql);have c6:=(Ycw (a:=⟨p,0,none⟩) b6).trans e0;have s6:=fun j=>(Yeh (a:=⟨p,j,none⟩) b6).trans (es j))
 all_goals
  obtain⟨F',hF1,hF2,hF3⟩:=D2.out.appF ⟨O5.out.os,O5.out.tape,O5.out.output,O5.out.size,O5.out.block⟩ HNM.out (((Off.refl _ W5).alloc _).drew) happ rfl;have FIN:=Zaa (Ycs hF1 (Ycs hF2 hF3));clear hF1 hF2 hF3 happ b6 c6 s6;go_wp2_with fail
  go_ret
  exact⟨rfl,F',FIN.out.1,(Off.of HB.out).trans FIN.out.2.1 (fun _ h=> .inl h),fun i hi=>(FIN.out.2.2 i hi).imp id (fun h=>Ycu HB.out.size h)⟩
end Go.P
