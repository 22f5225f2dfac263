import Derived.Test.YtapdphcbhfkgkaaGreatDoorW47
import Derived.Test.YtapdphcbhfkgkaaGreatDoorRows
import Derived.Lib.LaidU8T
import Derived.ProofKit
import Derived.LaidMore
import Derived.OpenShut
import Derived.Stop.Joined
import Derived.Stop.LaidErr
import Derived.JoinedOf
set_option linter.defProp false
set_option maxRecDepth 100000
set_option maxHeartbeats 8000000
set_option linter.unusedSimpArgs false
open Go.Proofs Go.RowKit Go.W Tryz Go.Proofs.YtapdphcbhfkgkaaGreatDoor
namespace Go.P
open Go.ChangeShapes Go.WideShapes Go.ChangeAt Go.RowKit Go.W Go.Lib
variable {W:World}{k:IntKind}
def rt:(prog.cutTypes.find? (·.1== "internal/reflectlite.rtype")).map (·.2)=some 193:=zt
def Z9z:((List.range 433).filter fun t=>prog.rowNamed t [101,114,114,111,114])=[70]:=zt
def Zrz:prog.types.size=433:=zt
def Z0i:prog.globalNamed "errors.errorType" =some 10:=zt
def Z78:prog.cellsOf 394=1:=zt
def fV:prog.cellsOf 9=1:=zt
def Yj4 (u:TypeId)(hu:prog.typeName? 3 u=some "*errors.errorString"):u=392:=
 typeName_ptr_named (nm:= "errors.errorString") zt zt zu u hu
def laidMet.one {P:Program}{l:List (String×DataW Unit)}{x:String×DataW Unit}(h:laidMet P l W)(hx:x∈l):laidMet P [x] W:=by
 induction l with
 | nil=>cases hx
 | cons y r ih=>
  rcases Ak.1 hx with rfl | UH
  ·obtain⟨ps,hv,QW,IA⟩:=h;obtain⟨n,d⟩:=x;obtain⟨g,t,cs,fuel,p,q,h1,h2,h3,h4,_,rfl⟩:=hv;exact⟨MemPlace.row (zm g 0) cs.size++p++[],⟨g,t,cs,fuel,p,[],h1,h2,h3,h4,rfl,rfl⟩,by simpa using List.Nodup.sublist (List.sublist_append_left _ _) QW,fun b off hm=>IA b off (by rw[List.append_nil]at hm;exact Md _ hm)⟩
  ·exact ih h.tail UH
def Jk {n:String}{text:List UInt8}{g:Nat}(h:laidMet prog [(n,.iface "*errors.errorString" (.ptr<|.agg [.lit<|.string text]))] W)
  (hg:prog.globalNamed n=some g) (ht:(prog.globals[g]?).map (·.type)=some 70):
  ∃ (a:Addr) (s:ByteArray),W.cell? (zm g 0)=some (.iface 392<|.pointer<|some a)/\W.cell? a=some (.string s)/\s.data.toList=text/\ ∃ c t,W.heap[a.block]?=some (.cells c t (0,0)):=by
 obtain⟨ps,⟨g0,t0,cs0,f0,p0,q0,hg0,Ib,hv0,zZ,_,e0⟩,_,IA⟩:=h;obtain rfl:=Gw<|hg.symm.trans hg0;obtain rfl:=Gw<|ht.symm.trans Ib;subst e0;obtain⟨l0⟩:=cs0;have yD: ∀ u v,l0=[.iface u v]->Value.okWide prog W .any 0 u v:=fun u v e=>by
  subst e;exact(IA g 0 (by simp[MemPlace.row])).2 u v (by simpa using World.var?_cell hg0 hv0 0)
 obtain⟨a0,s0,rfl,hc0,hs0,_,rfl⟩:=errorString_of_trod underlying70 Yj4 underlying392 underlying394 rfl rfl underlying9 Z78 fV zZ yD;obtain⟨c0,t0,hb0⟩:=(IA a0.block a0.off (by simp[MemPlace.row])).1;exact⟨a0,s0,by simpa using World.var?_cell hg0 hv0 0,hc0,hs0,c0,t0,hb0⟩
section
variable {P:Program} {W:World} {nm:String} {g:Nat} {t e n:Nat}
def pu {l:List ByteArray}(h:VarReads P W nm (.agg (l.map fun s=> .lit (.string s.data.toList))))(hg:P.globalNamed nm=some g)(hy:(P.globals[g]?).map (·.type)=some t)(ht:P.underlying t=some (.array n e))(he:P.underlying e=some .string)(hc:P.cellsOf e=1)(hn:l.length=n): ∀ (i:Nat) (s:ByteArray),l[i]?=some s->W.cell? (zm g i)=some (.string s):=by
 intro i s hi;obtain⟨g',t',cs,fuel,p,h1,h2,h3,h4⟩:=h;obtain rfl:=Gw<|hg.symm.trans h1;obtain rfl:=Gw<|hy.symm.trans h2;obtain⟨WQ,d,q,hd,hr⟩:=array_elem ht h4 i (by rw[<- hn];exact(DW.1 hi).1);rw[hc]at hr;obtain⟨s',e1,e2,_⟩:=DataW.trod_string he hr;rw[FK,hi]at hd;have e3:s=s':=by
  have:=(Gw hd).trans (Prod.mk.inj e2).1
  injection this with this;injection this with this;cases s;cases s';simpa using this
 subst e3
 have:=World.var?_cell hg h3 i
 rw[this,<- Qq];have e4:=congrArg (·[0]?) e1;simpa[List.getElem?_take,List.getElem?_drop]using e4
def ZO {l:List Int}(h:VarReads P W nm (tabData k l))(hg:P.globalNamed nm=some g)(hy:(P.globals[g]?).map (·.type)=some t)(ht:P.underlying t=some (.array n e))(he:P.underlying e=some (.int k))(hc:P.cellsOf e=1)(ze:P.cellsOf t=n): ∀ (i:Nat) (z:Int),l[i]?=some z->W.cell? (zm g i)=some (.int k z):=by
 intro i z hi;obtain⟨g',t',cs,fuel,p,h1,h2,h3,h4⟩:=h;obtain rfl:=Gw<|hg.symm.trans h1;obtain rfl:=Gw<|hy.symm.trans h2;have hcs:=cells_of_tab ht he hc ze h4;rw[World.var?_cell hg h3 i,<- Qq,hcs,FK,hi];rfl
def Zvz {fs:Array Field}{l:List (Int×Int)}(h:VarReads P W nm (.agg (l.map fun p=> .agg ([p.1,p.2].map fun z=> .lit (.int k z)))))(hg:P.globalNamed nm=some g)(hy:(P.globals[g]?).map (·.type)=some t)(ht:P.underlying t=some (.array n e))(he:P.underlying e=some (.struct fs))(hf: ∀ (i:Nat) (f:Field),fs[i]?=some f->P.underlying f.type=some (.int k)/\f.offset=i/\P.cellsOf f.type=1)(h2:fs.size=2)(hc:P.cellsOf e=2)(hn:l.length=n): ∀ (i:Nat) (p:Int×Int),l[i]?=some p->W.cell? (zm g (2*i))=some (.int k p.1)/\W.cell? (zm g (2*i+1))=some (.int k p.2):=by
 intro i p hi;obtain⟨g',t',cs,fuel,q,h1,h2',h3,h4⟩:=h;obtain rfl:=Gw<|hg.symm.trans h1;obtain rfl:=Gw<|hy.symm.trans h2';obtain⟨WQ,d,q,hd,hr⟩:=array_elem ht h4 i (by rw[<- hn];exact(DW.1 hi).1);rw[FK,hi]at hd;obtain rfl:=Gw hd;rw[hc]at hr;have hcs:=ints_of_struct he hf (by rw[hc,h2]) hr;have e0:=congrArg (·[0]?) hcs;have e1:=congrArg (·[1]?) hcs;simp only[List.getElem?_take,List.getElem?_drop]at e0 e1;constructor
 ·rw[World.var?_cell hg h3<|2*i,<- Qq];simpa[Nat.mul_comm]using e0
 ·rw[World.var?_cell hg h3<|2*i+1,<- Qq];simpa[Nat.mul_comm]using e1
end
def gU:DataW Unit->List Int
 | .agg ds=>ds.map fun d=>match d with | .lit (.int _ z)=>z | _=>0
 | _=>[]
def xx:U8Extra prog Tryz.ES:=⟨zt,zt,zt,zt,zt,zt,zt⟩
def Z8h:Rows.laid_unicode_utf8_first=firstData:=zt
def Yjs:(Rows.laid_unicode_utf8_acceptRanges:DataW Unit)=acceptData:=zt
def Yju:(Rows.laid_warrant_warrant_guardMarks:DataW Unit)= .agg (MV.map fun s=> .lit (.string s.data.toList)):=zt
def Z8i:(Rows.laid_warrant_warrant_marks:DataW Unit)= .agg (Rx.map fun s=> .lit (.string s.data.toList)):=zt
def Yjw:List (Int×Int):=[(34,34),(92,92),(110,10),(116,9),(114,13)]
def Yjt:(Rows.laid_warrant_warrant_escapes:DataW Unit)= .agg (Yjw.map fun p=> .agg ([p.1,p.2].map fun z=> .lit (.int .u8 z))):=zt
def Z8j:(Rows.laid_warrant_sums_start:DataW Unit)=tabData .u32 (pU.map Int.ofNat):=zt
def Z8k:(Rows.laid_warrant_sums_steps:DataW Unit)=tabData .u32 (ZK.map Int.ofNat):=zt
def Zz7:(Rows.laid_math_bits_deBruijn32tab:DataW Unit)=tabData .u8 (gU Rows.laid_math_bits_deBruijn32tab):=zt
def Yfo:(Rows.laid_math_bits_deBruijn64tab:DataW Unit)=tabData .u8 (gU Rows.laid_math_bits_deBruijn64tab):=zt
def Yjv:gU Rows.laid_math_bits_deBruijn64tab=pZ.map Int.ofNat:=zt
def Zjh (h:laidMetH prog Rows.narrowsRow.laid W): ∃ a,Yjd a W/\IL a W/\ZN W/\23<=W.heap.size:=by
 have h':laidMet prog [("math/bits.deBruijn32tab",Rows.laid_math_bits_deBruijn32tab),("math/bits.deBruijn64tab",Rows.laid_math_bits_deBruijn64tab),("internal/strconv.uint64pow10",Rows.laid_internal_strconv_uint64pow10),("unicode/utf8.acceptRanges",Rows.laid_unicode_utf8_acceptRanges),("strconv.ErrRange",Rows.laid_strconv_ErrRange),("strconv.ErrSyntax",Rows.laid_strconv_ErrSyntax),("warrant/sums.start",Rows.laid_warrant_sums_start),("warrant/sums.steps",Rows.laid_warrant_sums_steps),("warrant/warrant.guardMarks",Rows.laid_warrant_warrant_guardMarks),("warrant/warrant.marks",Rows.laid_warrant_warrant_marks),("warrant/warrant.escapes",Rows.laid_warrant_warrant_escapes),("warrant/warrant.ErrWord",Rows.laid_warrant_warrant_ErrWord),("warrant/warrant.ErrForm",Rows.laid_warrant_warrant_ErrForm),("warrant/warrant.ErrDeep",Rows.laid_warrant_warrant_ErrDeep),("warrant/warrant.ErrLimit",Rows.laid_warrant_warrant_ErrLimit),("warrant/warrant.ErrFree",Rows.laid_warrant_warrant_ErrFree),("warrant/warrant.ErrShort",Rows.laid_warrant_warrant_ErrShort),("warrant/warrant.ErrBytes",Rows.laid_warrant_warrant_ErrBytes),("warrant/warrant.ErrKey",Rows.laid_warrant_warrant_ErrKey),("warrant/warrant.ErrSealed",Rows.laid_warrant_warrant_ErrSealed),("warrant/warrant.ErrTag",Rows.laid_warrant_warrant_ErrTag),("unicode/utf8.first",Rows.laid_unicode_utf8_first)] W/\handlesMet prog [("errors.errorType",Rows.laid_errors_errorType)] W:=h;obtain⟨hl,hh⟩:=h';obtain⟨name,u,ty,e1,e2,e3,e4,e5⟩:=hh _<|Bh.2 rfl;have en:name=[101,114,114,111,114]:=(Gw e1).symm;subst en;obtain rfl:=Gw<|rt.symm.trans e2;have hm:ty∈(List.range 433).filter fun t=>prog.rowNamed t [101,114,114,111,114]:=List.mem_filter.2 ⟨List.mem_range.2 (by rw[<- Zrz];exact e3),e4⟩;rw[Z9z]at hm;obtain rfl:=Bh.1 hm;have mW:typeHandle prog 70= zq 23 70:=zt
 rw[mW]at e5;have zW:W.cell? (zm 10 0)=some (.iface 193<|.agg #[zq 23 70]):=by simpa using World.var?_cell Z0i e5 0
 obtain⟨a0,s0,e0,u0,x0,r0⟩:=Jk (laidMet.one hl (x:=("warrant/warrant.ErrWord",Rows.laid_warrant_warrant_ErrWord)) (by repeat (first | exact List.Mem.head _ | apply List.Mem.tail))) zt zt;obtain⟨a1,s1,e1,u1,x1,r1⟩:=Jk (laidMet.one hl (x:=("warrant/warrant.ErrForm",Rows.laid_warrant_warrant_ErrForm)) (by repeat (first | exact List.Mem.head _ | apply List.Mem.tail))) zt zt;obtain⟨a2,s2,e2,u2,x2,r2⟩:=Jk (laidMet.one hl (x:=("warrant/warrant.ErrDeep",Rows.laid_warrant_warrant_ErrDeep)) (by repeat (first | exact List.Mem.head _ | apply List.Mem.tail))) zt zt;obtain⟨a3,s3,e3,u3,x3,r3⟩:=Jk (laidMet.one hl (x:=("warrant/warrant.ErrLimit",Rows.laid_warrant_warrant_ErrLimit)) (by repeat (first | exact List.Mem.head _ | apply List.Mem.tail))) zt zt;obtain⟨a4,s4,e4,u4,x4,r4⟩:=Jk (laidMet.one hl (x:=("warrant/warrant.ErrFree",Rows.laid_warrant_warrant_ErrFree)) (by repeat (first | exact List.Mem.head _ | apply List.Mem.tail))) zt zt;obtain⟨a5,s5,e5,u5,x5,r5⟩:=Jk (laidMet.one hl (x:=("warrant/warrant.ErrShort",Rows.laid_warrant_warrant_ErrShort)) (by repeat (first | exact List.Mem.head _ | apply List.Mem.tail))) zt zt;obtain⟨a6,s6,e6,u6,x6,r6⟩:=Jk (laidMet.one hl (x:=("warrant/warrant.ErrBytes",Rows.laid_warrant_warrant_ErrBytes)) (by repeat (first | exact List.Mem.head _ | apply List.Mem.tail))) zt zt;obtain⟨a7,s7,e7,u7,x7,r7⟩:=Jk (laidMet.one hl (x:=("warrant/warrant.ErrKey",Rows.laid_warrant_warrant_ErrKey)) (by repeat (first | exact List.Mem.head _ | apply List.Mem.tail))) zt zt;obtain⟨a8,s8,e8,u8,x8,r8⟩:=Jk (laidMet.one hl (x:=("warrant/warrant.ErrSealed",Rows.laid_warrant_warrant_ErrSealed)) (by repeat (first | exact List.Mem.head _ | apply List.Mem.tail))) zt zt;obtain⟨a9,s9,e9,u9,x9,r9⟩:=Jk (laidMet.one hl (x:=("warrant/warrant.ErrTag",Rows.laid_warrant_warrant_ErrTag)) (by repeat (first | exact List.Mem.head _ | apply List.Mem.tail))) zt zt;obtain⟨_,_,yn,_⟩:=Jk (laidMet.one hl (x:=("strconv.ErrSyntax",Rows.laid_strconv_ErrSyntax)) (by repeat (first | exact List.Mem.head _ | apply List.Mem.tail))) zt zt;obtain⟨_,_,rg,_⟩:=Jk (laidMet.one hl (x:=("strconv.ErrRange",Rows.laid_strconv_ErrRange)) (by repeat (first | exact List.Mem.head _ | apply List.Mem.tail))) zt zt;have hu:=utf8Tabs_of_readsT (U8Types.of196 Tryz.Ik) xx (Z8h▸(Go.Lib.laidMet.reads hl (n:= "unicode/utf8.first") (d:=Rows.laid_unicode_utf8_first) (by repeat (first | exact List.Mem.head _ | apply List.Mem.tail))))<|Yjs▸(Go.Lib.laidMet.reads hl (n:= "unicode/utf8.acceptRanges") (d:=Rows.laid_unicode_utf8_acceptRanges) (by repeat (first | exact List.Mem.head _ | apply List.Mem.tail)));have ho:=pu (t:=367) (Yju▸(Go.Lib.laidMet.reads hl (n:= "warrant/warrant.guardMarks") (d:=Rows.laid_warrant_warrant_guardMarks) (by repeat (first | exact List.Mem.head _ | apply List.Mem.tail)))) (g:=17) zt zt underlying367 underlying9 fV rfl;have hk:=pu (t:=270) (Z8i▸(Go.Lib.laidMet.reads hl (n:= "warrant/warrant.marks") (d:=Rows.laid_warrant_warrant_marks) (by repeat (first | exact List.Mem.head _ | apply List.Mem.tail)))) (g:=12) zt zt underlying270 underlying9 fV rfl;have hs:=ZO (t:=224) (Z8j▸(Go.Lib.laidMet.reads hl (n:= "warrant/sums.start") (d:=Rows.laid_warrant_sums_start) (by repeat (first | exact List.Mem.head _ | apply List.Mem.tail)))) (g:=11) zt zt underlying224 underlying223 zt zt;have ht:=ZO (t:=318) (Z8k▸(Go.Lib.laidMet.reads hl (n:= "warrant/sums.steps") (d:=Rows.laid_warrant_sums_steps) (by repeat (first | exact List.Mem.head _ | apply List.Mem.tail)))) (g:=13) zt zt underlying318 underlying223 zt zt;have hb:=ZO (t:=183) (Yfo▸(Go.Lib.laidMet.reads hl (n:= "math/bits.deBruijn64tab") (d:=Rows.laid_math_bits_deBruijn64tab) (by repeat (first | exact List.Mem.head _ | apply List.Mem.tail)))) (g:=20) zt zt underlying183 underlying5 zt zt;have hw:=Wx<|ZO (t:=95) (Zz7▸(Go.Lib.laidMet.reads hl (n:= "math/bits.deBruijn32tab") (d:=Rows.laid_math_bits_deBruijn32tab) (by repeat (first | exact List.Mem.head _ | apply List.Mem.tail)))) (g:=22) zt zt underlying95 underlying5 zt zt 0 0 rfl;have hx:=Zvz (t:=323) (Yjt▸(Go.Lib.laidMet.reads hl (n:= "warrant/warrant.escapes") (d:=Rows.laid_warrant_warrant_escapes) (by repeat (first | exact List.Mem.head _ | apply List.Mem.tail)))) (g:=14) zt zt underlying323 underlying322 (fun j f hj=>by
  match j,hj with
  | 0,hj=>cases hj;exact⟨underlying5,rfl,zt⟩
  | 1,hj=>cases hj;exact⟨underlying5,rfl,zt⟩
  | j+2,hj=>simp at hj) rfl zt rfl
 have ne: ∀ (x y:Addr) (s s':ByteArray) (l l':List UInt8),W.cell? x=some (.string s)->s.data.toList=l->W.cell? y=some (.string s')->s'.data.toList=l'->decide (l=l')=false->x≠y:=fun x y s s' l l' h1 h2 h3 h4 h5 dD=>by
  subst dD;rw[h1]at h3;cases h3;exact absurd (h2.symm.trans h4)<|of_decide_eq_false h5
 refine⟨fun k=>match k with | 0=>a0 | 1=>a1 | 2=>a2 | 3=>a3 | 4=>a4 | 5=>a5 | 6=>a6 | 7=>a7 | 8=>a8 | _=>a9,⟨?_,?_,?_,?_,?_,?_,?_,?_,?_,?_,hu,⟨_,_,yn⟩,⟨_,_,rg⟩,ho,hk,?_,fun i c hc=>hs i c (by rw[FK,hc];rfl),fun i c hc=>ht i c (by rw[FK,hc];rfl),hb 0 0 rfl,hb 1 1 rfl,hb 3 2 rfl⟩,⟨?_,?_,zW⟩,fun i z h=>hb i z (by rw[Yjv,FK,h];rfl),hw⟩
 ·rw[BU _ zu];exact e0
 ·rw[BU _ zu];exact e1
 ·rw[BU _ zu];exact e2
 ·rw[BU _ zu];exact e3
 ·rw[BU _ zu];exact e4
 ·rw[BU _ zu];exact e5
 ·rw[BU _ zu];exact e6
 ·rw[BU _ zu];exact e7
 ·rw[BU _ zu];exact e8
 ·rw[BU _ zu];exact e9
 ·intro i c hc;match i,hc with
  | 0,hc=>cases hc;exact(hx 0 _ rfl).1
  | 1,hc=>cases hc;exact(hx 0 _ rfl).2
  | 2,hc=>cases hc;exact(hx 1 _ rfl).1
  | 3,hc=>cases hc;exact(hx 1 _ rfl).2
  | 4,hc=>cases hc;exact(hx 2 _ rfl).1
  | 5,hc=>cases hc;exact(hx 2 _ rfl).2
  | 6,hc=>cases hc;exact(hx 3 _ rfl).1
  | 7,hc=>cases hc;exact(hx 3 _ rfl).2
  | 8,hc=>cases hc;exact(hx 4 _ rfl).1
  | 9,hc=>cases hc;exact(hx 4 _ rfl).2
  | i+10,hc=>simp[xE]at hc
 ·intro k hk;have h:k=0\/k=1\/k=2\/k=3\/k=4\/k=5\/k=6\/k=7\/k=8\/k=9:=zx
  rcases h with rfl | rfl | rfl | rfl | rfl | rfl | rfl | rfl | rfl | rfl
  ·exact r0
  ·exact r1
  ·exact r2
  ·exact r3
  ·exact r4
  ·exact r5
  ·exact r6
  ·exact r7
  ·exact r8
  ·exact r9
 ·intro i j hi hj zP;have h:i=0\/i=1\/i=2\/i=3\/i=4\/i=5\/i=6\/i=7\/i=8\/i=9:=zx
  have h2:j=0\/j=1\/j=2\/j=3\/j=4\/j=5\/j=6\/j=7\/j=8\/j=9:=zx
  rcases h with rfl | rfl | rfl | rfl | rfl | rfl | rfl | rfl | rfl | rfl <;> rcases h2 with rfl | rfl | rfl | rfl | rfl | rfl | rfl | rfl | rfl | rfl;all_goals first
   | exact absurd rfl zP
   | exact ne _ _ _ _ _ _ ‹_› ‹_› ‹_› ‹_› rfl
end Go.P
namespace Go.P
set_option maxRecDepth 100000
set_option maxHeartbeats 8000000
def k10:(Rows.narrowsRow.inPlace==prog.inPlace 3)=true:=zt
def k11:(Rows.narrowsRow.unfollowed==prog.unfollowed 3)=true:=zt
def k12:(Rows.narrowsRow.recurses==prog.recurses 3)=true:=zt
def k13:(Rows.narrowsRow.named==prog.varsNamed 3)=true:=zt
def Zss:joinedFacts prog 3 Tryz.f3 Rows.narrowsSpec Rows.narrowsRow=true:=by
 simp only[joinedFacts,Bool.and_eq_true];and_intros
 ·as_aux_lemma=>kernel_rfl
 ·as_aux_lemma=>kernel_rfl
 ·as_aux_lemma=>kernel_rfl
 ·as_aux_lemma=>kernel_rfl
 ·as_aux_lemma=>kernel_rfl
 ·as_aux_lemma=>kernel_rfl
 ·as_aux_lemma=>kernel_rfl
 ·as_aux_lemma=>kernel_rfl
 ·as_aux_lemma=>kernel_rfl
 ·exact k10
 ·exact k11
 ·exact k12
 ·exact k13
 ·as_aux_lemma=>kernel_rfl
 ·as_aux_lemma=>kernel_rfl
 ·as_aux_lemma=>kernel_rfl
 ·as_aux_lemma=>kernel_rfl
 ·as_aux_lemma=>kernel_rfl
 ·as_aux_lemma=>kernel_rfl
 ·as_aux_lemma=>kernel_rfl
 ·as_aux_lemma=>kernel_rfl
 ·as_aux_lemma=>kernel_rfl
 ·as_aux_lemma=>kernel_rfl
 ·as_aux_lemma=>kernel_rfl
 ·as_aux_lemma=>kernel_rfl
 ·as_aux_lemma=>kernel_rfl
 ·as_aux_lemma=>kernel_rfl
 ·as_aux_lemma=>kernel_rfl
 ·as_aux_lemma=>kernel_rfl
 ·as_aux_lemma=>kernel_rfl
 ·as_aux_lemma=>kernel_rfl
 ·as_aux_lemma=>kernel_rfl
end Go.P
namespace Go.P
variable {key:ByteArray}{x:Bk}{xs:List Bk}{rv:List ByteArray}{Aa:Int}{ps:List Dk}
def emp:Bk:=⟨[],[],[]⟩
def Z2i:Ic emp=0:=zt
def Js.more (h:Js key x xs):(xs.length+1=8/\Iq (bl<|Ig<|Gs key x xs) [emp]= .error 4)\/(Js key x (xs++[emp])/\Iq (bl<|Ig<|Gs key x xs) [emp]=Gs key x (xs++[emp])):=by
 have hn:=h.n;have e:Iq (bl<|Ig<|Gs key x xs) [emp]=if Jw (xs.length+1) [emp]=0 then .ok (KT false ((x::xs).map A7++[A7 emp])<|O8 (Zn key x xs) [emp])else .error (Jw (xs.length+1) [emp]):=by
  rw[h.out,show ∀ t,Ig (.ok t)=t from fun _=>rfl];unfold Iq;rw[h.xw];simp only[Dj,DU,List.map_map];rfl
 by_cases h8:xs.length+1=8
 ·refine .inl ⟨h8,?_⟩;rw[e,h8,show Jw 8 [emp]=4 from rfl];rfl
 ·have m:Js key x (xs++[emp]):=⟨h.k,by simp;omega,fun y hy=>by
   rw[<- EC]at hy;rcases Aj.1 hy with hy | hy
   ·exact h.all y hy
   ·rw[Bh.1 hy];exact⟨Z2i,by constructor <;> simp[emp]⟩⟩
  refine .inr ⟨m,?_⟩;rw[e,m.out,if_pos (Zut [emp] _ (by simp;omega) fun y hy=>by rw[Bh.1 hy];exact Z2i)];simp only[Zn,O8,List.foldl_append,List.map_append,List.map_cons,List.map_nil,EC]
def Zuh (t:ByteArray): ∀ (ts:List ByteArray) (tag:List UInt8),∃ z,Ju tag (ts++[t])=Ju tag ts++[z]
 | [],tag=>⟨_,rfl⟩
 | s::ts,tag=>by
  obtain⟨z,h⟩:=Zuh t ts<|Bt ⟨tag.toArray⟩ [s];exact⟨z,by rw[EC,Ju,h];rfl⟩
def Z87 (key t s:ByteArray)(ts:List ByteArray): ∃ z,Eu key (s::ts++[t])=Eu key (s::ts)++[z]:=by
 obtain⟨z,h⟩:=Zuh t ts<|Bt key [s];rw[EC,gG,gG,h];exact⟨_,by rw[<- EC,List.map_append];rfl⟩
def Zwx (rv:List ByteArray)(z:ByteArray): ∀ ids:List ByteArray,Kz rv (ids++[z])=(Kz rv ids || IM z rv)
 | []=>by simp[Kz]
 | t::ids=>by rw[EC,Kz,Kz,Zwx rv z ids,Bool.or_assoc]
def Z7s {ids:List ByteArray}{z:ByteArray}(h:IM z rv=false):IQ rv (ids++[z]) Aa (x::(xs++[emp])) ps=IQ rv ids Aa (x::xs) ps:=by
 unfold IQ;rw[Zwx,h,Bool.or_false,<- EC,show emp=⟨[],[],[]⟩from rfl,Z41]
def Z4h (h:IQ rv (Eu key<|(x::xs).map A7) Aa (x::xs) ps=6):IQ rv (Eu key<|[x].map A7) Aa [x] ps=6:=by
 unfold IQ at*;split at h
 ·cases h
 ·rename_i hn;rw[if_neg fun h'=>hn ?_,Zz8 h];obtain⟨t,h1,h2⟩:=jf.1 h';refine jf.2 ⟨t,?_,h2⟩;rw[List.map_cons,gG,List.map_cons]at h1⊢;rcases Ak.1 h1 with rfl | h1
  ·exact List.mem_cons_self ..
  ·cases h1
section
variable {w:World} {p:Option Addr} {c:Nat} {rv:List ByteArray}
def Yf3 (h:IV w p rv)(hl:rv.length<1000000000)(s:ByteArray):Calls prog 12 #[.slice p rv.length c,.string s] w fun e w'=>e= .returned (.bool<|IM s rv)/\w'=w:=by
 obtain⟨n,hn⟩: ∃ n,AF (rv.length=n):=⟨_,⟨rfl⟩⟩;rw[hn.out]at hl⊢;have HR:=AC h;clear h;go_in
 go_wp2
 go_loopw [5] (fun iv wr=> ∃ k:Nat,k<=n/\iv= zo (k:Int)/\wr=w/\IM s rv=IM s (rv.drop k)) (fun iv _=>n-(intOf iv).toNat)
 case atStart=>exact⟨0,Eg _,rfl,rfl,rfl⟩
 case round=>
  obtain⟨k,hk,rfl,hw,Ce⟩:=hrel;obtain rfl:=hw.symm;by_cases hlt:k<n
  ·have g:(k:Int)<(n:Int):=zx
   obtain⟨t,ht⟩: ∃ t,rv[k]?=some t:=⟨_,A8 (by have:=hn.out;omega)⟩;obtain⟨_,b,o,rfl,_,z0⟩:=HR.out k t ht;have hdr:rv.drop k=t::rv.drop (k+1):=by rw[<- (DW.1 ht).2,List.drop_eq_getElem_cons (by have:=hn.out;omega)]
   rw[hdr,IM]at Ce;have HE:=AC Ce;clear Ce hdr ht;by_cases H7:t=s
   ·have E:AF (IM s rv=true):=⟨by rw[HE.out];simp[H7]⟩;have g2:(s.toList==t.toList)=true:=by rw[H7];simp
    have g3:(t.toList==s.toList)=true:=by rw[H7];simp
    clear H7;go_wp2
    go_ret
    rw[E.out];exact⟨rfl,rfl⟩
   ·have E:AF (IM s rv=IM s (rv.drop<|k+1)):=⟨by rw[HE.out];simp[H7]⟩;have hne:t.toList≠s.toList:=fun e=>H7 (by
     rw[Nw,Nw]at e;exact ByteArray.ext<|Array.toList_inj.1 e)
    have g2:(s.toList==t.toList)=false:=by rw[BJ];exact fun e=>hne e.symm
    have g3:(t.toList==s.toList)=false:=by rw[BJ];exact hne
    clear H7 hne;go_wp2
    exact⟨⟨k+1,zx,by go_num,by trivial,E.out⟩,by simp[intOf];omega⟩
  ·obtain rfl:k=n:=zx
   have E:AF (IM s rv=false):=⟨by rw[Ce,List.drop_eq_nil_of_le (by have:=hn.out;omega)];rfl⟩;clear Ce;go_wp2
   go_ret
   rw[E.out];exact⟨rfl,rfl⟩
end
end Go.P
namespace Go.P
def Z00 {a:Nat->Addr}{w:World}{p:Option Addr}{c:Nat}{zs:List (Int×Int×ByteArray)}(V:D9)(CL:Gg)(h:rJ w p zs)(hl:zs.length<140737488355328)(G:Oq a w)(E:IL a w):Calls prog 3 #[.slice p zs.length c] w fun e w'=>e= .returned (.bool true)/\Bl w w':=by
 have CT:=AC<|Z35 (c:=c) h hl G.sent E;have CA:=AC fun u (hu:Bl w u)=>Zww V CL (G.below hu) (E.below hu);have CN:=AC fun u (hu:Bl w u) {L pb nb cb key bs}=>Zt1 (L:=L) (pb:=pb) (nb:=nb) (cb:=cb) (key:=key) (bs:=bs) V CL (G.sent.below hu) (E.below hu);have CP:=AC fun u (hu:Bl w u) {l:By} (hl:l.length<1000000000) {p c} (hr:Ap 3 (Iz u.heap.size u 4) p [emp])=>Zv1 (c:=c) V CL (G.sent.below hu) (E.below hu) hl lr hr;have CV:=AC fun u (hu:Bl w u) (key:ByteArray) (hk:key.size<1000000000) (l:By) (hl:l.length<1000000000)=>Zri V CL (G.sent.below hu) (E.below hu) hk hl;have CG:=AC<|AJ V<|AJ CL fun u (hu:Bl w u)=>G.below hu;clear h G E V CL;go_in
 go_wp2_with fail
 refine CT.out.mono ?_;rintro e w1 (⟨rfl,rfl⟩ | ⟨rfl,hk,hn,hb1⟩)
 ·clear CT CA CN CV CG CP;go_wp2
  go_ret
  exact⟨rfl,AR _ _⟩
 have B1:=AC hb1;have HK:=AC<|AJ hk hn;clear hk hn hb1 CT;go_wp2_with fail
 refine(CA.out _ B1.out).mono ?_;rintro e w2 ⟨rfl,hb2⟩;obtain⟨pb,nb,cb,pp,np,cp,key,Aa,pr,nr,cr,bs,ps,rs,hw⟩:=HK.out.1.chs HK.out.2 hb2;have B2:=AC<|B1.out.trans<|hb2.mono B1.out.size;have HW:=AC hw;have CX:=AC<|CN.out w2 B2.out hw.b0 hw.k0 hw.eb hw.lb hw.hb hw.rb hw.gk;clear hw hb2 HK CA CN B1;go_wp2_with fail
 refine CX.out.mono ?_;rintro e w3 ⟨⟨_,rfl⟩ | ⟨x,xs,rfl,rfl⟩,hb3⟩
 ·have B3:=AC<|B2.out.trans<|hb3.mono B2.out.size;clear CX CV CG CP HW hb3;go_wp2
  go_ret
  exact⟨rfl,B3.out⟩
 have B3:=AC hb3;clear hb3 CX;by_cases hT:LQ key x=0/\Up (Gs key x xs)=0
 rotate_left
 ·rw[I8 hT];generalize Ji key x=t1 at*;generalize Ig (Gs key x xs)=t2 at*;clear CV CG CP HW;go_wp2
  go_ret
  exact⟨rfl,B2.out.trans<|B3.out.mono B2.out.size⟩
 rw[Nv hT];have M:=Js.of hT.1 hT.2 HW.out.ins;have Yg:key.size<1000000000:=by have:=HW.out.gk;omega
 have CX:AF (∀ ys,Js key x ys-> ∀ v,Bl w2 v->Calls prog 9 #[.string key,.string<|Ig<|Gs key x ys,.agg #[zo Aa,zn,.slice pr nr cr],.slice pp np cp] v fun e w'=>e= .returned (.tuple #[.int .i64<|IQ rs (Eu key<|(x::ys).map A7) Aa (x::ys) ps,zo 0])/\Bl v w'):=⟨fun ys m v hv=>by
  obtain⟨g,NU,Aq⟩:=m.sP
  have:=Zyh CG.out.1 CG.out.2.1 (CG.out.2.2 v<|B2.out.trans<|hv.mono B2.out.size) hv.size g NU Aq (Aa:=Aa) (by have:=HW.out.gc;exact⟨by have:=this.1;omega,by have:=this.2;omega⟩) (cq:=cr) (cp:=cp) (HW.out.rr.below hv) (by have:=HW.out.lr;have:=HW.out.er;omega) (HW.out.rp.carry fun _ _ _ q=>q.carry (Bq hv lr) lr) HW.out.gp
  rw[WY,HW.out.ep,HW.out.er]at this;exact this⟩
 have CY:AF (∀ ys,Js key x ys-> ∀ v,Bl w2 v->Calls prog 11 #[.string key,.string<|Ig<|Gs key x ys] v fun e w'=> ∃ p1 n1 c1 p2 c2,e= .returned (.tuple #[.slice p1 n1 c1,.slice p2 (ys.length+1) c2,zo 0])/\IV w' p2 (Eu key<|(x::ys).map A7)/\Bl v w'):=⟨fun ys m v hv=>by
  obtain⟨g,NU,_⟩:=m.sP
  have:=CV.out v (B2.out.trans<|hv.mono B2.out.size) key Yg _ NU
  rw[WY]at this;refine this.mono ?_;rintro e w' ⟨v1,v2,n,rfl,hV,hb⟩;obtain⟨rfl,⟨p1,n1,c1,rfl⟩,p2,c2,rfl,ht⟩:=hV.sums g;exact⟨p1,n1,c1,p2,c2,rfl,ht,hb⟩⟩
 have CH:AF (∀ s v,Bl w2 v->Calls prog 12 #[.slice pr nr cr,.string s] v fun e w'=>e= .returned (.bool<|IM s rs)/\w'=v):=⟨fun s v hv=>by
  have:=Yf3 (c:=cr) (HW.out.rr.below hv) (by have:=HW.out.lr;have:=HW.out.er;omega) s
  rw[HW.out.er]at this;exact this⟩
 have CA:=AC<|CX.out [] M.one;have CB:=AC<|CX.out xs M;rw[M.one.out,<- M.cK,show ∀ t,Ig (.ok t)=t from fun _=>rfl]at CA;have HV:AF (IQ rs (Eu key<|(x::xs).map A7) Aa (x::xs) ps=6->IQ rs (Eu key<|(x::[]).map A7) Aa (x::[]) ps=6):=⟨Z4h⟩;obtain⟨z,hz⟩: ∃ z,Eu key ((x::(xs++[emp])).map A7)=Eu key ((x::xs).map A7)++[z]:=by
  obtain⟨z,hz⟩:=Z87 key (A7 emp) (A7 x)<|xs.map A7;exact⟨z,by rw[List.map_cons,List.map_append,List.map_cons,List.map_nil];exact hz⟩
 have HE:AF (IM z rs=false->IQ rs (Eu key<|(x::(xs++[emp])).map A7) Aa (x::(xs++[emp])) ps=IQ rs (Eu key<|(x::xs).map A7) Aa (x::xs) ps):=⟨fun h=>by rw[hz];exact Z7s h⟩;have HI:AF ((Eu key<|(x::xs).map A7).length=nb):=⟨by rw[Zk3,Dj];exact HW.out.eb⟩;have HZ:AF (Eu key ((x::(xs++[emp])).map A7)=Eu key ((x::xs).map A7)++[z]):=⟨hz⟩;have FY:xs.length+1=nb:=HW.out.eb;have hlb:=HW.out.lb;have zH:=HW.out.lr;have CQ:AF (∀ v,Bl w2 v-> ∀ p c,Ap 3 (Iz v.heap.size v 4) p [emp]->Calls prog 10 #[.string<|Ig<|Gs key x xs,.slice p 1 c] v fun e w'=>((nb=8/\e= .returned (.tuple #[.string ⟨#[]⟩,zo 4]))\/(Js key x (xs++[emp])/\e= .returned (.tuple #[.string<|Ig<|Gs key x<|xs++[emp],zo 0])))/\Bl v w'):=⟨fun v hv p c hr=>by
  have:=CP.out v (B2.out.trans<|hv.mono B2.out.size) M.sP.2.1 (c:=c) hr
  rw[WY]at this;refine mq this ?_;rintro w' hb;rcases M.more with⟨h8,h⟩ | ⟨m,h⟩
  ·exact⟨.inl ⟨zx,by rw[h];rfl⟩,hb⟩
  ·exact⟨.inr ⟨m,by rw[h,m.out];rfl⟩,hb⟩⟩
 have HC:=AC fun v (hv:Bl w2 v)=>HW.out.at hv;clear CV CG CP hT Yg hz;clear HW M;generalize Ji key x=t1 at*;generalize Ig (Gs key x xs)=t2 at*;generalize IQ rs (Eu key<|(x::xs).map A7) Aa (x::xs) ps=vb at*;generalize IQ rs (Eu key<|(x::[]).map A7) Aa (x::[]) ps=va at*;generalize Eu key ((x::xs).map A7)=ids at*;obtain⟨k0,k1,k2,k3,k5⟩:=HC.out w3 B3.out;go_wp2_with fail
 refine Zwh ?_;have HS:=AC fun u (hu:Bl w3 u)=>AJ (Cb k3 hu) (Cb k5 hu);have B0:Bl w3 w3.drew:=(AR _ w3).drew;have AY:=HS.out _ B0;refine Vj 10 (fun u=>u.cell? (zm w.heap.size 3)=some (zo Aa)/\u.cell? (zm w.heap.size 5)=some (.slice pr nr cr)) zt ?_;refine tz 0 (zq w.heap.size 0) AY (hy:=fun _ ⟨s0,s1⟩=>by go_simp) ?_;try simp only[zz]
 refine tz 1 (zq w.heap.size 0) AY (hy:=fun _ ⟨s0,s1⟩=>by go_simp) ?_;try simp only[zz]
 refine tz 2 (zq w.heap.size 3) AY (hy:=fun _ ⟨s0,s1⟩=>by go_simp) ?_;try simp only[zz]
 refine tz 3 (zo Aa) AY (hy:=fun _ ⟨s0,s1⟩=>by go_simp) ?_;try simp only[zz]
 refine tz 4 (zq w.heap.size 0) AY (hy:=fun _ ⟨s0,s1⟩=>by go_simp) ?_;try simp only[zz]
 refine tz 5 (zq w.heap.size 0) AY (hy:=fun _ ⟨s0,s1⟩=>by go_simp) ?_;try simp only[zz]
 refine tz 6 (zq w.heap.size 5) AY (hy:=fun _ ⟨s0,s1⟩=>by go_simp) ?_;try simp only[zz]
 refine tz 7 (.slice pr nr cr) AY (hy:=fun _ ⟨s0,s1⟩=>by go_simp) ?_;try simp only[zz]
 refine tz 8 (.agg #[zo Aa,zn,.slice pr nr cr]) AY (hy:=fun _ ⟨s0,s1⟩=>by go_simp) ?_;try simp only[zz]
 obtain⟨W0,hW0⟩: ∃ W0,AF (w3.drew=W0):=⟨_,⟨rfl⟩⟩;rw[hW0.out]at B0⊢;clear AY;refine rz 9 (h:=fun K' hK'=>?_);go_simp;have bA:=B0.alloc B0.size<|.cells #[zo 0,zn,zn] 36;have kz:AO _ W0.heap.size #[zo 0,zn,zn] 36:=AO.new W0 _ _;have hg:=B0.size;generalize W0.alloc (.cells #[zo 0,zn,zn] 36)=WA at*;generalize W0.heap.size=g at*;refine hK'.out _ _ (HS.out _ bA) ?_;try simp only[zz]
 obtain⟨y0,y1,y2,ys⟩:=kz.three;refine Q0 (h:=fun K' hK'=>?_);go_simp;refine hK'.out _ _ ?_;try simp only[zz]
 refine dz (h:=?_);have k9:=((kz.set 0<|zo Aa).set 1<|zn).set 2<|.slice pr nr cr;have k9:AO (((WA.setCell (zm g 0)<|zo Aa).setCell (zm g 1)<|zn).setCell (zm g 2)<|.slice pr nr cr) g #[zo Aa,zn,.slice pr nr cr] 36:=by simpa using k9
 have b9:=SA g (SA g (SA g bA hg 0<|zo Aa) hg 1<|zn) hg 2<|.slice pr nr cr;generalize ((WA.setCell (zm g 0)<|zo Aa).setCell (zm g 1)<|zn).setCell (zm g 2) (.slice pr nr cr)=W at*;have BW:=AC<|B3.out.trans<|b9.mono B3.out.size;have Zv:AF (∀ u,Bl W u->u.cell? (zm w.heap.size 1)=some (.slice pp np cp)/\u.cell? (zm w.heap.size 2)=some (.string key)/\u.cell? (zm g 0)=some (zo Aa)/\u.cell? (zm g 1)=some (zn)/\u.cell? (zm g 2)=some (.slice pr nr cr)):=⟨fun u hu=>by
  obtain⟨_,h1,h2,_,_⟩:=HC.out u<|BW.out.trans<|hu.mono BW.out.size;obtain⟨d0,d1,d2,_⟩:=(k9.of<|hu.block _ k9.lt).three;exact⟨h1,h2,d0,d1,d2⟩⟩
 clear kz k9 b9 bA y0 y1 y2 ys hg hW0 B0 HS k0 k1 k2 k3 k5 B3;obtain⟨k1,k2,d0,d1,d2⟩:=Zv.out W<|AR _ _;go_wp2_with fail
 have S0:=Zv.out W<|AR _ _;go_region_held3 (fun u=>u.cell? (zm w.heap.size 1)=some (.slice pp np cp)/\u.cell? (zm w.heap.size 2)=some (.string key)/\u.cell? (zm g 0)=some (zo Aa)/\u.cell? (zm g 1)=some (zn)/\u.cell? (zm g 2)=some (.slice pr nr cr)) (first | exact S2 | exact S0) (first
  | (go_at_call 9;refine(CA.out _ BW.out.drew).mono ?_;rintro e w4 ⟨rfl,hb0⟩;have hb4:=(AR _ W).drew.trans hb0;have S2:_:=Zv.out w4 hb4))
 have B4:=AC hb4;have S0':=S2;clear S0 S2 hb0 hb4 CA k1 k2 d0 d1 d2;obtain⟨k1,k2,d0,d1,d2⟩:=S0';go_wp2_with fail
 have S0:=Zv.out w4 B4.out;go_region_held3 (fun u=>u.cell? (zm w.heap.size 1)=some (.slice pp np cp)/\u.cell? (zm w.heap.size 2)=some (.string key)/\u.cell? (zm g 0)=some (zo Aa)/\u.cell? (zm g 1)=some (zn)/\u.cell? (zm g 2)=some (.slice pr nr cr)) (first | exact S2 | exact S0) (first
  | (go_at_call 9;refine(CB.out _ (BW.out.trans<|B4.out.mono BW.out.size).drew).mono ?_;rintro e w5 ⟨rfl,hb0⟩;have BX:=B4.out.drew.trans<|hb0.mono B4.out.drew.size;have S2:_:=Zv.out w5 BX))
 have B5:=AC BX;have B5w:=AC<|BW.out.trans<|B5.out.mono BW.out.size;clear S0 S2 hb0 BX B4 CB k1 k2 d0 d1 d2;have yS:(vb=6/\va=6)\/vb≠6:=by
  by_cases h:vb=6
  ·exact .inl ⟨h,HV.out h⟩
  ·exact .inr h
 clear HV;have CQ5:AF (∀ v,Bl w2 v->Calls prog 10 #[.string t2,.slice (Qb v.heap.size 0) 1 1] (v.alloc<|.cells #[zn,zn,zn] 44) fun e w'=>((nb=8/\e= .returned (.tuple #[.string ⟨#[]⟩,zo 4]))\/(Js key x (xs++[emp])/\e= .returned (.tuple #[.string<|Ig<|Gs key x<|xs++[emp],zo 0])))/\Bl v w'):=⟨fun v hv=>by
  have M4:=AO.new v #[zn,zn,zn] 44;have hb:=hv.alloc hv.size<|.cells #[zn,zn,zn] 44;have hb':=(AR _ v).alloc lr<|.cells #[zn,zn,zn] 44;have hS:EZ (v.alloc<|.cells #[zn,zn,zn] 44).heap.size (v.alloc<|.cells #[zn,zn,zn] 44) 3 [zn,zn,zn] emp:=⟨none,0,none,0,none,0,rfl,EO _,ak,EO _,ak,EO _,ak⟩;refine(CQ.out _ hb (Qb v.heap.size 0) 1<|wW (EZ.at hS (EG.up lr) M4.lt fun j _=>by rw[Gx];exact(M4.cell j).trans<|Tu ..)).mono fun e w' h=>⟨h.1,hb'.trans<|h.2.mono hb'.size⟩⟩
 clear CQ;rcases yS with⟨rfl,rfl⟩ | mQ;all_goals
  go_wp2_with fail
  refine(CQ5.out w5 B5w.out).mono ?_;rintro e w6 ⟨⟨h8,rfl⟩ | ⟨m,rfl⟩,Gp⟩
  ·have B6:=AC<|B5w.out.trans<|Gp.mono B5w.out.size;obtain⟨k0,_⟩:=HC.out w6 B6.out;obtain rfl:=h8;clear CX CY CH HE HI HZ CQ5 HC Zv Gp;go_wp2
   go_ret
   exact⟨rfl,B2.out.trans<|B6.out.mono B2.out.size⟩
  ·have B6:=AC<|B5.out.trans<|Gp.mono B5.out.size;have CC:=AC<|CX.out _ m;have CD:=AC<|CY.out _ m;rw[show(xs++[emp]).length+1=nb+1 by simp;omega]at CD;rw[HZ.out]at CD;generalize Ig (Gs key x<|xs++[emp])=t3 at*;generalize IQ rs (Eu key<|(x::(xs++[emp])).map A7) Aa (x::(xs++[emp])) ps=vc at*;clear CX CY CQ5 B5 B5w Gp m;have S0:=Zv.out w6 B6.out;obtain⟨k1,k2,d0,d1,d2⟩:=id S0;go_wp2
   go_region_held3 (fun u=>u.cell? (zm w.heap.size 1)=some (.slice pp np cp)/\u.cell? (zm w.heap.size 2)=some (.string key)/\u.cell? (zm g 0)=some (zo Aa)/\u.cell? (zm g 1)=some (zn)/\u.cell? (zm g 2)=some (.slice pr nr cr)) (first | exact S2 | exact S0) (first
    | (go_at_call 9;refine(CC.out _ (BW.out.trans<|B6.out.mono BW.out.size).drew).mono ?_;rintro e w7 ⟨rfl,hb0⟩;have G6:=B6.out.drew.trans<|hb0.mono B6.out.drew.size;have S2:_:=Zv.out w7 G6))
   have B7:=AC<|BW.out.trans<|G6.mono BW.out.size;clear S0 S2 hb0 G6 k1 k2 d0 d1 d2 CC B6 Zv;obtain⟨_,_,k2,_⟩:=HC.out w7 B7.out;go_wp2_with fail
   refine(CD.out w7 B7.out).mono ?_;rintro e w8 ⟨p1,n1,c1,p2,c2,rfl,ht,hb0⟩;have B8:=AC<|B7.out.trans<|hb0.mono B7.out.size;obtain⟨_,b,o,rfl,_,z0⟩:=ht nb z (by rw[PL (by rw[HI.out];omega),HI.out,Nat.sub_self];rfl);obtain⟨k0,_,_,_,k5⟩:=HC.out w8 B8.out;have C9:=AC<|CH.out z;clear ht hb0 CD CH k2 B7;go_wp2_with fail
   have S0:=AJ k0<|AJ k5 z0;generalize hm:nb+1=m at*;have hlt:nb<m:=zx
   clear hm;go_region_held3 (fun u=>u.cell? (zm w.heap.size 0)=some (.slice pb nb cb)/\u.cell? (zm w.heap.size 5)=some (.slice pr nr cr)/\u.cell? (zm b (o+nb))=some (.string z)) (first | exact S2 | exact S0) (first
    | (go_at_call 12;refine(C9.out _ B8.out.drew).mono ?_;rintro e w9 ⟨rfl,rfl⟩;have S2:_:=S0))
   have B9:=AC B8.out.drew;clear S0 S2 k0 k5 z0 C9;cases hh:IM z rs with
   | true=>
    go_wp2_with fail
    all_goals
     go_ret
     exact⟨rfl,B2.out.trans<|B9.out.mono B2.out.size⟩
   | false=>
    obtain rfl:=HE.out hh;go_wp2_with fail
    all_goals
     go_ret
     exact⟨rfl,B2.out.trans<|B9.out.mono B2.out.size⟩
end Go.P
