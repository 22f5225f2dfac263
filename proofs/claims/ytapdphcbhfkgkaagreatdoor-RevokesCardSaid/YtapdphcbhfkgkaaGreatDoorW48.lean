import Derived.Test.YtapdphcbhfkgkaaGreatDoorW47
import Derived.Test.YtapdphcbhfkgkaaGreatDoorRows
import Derived.Lib.LaidU8T
import Derived.ProofKit
import Derived.LaidMore
import Derived.OpenShut
import Derived.Stop.Joined
import Derived.Stop.LaidErr
import Derived.JoinedOf
import Derived.Deep.Upon
set_option linter.defProp false
set_option maxRecDepth 100000
set_option maxHeartbeats 8000000
set_option linter.unusedSimpArgs false
open Go.Proofs Go.RowKit Go.W Tryz Go.Proofs.YtapdphcbhfkgkaaGreatDoor
namespace Go.P
open Go.ChangeShapes Go.WideShapes Go.ChangeAt Go.RowKit Go.W Go.Lib
variable {W:World}{k:IntKind}
def rt:(prog.cutTypes.find? (·.1== "internal/reflectlite.rtype")).map (·.2)=some 193:=zt
def Z9z:((List.range 433).filter fun t=>prog.rowNamed t [101,114,114,111,114])=[70]:=zt
def Zrz:prog.types.size=433:=zt
def Z0i:prog.globalNamed "errors.errorType" =some 10:=zt
def Z78:prog.cellsOf 394=1:=zt
def fV:prog.cellsOf 9=1:=zt
def Yj4 (u:TypeId)(hu:prog.typeName? 3 u=some "*errors.errorString"):u=392:=
 typeName_ptr_named (nm:= "errors.errorString") zt zt zu u hu
def laidMet.one {P:Program}{l:List (String×DataW Unit)}{x:String×DataW Unit}(h:laidMet P l W)(hx:x∈l):laidMet P [x] W:=by
 induction l with
 | nil=>cases hx
 | cons y r ih=>
  rcases Ak.1 hx with rfl | UH
  ·obtain⟨ps,hv,QW,IA⟩:=h;obtain⟨n,d⟩:=x;obtain⟨g,t,cs,fuel,p,q,h1,h2,h3,h4,_,rfl⟩:=hv;exact⟨MemPlace.row (zm g 0) cs.size++p++[],⟨g,t,cs,fuel,p,[],h1,h2,h3,h4,rfl,rfl⟩,by simpa using List.Nodup.sublist (List.sublist_append_left _ _) QW,fun b off hm=>IA b off (by rw[List.append_nil]at hm;exact Md _ hm)⟩
  ·exact ih h.tail UH
def Jk {n:String}{text:List UInt8}{g:Nat}(h:laidMet prog [(n,.iface "*errors.errorString" (.ptr<|.agg [.lit<|.string text]))] W)
  (hg:prog.globalNamed n=some g) (ht:(prog.globals[g]?).map (·.type)=some 70):
  ∃ (a:Addr) (s:ByteArray),W.cell? (zm g 0)=some (.iface 392<|.pointer<|some a)/\W.cell? a=some (.string s)/\s.data.toList=text/\ ∃ c t,W.heap[a.block]?=some (.cells c t (0,0)):=by
 obtain⟨ps,⟨g0,t0,cs0,f0,p0,q0,hg0,Ib,hv0,zZ,_,e0⟩,_,IA⟩:=h;obtain rfl:=Gw<|hg.symm.trans hg0;obtain rfl:=Gw<|ht.symm.trans Ib;subst e0;obtain⟨l0⟩:=cs0;have yD: ∀ u v,l0=[.iface u v]->Value.okWide prog W .any 0 u v:=fun u v e=>by
  subst e;exact(IA g 0 (by simp[MemPlace.row])).2 u v (by simpa using World.var?_cell hg0 hv0 0)
 obtain⟨a0,s0,rfl,hc0,hs0,_,rfl⟩:=errorString_of_trod underlying70 Yj4 underlying392 underlying394 rfl rfl underlying9 Z78 fV zZ yD;obtain⟨c0,t0,hb0⟩:=(IA a0.block a0.off (by simp[MemPlace.row])).1;exact⟨a0,s0,by simpa using World.var?_cell hg0 hv0 0,hc0,hs0,c0,t0,hb0⟩
section
variable {P:Program} {W:World} {nm:String} {g:Nat} {t e n:Nat}
def pu {l:List ByteArray}(h:VarReads P W nm (.agg (l.map fun s=> .lit (.string s.data.toList))))(hg:P.globalNamed nm=some g)(hy:(P.globals[g]?).map (·.type)=some t)(ht:P.underlying t=some (.array n e))(he:P.underlying e=some .string)(hc:P.cellsOf e=1)(hn:l.length=n): ∀ (i:Nat) (s:ByteArray),l[i]?=some s->W.cell? (zm g i)=some (.string s):=by
 intro i s hi;obtain⟨g',t',cs,fuel,p,h1,h2,h3,h4⟩:=h;obtain rfl:=Gw<|hg.symm.trans h1;obtain rfl:=Gw<|hy.symm.trans h2;obtain⟨WQ,d,q,hd,hr⟩:=array_elem ht h4 i (by rw[<- hn];exact(DW.1 hi).1);rw[hc]at hr;obtain⟨s',e1,e2,_⟩:=DataW.trod_string he hr;rw[FK,hi]at hd;have e3:s=s':=by
  have:=(Gw hd).trans (Prod.mk.inj e2).1
  injection this with this;injection this with this;cases s;cases s';simpa using this
 subst e3
 have:=World.var?_cell hg h3 i
 rw[this,<- Qq];have e4:=congrArg (·[0]?) e1;simpa[List.getElem?_take,List.getElem?_drop]using e4
def ZO {l:List Int}(h:VarReads P W nm (tabData k l))(hg:P.globalNamed nm=some g)(hy:(P.globals[g]?).map (·.type)=some t)(ht:P.underlying t=some (.array n e))(he:P.underlying e=some (.int k))(hc:P.cellsOf e=1)(ze:P.cellsOf t=n): ∀ (i:Nat) (z:Int),l[i]?=some z->W.cell? (zm g i)=some (.int k z):=by
 intro i z hi;obtain⟨g',t',cs,fuel,p,h1,h2,h3,h4⟩:=h;obtain rfl:=Gw<|hg.symm.trans h1;obtain rfl:=Gw<|hy.symm.trans h2;have hcs:=cells_of_tab ht he hc ze h4;rw[World.var?_cell hg h3 i,<- Qq,hcs,FK,hi];rfl
def Zvz {fs:Array Field}{l:List (Int×Int)}(h:VarReads P W nm (.agg (l.map fun p=> .agg ([p.1,p.2].map fun z=> .lit (.int k z)))))(hg:P.globalNamed nm=some g)(hy:(P.globals[g]?).map (·.type)=some t)(ht:P.underlying t=some (.array n e))(he:P.underlying e=some (.struct fs))(hf: ∀ (i:Nat) (f:Field),fs[i]?=some f->P.underlying f.type=some (.int k)/\f.offset=i/\P.cellsOf f.type=1)(h2:fs.size=2)(hc:P.cellsOf e=2)(hn:l.length=n): ∀ (i:Nat) (p:Int×Int),l[i]?=some p->W.cell? (zm g (2*i))=some (.int k p.1)/\W.cell? (zm g (2*i+1))=some (.int k p.2):=by
 intro i p hi;obtain⟨g',t',cs,fuel,q,h1,h2',h3,h4⟩:=h;obtain rfl:=Gw<|hg.symm.trans h1;obtain rfl:=Gw<|hy.symm.trans h2';obtain⟨WQ,d,q,hd,hr⟩:=array_elem ht h4 i (by rw[<- hn];exact(DW.1 hi).1);rw[FK,hi]at hd;obtain rfl:=Gw hd;rw[hc]at hr;have hcs:=ints_of_struct he hf (by rw[hc,h2]) hr;have e0:=congrArg (·[0]?) hcs;have e1:=congrArg (·[1]?) hcs;simp only[List.getElem?_take,List.getElem?_drop]at e0 e1;constructor
 ·rw[World.var?_cell hg h3<|2*i,<- Qq];simpa[Nat.mul_comm]using e0
 ·rw[World.var?_cell hg h3<|2*i+1,<- Qq];simpa[Nat.mul_comm]using e1
end
def gU:DataW Unit->List Int
 | .agg ds=>ds.map fun d=>match d with | .lit (.int _ z)=>z | _=>0
 | _=>[]
def xx:U8Extra prog Tryz.ES:=⟨zt,zt,zt,zt,zt,zt,zt⟩
def Z8h:Rows.laid_unicode_utf8_first=firstData:=zt
def Yjs:(Rows.laid_unicode_utf8_acceptRanges:DataW Unit)=acceptData:=zt
def Yju:(Rows.laid_warrant_warrant_guardMarks:DataW Unit)= .agg (MV.map fun s=> .lit (.string s.data.toList)):=zt
def Z8i:(Rows.laid_warrant_warrant_marks:DataW Unit)= .agg (Rx.map fun s=> .lit (.string s.data.toList)):=zt
def Yjw:List (Int×Int):=[(34,34),(92,92),(110,10),(116,9),(114,13)]
def Yjt:(Rows.laid_warrant_warrant_escapes:DataW Unit)= .agg (Yjw.map fun p=> .agg ([p.1,p.2].map fun z=> .lit (.int .u8 z))):=zt
def Z8j:(Rows.laid_warrant_sums_start:DataW Unit)=tabData .u32 (pU.map Int.ofNat):=zt
def Z8k:(Rows.laid_warrant_sums_steps:DataW Unit)=tabData .u32 (ZK.map Int.ofNat):=zt
def Zz7:(Rows.laid_math_bits_deBruijn32tab:DataW Unit)=tabData .u8 (gU Rows.laid_math_bits_deBruijn32tab):=zt
def Yfo:(Rows.laid_math_bits_deBruijn64tab:DataW Unit)=tabData .u8 (gU Rows.laid_math_bits_deBruijn64tab):=zt
def Yjv:gU Rows.laid_math_bits_deBruijn64tab=pZ.map Int.ofNat:=zt
def Zjh (h:laidMetH prog Rows.revokesRow.laid W): ∃ a,Yjd a W/\IL a W/\ZN W/\23<=W.heap.size:=by
 have h':laidMet prog [("math/bits.deBruijn32tab",Rows.laid_math_bits_deBruijn32tab),("math/bits.deBruijn64tab",Rows.laid_math_bits_deBruijn64tab),("internal/strconv.uint64pow10",Rows.laid_internal_strconv_uint64pow10),("unicode/utf8.acceptRanges",Rows.laid_unicode_utf8_acceptRanges),("strconv.ErrRange",Rows.laid_strconv_ErrRange),("strconv.ErrSyntax",Rows.laid_strconv_ErrSyntax),("warrant/sums.start",Rows.laid_warrant_sums_start),("warrant/sums.steps",Rows.laid_warrant_sums_steps),("warrant/warrant.guardMarks",Rows.laid_warrant_warrant_guardMarks),("warrant/warrant.marks",Rows.laid_warrant_warrant_marks),("warrant/warrant.escapes",Rows.laid_warrant_warrant_escapes),("warrant/warrant.ErrWord",Rows.laid_warrant_warrant_ErrWord),("warrant/warrant.ErrForm",Rows.laid_warrant_warrant_ErrForm),("warrant/warrant.ErrDeep",Rows.laid_warrant_warrant_ErrDeep),("warrant/warrant.ErrLimit",Rows.laid_warrant_warrant_ErrLimit),("warrant/warrant.ErrFree",Rows.laid_warrant_warrant_ErrFree),("warrant/warrant.ErrShort",Rows.laid_warrant_warrant_ErrShort),("warrant/warrant.ErrBytes",Rows.laid_warrant_warrant_ErrBytes),("warrant/warrant.ErrKey",Rows.laid_warrant_warrant_ErrKey),("warrant/warrant.ErrSealed",Rows.laid_warrant_warrant_ErrSealed),("warrant/warrant.ErrTag",Rows.laid_warrant_warrant_ErrTag),("unicode/utf8.first",Rows.laid_unicode_utf8_first)] W/\handlesMet prog [("errors.errorType",Rows.laid_errors_errorType)] W:=h;obtain⟨hl,hh⟩:=h';obtain⟨name,u,ty,e1,e2,e3,e4,e5⟩:=hh _<|Bh.2 rfl;have en:name=[101,114,114,111,114]:=(Gw e1).symm;subst en;obtain rfl:=Gw<|rt.symm.trans e2;have hm:ty∈(List.range 433).filter fun t=>prog.rowNamed t [101,114,114,111,114]:=List.mem_filter.2 ⟨List.mem_range.2 (by rw[<- Zrz];exact e3),e4⟩;rw[Z9z]at hm;obtain rfl:=Bh.1 hm;have mW:typeHandle prog 70= zq 23 70:=zt
 rw[mW]at e5;have zW:W.cell? (zm 10 0)=some (.iface 193<|.agg #[zq 23 70]):=by simpa using World.var?_cell Z0i e5 0
 obtain⟨a0,s0,e0,u0,x0,r0⟩:=Jk (laidMet.one hl (x:=("warrant/warrant.ErrWord",Rows.laid_warrant_warrant_ErrWord)) (by repeat (first | exact List.Mem.head _ | apply List.Mem.tail))) zt zt;obtain⟨a1,s1,e1,u1,x1,r1⟩:=Jk (laidMet.one hl (x:=("warrant/warrant.ErrForm",Rows.laid_warrant_warrant_ErrForm)) (by repeat (first | exact List.Mem.head _ | apply List.Mem.tail))) zt zt;obtain⟨a2,s2,e2,u2,x2,r2⟩:=Jk (laidMet.one hl (x:=("warrant/warrant.ErrDeep",Rows.laid_warrant_warrant_ErrDeep)) (by repeat (first | exact List.Mem.head _ | apply List.Mem.tail))) zt zt;obtain⟨a3,s3,e3,u3,x3,r3⟩:=Jk (laidMet.one hl (x:=("warrant/warrant.ErrLimit",Rows.laid_warrant_warrant_ErrLimit)) (by repeat (first | exact List.Mem.head _ | apply List.Mem.tail))) zt zt;obtain⟨a4,s4,e4,u4,x4,r4⟩:=Jk (laidMet.one hl (x:=("warrant/warrant.ErrFree",Rows.laid_warrant_warrant_ErrFree)) (by repeat (first | exact List.Mem.head _ | apply List.Mem.tail))) zt zt;obtain⟨a5,s5,e5,u5,x5,r5⟩:=Jk (laidMet.one hl (x:=("warrant/warrant.ErrShort",Rows.laid_warrant_warrant_ErrShort)) (by repeat (first | exact List.Mem.head _ | apply List.Mem.tail))) zt zt;obtain⟨a6,s6,e6,u6,x6,r6⟩:=Jk (laidMet.one hl (x:=("warrant/warrant.ErrBytes",Rows.laid_warrant_warrant_ErrBytes)) (by repeat (first | exact List.Mem.head _ | apply List.Mem.tail))) zt zt;obtain⟨a7,s7,e7,u7,x7,r7⟩:=Jk (laidMet.one hl (x:=("warrant/warrant.ErrKey",Rows.laid_warrant_warrant_ErrKey)) (by repeat (first | exact List.Mem.head _ | apply List.Mem.tail))) zt zt;obtain⟨a8,s8,e8,u8,x8,r8⟩:=Jk (laidMet.one hl (x:=("warrant/warrant.ErrSealed",Rows.laid_warrant_warrant_ErrSealed)) (by repeat (first | exact List.Mem.head _ | apply List.Mem.tail))) zt zt;obtain⟨a9,s9,e9,u9,x9,r9⟩:=Jk (laidMet.one hl (x:=("warrant/warrant.ErrTag",Rows.laid_warrant_warrant_ErrTag)) (by repeat (first | exact List.Mem.head _ | apply List.Mem.tail))) zt zt;obtain⟨_,_,yn,_⟩:=Jk (laidMet.one hl (x:=("strconv.ErrSyntax",Rows.laid_strconv_ErrSyntax)) (by repeat (first | exact List.Mem.head _ | apply List.Mem.tail))) zt zt;obtain⟨_,_,rg,_⟩:=Jk (laidMet.one hl (x:=("strconv.ErrRange",Rows.laid_strconv_ErrRange)) (by repeat (first | exact List.Mem.head _ | apply List.Mem.tail))) zt zt;have hu:=utf8Tabs_of_readsT (U8Types.of196 Tryz.Ik) xx (Z8h▸(Go.Lib.laidMet.reads hl (n:= "unicode/utf8.first") (d:=Rows.laid_unicode_utf8_first) (by repeat (first | exact List.Mem.head _ | apply List.Mem.tail))))<|Yjs▸(Go.Lib.laidMet.reads hl (n:= "unicode/utf8.acceptRanges") (d:=Rows.laid_unicode_utf8_acceptRanges) (by repeat (first | exact List.Mem.head _ | apply List.Mem.tail)));have ho:=pu (t:=367) (Yju▸(Go.Lib.laidMet.reads hl (n:= "warrant/warrant.guardMarks") (d:=Rows.laid_warrant_warrant_guardMarks) (by repeat (first | exact List.Mem.head _ | apply List.Mem.tail)))) (g:=17) zt zt underlying367 underlying9 fV rfl;have hk:=pu (t:=270) (Z8i▸(Go.Lib.laidMet.reads hl (n:= "warrant/warrant.marks") (d:=Rows.laid_warrant_warrant_marks) (by repeat (first | exact List.Mem.head _ | apply List.Mem.tail)))) (g:=12) zt zt underlying270 underlying9 fV rfl;have hs:=ZO (t:=224) (Z8j▸(Go.Lib.laidMet.reads hl (n:= "warrant/sums.start") (d:=Rows.laid_warrant_sums_start) (by repeat (first | exact List.Mem.head _ | apply List.Mem.tail)))) (g:=11) zt zt underlying224 underlying223 zt zt;have ht:=ZO (t:=318) (Z8k▸(Go.Lib.laidMet.reads hl (n:= "warrant/sums.steps") (d:=Rows.laid_warrant_sums_steps) (by repeat (first | exact List.Mem.head _ | apply List.Mem.tail)))) (g:=13) zt zt underlying318 underlying223 zt zt;have hb:=ZO (t:=183) (Yfo▸(Go.Lib.laidMet.reads hl (n:= "math/bits.deBruijn64tab") (d:=Rows.laid_math_bits_deBruijn64tab) (by repeat (first | exact List.Mem.head _ | apply List.Mem.tail)))) (g:=20) zt zt underlying183 underlying5 zt zt;have hw:=Wx<|ZO (t:=95) (Zz7▸(Go.Lib.laidMet.reads hl (n:= "math/bits.deBruijn32tab") (d:=Rows.laid_math_bits_deBruijn32tab) (by repeat (first | exact List.Mem.head _ | apply List.Mem.tail)))) (g:=22) zt zt underlying95 underlying5 zt zt 0 0 rfl;have hx:=Zvz (t:=323) (Yjt▸(Go.Lib.laidMet.reads hl (n:= "warrant/warrant.escapes") (d:=Rows.laid_warrant_warrant_escapes) (by repeat (first | exact List.Mem.head _ | apply List.Mem.tail)))) (g:=14) zt zt underlying323 underlying322 (fun j f hj=>by
  match j,hj with
  | 0,hj=>cases hj;exact⟨underlying5,rfl,zt⟩
  | 1,hj=>cases hj;exact⟨underlying5,rfl,zt⟩
  | j+2,hj=>simp at hj) rfl zt rfl
 have ne: ∀ (x y:Addr) (s s':ByteArray) (l l':List UInt8),W.cell? x=some (.string s)->s.data.toList=l->W.cell? y=some (.string s')->s'.data.toList=l'->decide (l=l')=false->x≠y:=fun x y s s' l l' h1 h2 h3 h4 h5 dD=>by
  subst dD;rw[h1]at h3;cases h3;exact absurd (h2.symm.trans h4)<|of_decide_eq_false h5
 refine⟨fun k=>match k with | 0=>a0 | 1=>a1 | 2=>a2 | 3=>a3 | 4=>a4 | 5=>a5 | 6=>a6 | 7=>a7 | 8=>a8 | _=>a9,⟨?_,?_,?_,?_,?_,?_,?_,?_,?_,?_,hu,⟨_,_,yn⟩,⟨_,_,rg⟩,ho,hk,?_,fun i c hc=>hs i c (by rw[FK,hc];rfl),fun i c hc=>ht i c (by rw[FK,hc];rfl),hb 0 0 rfl,hb 1 1 rfl,hb 3 2 rfl⟩,⟨?_,?_,zW⟩,fun i z h=>hb i z (by rw[Yjv,FK,h];rfl),hw⟩
 ·rw[BU _ zu];exact e0
 ·rw[BU _ zu];exact e1
 ·rw[BU _ zu];exact e2
 ·rw[BU _ zu];exact e3
 ·rw[BU _ zu];exact e4
 ·rw[BU _ zu];exact e5
 ·rw[BU _ zu];exact e6
 ·rw[BU _ zu];exact e7
 ·rw[BU _ zu];exact e8
 ·rw[BU _ zu];exact e9
 ·intro i c hc;match i,hc with
  | 0,hc=>cases hc;exact(hx 0 _ rfl).1
  | 1,hc=>cases hc;exact(hx 0 _ rfl).2
  | 2,hc=>cases hc;exact(hx 1 _ rfl).1
  | 3,hc=>cases hc;exact(hx 1 _ rfl).2
  | 4,hc=>cases hc;exact(hx 2 _ rfl).1
  | 5,hc=>cases hc;exact(hx 2 _ rfl).2
  | 6,hc=>cases hc;exact(hx 3 _ rfl).1
  | 7,hc=>cases hc;exact(hx 3 _ rfl).2
  | 8,hc=>cases hc;exact(hx 4 _ rfl).1
  | 9,hc=>cases hc;exact(hx 4 _ rfl).2
  | i+10,hc=>simp[xE]at hc
 ·intro k hk;have h:k=0\/k=1\/k=2\/k=3\/k=4\/k=5\/k=6\/k=7\/k=8\/k=9:=zx
  rcases h with rfl | rfl | rfl | rfl | rfl | rfl | rfl | rfl | rfl | rfl
  ·exact r0
  ·exact r1
  ·exact r2
  ·exact r3
  ·exact r4
  ·exact r5
  ·exact r6
  ·exact r7
  ·exact r8
  ·exact r9
 ·intro i j hi hj zP;have h:i=0\/i=1\/i=2\/i=3\/i=4\/i=5\/i=6\/i=7\/i=8\/i=9:=zx
  have h2:j=0\/j=1\/j=2\/j=3\/j=4\/j=5\/j=6\/j=7\/j=8\/j=9:=zx
  rcases h with rfl | rfl | rfl | rfl | rfl | rfl | rfl | rfl | rfl | rfl <;> rcases h2 with rfl | rfl | rfl | rfl | rfl | rfl | rfl | rfl | rfl | rfl;all_goals first
   | exact absurd rfl zP
   | exact ne _ _ _ _ _ _ ‹_› ‹_› ‹_› ‹_› rfl
end Go.P
namespace Go.P
set_option maxRecDepth 100000
set_option maxHeartbeats 8000000
def k10:(Rows.revokesRow.inPlace==prog.inPlace 4)=true:=zt
def k11:(Rows.revokesRow.unfollowed==prog.unfollowed 4)=true:=zt
def k12:(Rows.revokesRow.recurses==prog.recurses 4)=true:=zt
def k13:(Rows.revokesRow.named==prog.varsNamed 4)=true:=zt
def Zsw:joinedFacts prog 4 Tryz.f4 Rows.revokesSpec Rows.revokesRow=true:=by
 simp only[joinedFacts,Bool.and_eq_true];and_intros
 ·as_aux_lemma=>kernel_rfl
 ·as_aux_lemma=>kernel_rfl
 ·as_aux_lemma=>kernel_rfl
 ·as_aux_lemma=>kernel_rfl
 ·as_aux_lemma=>kernel_rfl
 ·as_aux_lemma=>kernel_rfl
 ·as_aux_lemma=>kernel_rfl
 ·as_aux_lemma=>kernel_rfl
 ·as_aux_lemma=>kernel_rfl
 ·exact k10
 ·exact k11
 ·exact k12
 ·exact k13
 ·as_aux_lemma=>kernel_rfl
 ·as_aux_lemma=>kernel_rfl
 ·as_aux_lemma=>kernel_rfl
 ·as_aux_lemma=>kernel_rfl
 ·as_aux_lemma=>kernel_rfl
 ·as_aux_lemma=>kernel_rfl
 ·as_aux_lemma=>kernel_rfl
 ·as_aux_lemma=>kernel_rfl
 ·as_aux_lemma=>kernel_rfl
 ·as_aux_lemma=>kernel_rfl
 ·as_aux_lemma=>kernel_rfl
 ·as_aux_lemma=>kernel_rfl
 ·as_aux_lemma=>kernel_rfl
 ·as_aux_lemma=>kernel_rfl
 ·as_aux_lemma=>kernel_rfl
 ·as_aux_lemma=>kernel_rfl
 ·as_aux_lemma=>kernel_rfl
 ·as_aux_lemma=>kernel_rfl
 ·as_aux_lemma=>kernel_rfl
end Go.P
namespace Go.W
variable {w:World}{e:TypeId}{B n:Nat}
def um {P:Program}{t:TypeId}{bytes:Nat}(E:J3 P t e 1 bytes){ops:Array Oper}{o:Oper}{a:Act}{K:Act->World->Prop}{Q:Exit->Act->World->Prop}{F:Prop}(hgd:o.guard=none)(s x:Operand)
  (ho:o.op= .call {callee:= .builtin .append,args:=#[s,x],argTypes:=#[t,t]}) {B:Nat} {v:Value} {l r:List ByteArray} (hs:a.eval s=v) (hown:w.ownsRow B e 1 v l.length (l.map .string)) {p:Option Addr} {m c:Nat} (hx:a.eval x= .slice p m c) (XY:r.length=m)
  (hr: ∀ i t,r[i]?=some t-> ∃ b o,p=some (zm b o)/\w.cell? (zm b (o+i))=some (.string t)) (hn:l.length+m<1000000000) (hB:B<=w.heap.size)
  (h: ∀ p' c' w',w'.ownsRow B e 1 (.slice p' (l.length+m) c') (l++r).length ((l++r).map .string)->Below B w w'->(∀ k,k<w.heap.size->some k≠v.ownBlock->w'.heap[k]?=w.heap[k]?)->K (a.put o.dst<|.slice p' (l.length+m) c') w'):if Region.wanted o (yielded ops a.tmps)=true then Oper.wp P o a w K Q else F:=by
 obtain⟨i,z,ht,hi,hz,hsize,hby,hzs,hsz,G4⟩:=E;rcases Nat.eq_zero_or_pos m with rfl | hm
 ·obtain rfl:r=[]:=M9 XY;have hv: ∃ p' c',v= .slice p' l.length c'/\l.length<=c':=by
   rcases hown.2 with⟨h1,h2⟩ | ⟨g,cap,cur,h1,_,_,h2,_⟩
   ·exact⟨none,0,by rw[h1,h2],zx⟩
   ·exact⟨_,_,h1,h2⟩
  obtain⟨p',c',rfl,hc'⟩:=hv;have yZ:Src P i.size t (.slice p 0 c) 0 [] w:=by
   cases p with
   | none=>exact Src.ofNil w ht c
   | some ad=>exact Src.ofSlice w ht ad 0 c [] zw (fun j u hu=>by simp at hu) (fun u hu=>by simp at hu)
  have hrun:=run_append_nothing (P:=P) w t t o.type e i ht hi p' l.length c' hc' _ yZ;rw[if_pos (show Region.wanted o (yielded ops a.tmps)=true by simp[Region.wanted,hgd])];unfold Oper.wp;simp[execOp,ho,resolve,invoke,builtin,hs,hx,hrun,Result.andThen];rw[List.append_nil]at h;exact h p' c' w hown (AR _ _) fun _ _ _=>rfl
 ·have hbytes:(l.length+m)*bytes<=140737488355328:=by
   have h:(l.length+m)*bytes<=1000000000*1000:=Nat.mul_le_mul zx G4;omega
  obtain⟨t0,Ib⟩: ∃ t0,r[0]?=some t0:=⟨_,A8 zx⟩;obtain⟨b,of,rfl,_⟩:=hr 0 t0 Ib;refine step_append_lies w hgd s x t ho B e i z 1 bytes ht hi hz hsize hby hzs hsz v _ _ hs hown (zm b of) m c (r.map .string) hx (by simp[XY]) (fun j u hu=>?_) (fun u hu=>?_) hm (by unfold maxLen;omega) hbytes hB _ rfl fun g cap w1 h2 h3 h4 h5=>?_
  ·rw[FK,QP]at hu;obtain⟨t,h1,rfl⟩:=hu;obtain⟨b',o',e,h2⟩:=hr j t h1;cases e;rw[Addr.add_lit];exact h2
  ·obtain⟨t,_,rfl⟩:=List.mem_map.1 hu;rfl
  ·refine h _ _ w1 ?_ ((AR B w).grown h3 hB fun k hk=>(hown.lt k hk).1) h3.block;rw[JS,XY,List.map_append];exact h2
def Zyd {g:Nat}(hg:B<=g)(h:w.heap[g]?=some (.cells #[] e (0,0))):w.ownsRow B e 1 (.slice (Qb g 0) 0 0) ([]:List ByteArray).length (([]:List ByteArray).map .string):=
 ⟨rfl,.inr ⟨g,0,#[],rfl,hg,h,EO _,by unfold maxLen;omega,rfl,rfl⟩⟩
def Z52 {p:Option Addr}{c:Nat}{l:List ByteArray}(h:w.ownsRow B e 1 (.slice p n c) l.length (l.map .string))(hl: ∀ t,t∈l->t.size<1000000000):n=l.length/\ ∀ i t,l[i]?=some t->t.size<1000000000/\ ∃ b o,p=some (zm b o)/\b<w.heap.size/\w.cell? (zm b (o+i))=some (.string t):=by
 rcases h.2 with⟨h1,h2⟩ | ⟨g,cap,cur,h1,h2,h3,h4,h5,h6,h7⟩
 ·cases h1;exact⟨h2.symm,fun i t hi=>by rw[M9 h2]at hi;simp at hi⟩
 ·cases h1;refine⟨rfl,fun i t hi=>⟨hl t<|Ej hi,g,0,rfl,?_,?_⟩⟩
  ·rcases Qp g w.heap.size with h | h
   ·exact h
   ·rw[Zj h]at h3;cases h3
  ·have Ye:=(DW.1 hi).1;rw[cell_of_row w g _ cur e (0,0) h3,Gx,<- Qq]
   have:(cur.toList.take<|l.length*1)[i]?=(l.map Value.string)[i]?:=by rw[h7]
   rw[List.getElem?_take,if_pos zx,FK,hi]at this;exact this
def Zt7 {v:Value}{vs:List Value}(h:w.ownsRow B e 1 v n vs)(o:Obj):(w.alloc o).ownsRow B e 1 v n vs:=Zt6 h fun k hk=>Ah w o k (h.lt k hk).2
end Go.W
namespace Go.P
variable {rv ids:List ByteArray}{Aa:Int}{xs:List Bk}{ps:List Dk}
def Z7t (h:IQ rv ids Aa xs ps=6):IQ [] ids Aa xs ps=6:=by
 unfold IQ at*;rw[if_neg (fun h=>by obtain⟨_,_,h⟩:=jf.1 h;cases h)];split at h
 ·cases h
 ·exact h
def Z7u {t:ByteArray}(h:t∈ids)(h':t∈rv):IQ rv ids Aa xs ps=3:=if_pos<|jf.2 ⟨t,h,h'⟩
def Z1d {a:Nat->Addr}{w:World}{p:Option Addr}{c:Nat}{zs:List (Int×Int×ByteArray)}(V:D9)(CL:Gg)(h:rJ w p zs)(hl:zs.length<140737488355328)(G:Oq a w)(E:IL a w):Calls prog 4 #[.slice p zs.length c] w fun e w'=>e= .returned (.bool true)/\Bl w w':=by
 have CT:=AC<|Z35 (c:=c) h hl G.sent E;have CA:=AC fun u (hu:Bl w u)=>Zww V CL (G.below hu) (E.below hu);have CN:=AC fun u (hu:Bl w u) {L pb nb cb key bs}=>Zt1 (L:=L) (pb:=pb) (nb:=nb) (cb:=cb) (key:=key) (bs:=bs) V CL (G.sent.below hu) (E.below hu);have CV:=AC fun u (hu:Bl w u) (key:ByteArray) (hk:key.size<1000000000) (l:By) (hl:l.length<1000000000)=>Zri V CL (G.sent.below hu) (E.below hu) hk hl;have CG:=AC<|AJ V<|AJ CL fun u (hu:Bl w u)=>G.below hu;clear h G E V CL;go_in
 go_wp2_with fail
 refine CT.out.mono ?_;rintro e w1 (⟨rfl,rfl⟩ | ⟨rfl,hk,hn,hb1⟩)
 ·clear CT CA CN CV CG;go_wp2
  go_ret
  exact⟨rfl,AR _ _⟩
 have B1:=AC hb1;have HK:=AC<|AJ hk hn;clear hk hn hb1 CT;go_wp2_with fail
 refine(CA.out _ B1.out).mono ?_;rintro e w2 ⟨rfl,hb2⟩;obtain⟨pb,nb,cb,pp,np,cp,key,Aa,pr,nr,cr,bs,ps,rs,hw⟩:=HK.out.1.chs HK.out.2 hb2;have B2:=tr B1 hb2;have HW:=AC hw;have CX:=AC<|CN.out w2 B2.out hw.b0 hw.k0 hw.eb hw.lb hw.hb hw.rb hw.gk;clear hw hb2 HK CA CN B1;go_wp2_with fail
 refine CX.out.mono ?_;rintro e w3 ⟨⟨_,rfl⟩ | ⟨x,xs,rfl,rfl⟩,hb3⟩
 ·have B3:=tr B2 hb3;clear CX CV CG HW hb3;go_wp2
  go_ret
  exact⟨rfl,B3.out⟩
 have B3:=AC hb3;clear hb3 CX;by_cases hT:LQ key x=0/\Up (Gs key x xs)=0
 rotate_left
 ·rw[I8 hT];generalize Ji key x=t1 at*;generalize Ig (Gs key x xs)=t2 at*;clear CV CG HW;go_wp2
  go_ret
  exact⟨rfl,B2.out.trans<|B3.out.mono B2.out.size⟩
 rw[Nv hT];obtain⟨g,NU,Aq⟩:=Ygz hT.1 hT.2 HW.out.ins;have Yg:key.size<1000000000:=by have:=HW.out.gk;omega
 have CX:AF (∀ v,Bl w2 v-> ∀ (pq:Option Addr) (nq cq:Nat) (rv:List ByteArray),rv.length=nq->IV v pq rv->nq<1000000000->Calls prog 9 #[.string key,.string<|Ig<|Gs key x xs,.agg #[zo Aa,zn,.slice pq nq cq],.slice pp np cp] v fun e w'=>e= .returned (.tuple #[.int .i64<|IQ rv (Eu key<|(x::xs).map A7) Aa (x::xs) ps,zo 0])/\Bl v w'):=⟨fun v hv pq nq cq rv hn ht hq=>by
  subst hn
  have:=Zyh CG.out.1 CG.out.2.1 (CG.out.2.2 v (tr B2 hv).out) hv.size g NU Aq (Aa:=Aa) (by have:=HW.out.gc;exact⟨by have:=this.1;omega,by have:=this.2;omega⟩) (cq:=cq) (cp:=cp) ht hq (HW.out.rp.carry fun _ _ _ q=>q.carry (Bq hv lr) lr) HW.out.gp
  rw[WY,HW.out.ep]at this;exact this⟩
 have CY:AF (∀ v,Bl w2 v->Calls prog 11 #[.string key,.string<|Ig<|Gs key x xs] v fun e w'=> ∃ p1 n1 c1 p2 c2,e= .returned (.tuple #[.slice p1 n1 c1,.slice p2 nb c2,zo 0])/\IV w' p2 (Eu key<|(x::xs).map A7)/\Bl v w'):=⟨fun v hv=>by
  have:=CV.out v (tr B2 hv).out key Yg _ NU
  rw[WY]at this;refine this.mono ?_;rintro e w' ⟨v1,v2,n,rfl,hV,hb⟩;obtain⟨rfl,⟨p1,n1,c1,rfl⟩,p2,c2,rfl,ht⟩:=hV.sums g;exact⟨p1,n1,c1,p2,c2,by rw[<- HW.out.eb];rfl,ht,hb⟩⟩
 clear CV CG g NU Aq hT Yg;have HI:AF ((Eu key<|(x::xs).map A7).length=nb):=⟨by rw[Zk3,Dj];exact HW.out.eb⟩;have hlb:=HW.out.lb;have zH:=HW.out.lr;generalize Eu key ((x::xs).map A7)=ids at*;generalize Ji key x=t1 at*;generalize Ig (Gs key x xs)=t2 at*;obtain⟨k0,k1,k2,k3,k5⟩:=HW.out.at B3.out;have HC:=AC fun v (hv:Bl w2 v)=>HW.out.at hv;have HR:AF (∀ v,Bl w2 v->IV v pr rs):=⟨fun v hv=>HW.out.rr.below hv⟩;have jE:AF (rs.length=nr):=⟨HW.out.er⟩;clear HW;go_wp2_with fail
 have S0:=AJ k1<|AJ k2 k3;go_region_held3 (fun u=>u.cell? (zm w.heap.size 1)=some (.slice pp np cp)/\u.cell? (zm w.heap.size 2)=some (.string key)/\u.cell? (zm w.heap.size 3)=some (zo Aa)) (first | exact S2 | exact S0) (first
  | (go_at_call 9;refine(CX.out _ B3.out.drew none 0 0 [] rfl (fun i t h=>by simp at h) zx).mono ?_;rintro e w4 ⟨rfl,hb0⟩;have hb4:=B3.out.drew.trans<|hb0.mono B3.out.drew.size;have S2:_:=(fun h:_/\_/\_/\_/\_=>AJ h.2.1 (AJ h.2.2.1 h.2.2.2.1))<|HC.out w4 hb4))
 have B4:=AC hb4;obtain⟨_,k1,k2,k3,k5⟩:=HC.out w4 hb4;have HV:AF (IQ rs ids Aa (x::xs) ps=6->IQ [] ids Aa (x::xs) ps=6):=⟨Z7t⟩;generalize IQ [] ids Aa (x::xs) ps=va at*;clear S0 S2 hb0 hb4 k0 B3;go_wp2_with fail
 have S0:=AJ k1<|AJ k2<|AJ k3 k5;go_region_held3 (fun u=>u.cell? (zm w.heap.size 1)=some (.slice pp np cp)/\u.cell? (zm w.heap.size 2)=some (.string key)/\u.cell? (zm w.heap.size 3)=some (zo Aa)/\u.cell? (zm w.heap.size 5)=some (.slice pr nr cr)) (first | exact S2 | exact S0) (first
  | (go_at_call 9;refine(CX.out _ B4.out.drew _ _ _ _ jE.out (HR.out _ B4.out.drew) zx).mono ?_;rintro e w5 ⟨rfl,hb0⟩;have BX:=B4.out.drew.trans<|hb0.mono B4.out.drew.size;have S2:_:=(HC.out w5 BX).2))
 have B5:=AC BX;obtain⟨k0,k1,k2,k3,k5⟩:=HC.out w5 BX;clear S0 S2 hb0 BX B4;have HU:AF (∀ t l,t∈ids->t∈l->IQ l ids Aa (x::xs) ps=3):=⟨fun t l h h'=>Z7u h h'⟩;generalize IQ rs ids Aa (x::xs) ps=vb at*;have yS:(vb=6/\va=6)\/vb≠6:=by
  by_cases h:vb=6
  ·exact .inl ⟨h,HV.out h⟩
  ·exact .inr h
 clear HV;rcases yS with⟨rfl,rfl⟩ | mQ;all_goals
  go_wp2_with fail
  refine(CY.out w5 B5.out).mono ?_;rintro e w6 ⟨p1,n1,c1,p2,c2,rfl,ht,hb0⟩;have Gp:=B5.out.trans<|hb0.mono B5.out.size;have B6:=AC Gp;have HT:=AC ht;clear k0 k1 k2 k3 k5;obtain⟨k0,_⟩:=HC.out w6 Gp;clear ht hb0 Gp CY B5;go_wp2
  go_loopw [14] (fun iv wr=>Yjp w6 nb iv wr) (fun iv _=>nb-(intOf iv).toNat)
  case atStart=>exact⟨0,zx,rfl,AR _ _⟩
  case round=>
   obtain⟨k,hk,rfl,Af⟩:=hrel;have HK:=AC Af;have hb:=B6.out.trans<|Af.mono B6.out.size;have HB:=AC hb;clear k0;obtain⟨k0,k1,k2,k3,k5⟩:=HC.out wr hb;by_cases hlt:k<nb
   ·have OP:k<ids.length:=by rw[HI.out];exact hlt
    obtain⟨H7,b,o,rfl,hbl,h0⟩:=HT.out k _<|A8 OP;have HM:AF (ids[k]∈ids):=⟨QO OP⟩;have h0':=Cb h0 Af;clear Af hb;generalize ids[k]=t at*;go_wp2_with fail
    refine Zwh ?_;have HS:=AC fun u (hu:Bl wr u)=>AJ (Cb k5 hu) (Cb h0' hu);have B0:Bl wr wr.drew:=(AR _ wr).drew;have AY:=HS.out _ B0;refine Vj 12 (fun u=>u.cell? (zm w.heap.size 5)=some (.slice pr nr cr)/\u.cell? (zm b (o+k))=some (.string t)) zt ?_;refine tz 1 (zq w.heap.size 0) AY (hy:=fun _ ⟨s0,s1⟩=>by go_simp) ?_;try simp only[zz]
    refine tz 2 (zq w.heap.size 0) AY (hy:=fun _ ⟨s0,s1⟩=>by go_simp) ?_;try simp only[zz]
    refine tz 3 (zq w.heap.size 5) AY (hy:=fun _ ⟨s0,s1⟩=>by go_simp) ?_;try simp only[zz]
    refine tz 4 (.slice pr nr cr) AY (hy:=fun _ ⟨s0,s1⟩=>by go_simp) ?_;try simp only[zz]
    refine tz 6 (.slice (Qb b o) nb c2) AY (hy:=fun _ ⟨s0,s1⟩=>by go_simp) ?_;try simp only[zz]
    refine tz 7 (zo (k:Int)) AY (hy:=fun _ ⟨s0,s1⟩=>by go_simp) ?_;try simp only[zz]
    refine tz 8 (zq b<|o+k) AY (hy:=fun _ ⟨s0,s1⟩=>by go_simp) ?_;try simp only[zz]
    refine tz 9 (.string t) AY (hy:=fun _ ⟨s0,s1⟩=>by go_simp) ?_;try simp only[zz]
    obtain⟨W0,hW0⟩: ∃ W0,AF (wr.drew=W0):=⟨_,⟨rfl⟩⟩;rw[hW0.out]at B0⊢;clear AY;have HX:AF (∀ u,Bl wr u-> ∀ i t,rs[i]?=some t-> ∃ b o,pr=some (zm b o)/\u.cell? (zm b (o+i))=some (.string t)):=⟨fun u hu i t h=>by
     obtain⟨_,b,o,e,_,h⟩:=HR.out u (tr HB hu).out i t h;exact⟨b,o,e,h⟩⟩
    have HZ:AF (∀ y,y∈rs++[t]->y.size<1000000000):=⟨fun y hy=>by
     rcases Aj.1 hy with h | h
     ·obtain⟨i,hi,rfl⟩:=List.getElem_of_mem h;exact(HR.out _ HB.out i _<|A8 hi).1
     ·rw[Bh.1 h];exact H7⟩
    refine lU 0 10 (h:=fun K' hK'=>?_) (h':=fun K' hK'=>?_);focus
     go_simp;have QY:=(AO.new W0 #[] 9).lt;have bB:=B0.alloc B0.size<|.cells #[] 9;have OB:=Zyd B0.size<|Hw W0<|.cells #[] 9;generalize W0.alloc (.cells #[] 9)=WA at*;refine hK'.out _ _ (HS.out _ bB) ?_;try simp only[zz]
     refine lU 5 10 (h:=fun K' hK'=>?_) (h':=fun K' hK'=>?_);focus
      refine um gB rfl (.tmp 118) (.tmp 122) rfl rfl OB rfl jE.out (HX.out _ bB) (by simp;omega) bB.size fun p5 c5 WC OC b5 kC=>?_;have bC:=bB.trans b5;refine hK'.out _ _ (HS.out _ bC) ?_;try simp only[zz]
      refine rz 10 (h:=fun K' hK'=>?_);go_simp;have bD:=bC.alloc bC.size<|.cells #[.string t] 9;have hC:AO _ WC.heap.size #[.string t] 9:=AO.new WC _ _;have OC:=Zt7 OC<|.cells #[.string t] 9;generalize WC.alloc (.cells #[.string t] 9)=WD at*;refine hK'.out _ _ (HS.out _ bD) ?_;try simp only[zz]
      simp only[JU,JC,Gx]at OC⊢
     rotate_left
     focus
      go_simp;have uY:=bB.alloc bB.size<|.cells #[.string t] 9;have hC:AO _ WA.heap.size #[.string t] 9:=AO.new WA _ _;have OB:=Zt7 OB<|.cells #[.string t] 9;generalize WA.alloc (.cells #[.string t] 9)=WB at*;refine hK'.out _ _ (HS.out _ uY) ?_;try simp only[zz]
      refine rz 5 (h:=fun K' hK'=>?_);refine um gB rfl (.tmp 118) (.tmp 122) rfl rfl OB rfl jE.out (HX.out _ uY) (by simp;omega) uY.size fun p5 c5 WC OC b5 kC=>?_;have bD:=uY.trans b5;have hC:=hC.of<|kC _ hC.lt fun e=>Nat.ne_of_gt QY (Gw e);refine hK'.out _ _ (HS.out _ bD) ?_;try simp only[zz]
      simp only[JU,JC,Gx]at OC⊢
    rotate_left 2
    focus
     go_simp;have bA:=B0.alloc B0.size<|.cells #[.string t] 9;have hC:AO _ W0.heap.size #[.string t] 9:=AO.new W0 _ _;generalize W0.alloc (.cells #[.string t] 9)=WA at*;refine hK'.out _ _ (HS.out _ bA) ?_;try simp only[zz]
     refine rz 0 (h:=fun K' hK'=>?_);go_simp;have QY:=hC.lt;have bB:=bA.alloc bA.size<|.cells #[] 9;have hC:=hC.alloc<|.cells #[] 9;have OB:=Zyd bA.size<|Hw WA<|.cells #[] 9;generalize WA.alloc (.cells #[] 9)=WB at*;refine hK'.out _ _ (HS.out _ bB) ?_;try simp only[zz]
     refine rz 5 (h:=fun K' hK'=>?_);refine um gB rfl (.tmp 118) (.tmp 122) rfl rfl OB rfl jE.out (HX.out _ bB) (by simp;omega) bB.size fun p5 c5 WC OC b5 kC=>?_;have bD:=bB.trans b5;have hC:=hC.of<|kC _ hC.lt fun e=>Nat.ne_of_lt QY (Gw e);refine hK'.out _ _ (HS.out _ bD) ?_;try simp only[zz]
     simp only[JU,JC,Gx]at OC⊢
    all_goals
     refine rz 11 (h:=fun K' hK'=>?_);refine um gB rfl (.tmp 123) (.tmp 128) rfl rfl OC rfl (r:=[t]) rfl (fun i t' h=>?_) (by rw[jE.out];omega) bD.size fun p6 c6 WE OE b6 _=>?_
     ·cases i with
      | zero=>cases h;exact⟨_,0,rfl,hC.cell 0⟩
      | succ i=>cases h
     have bE:=bD.trans b6;refine hK'.out _ _ (HS.out _ bE) ?_;try simp only[zz]
     refine Q0 (h:=fun K' hK'=>?_);go_simp;refine hK'.out _ _ ?_;try simp only[zz]
     refine dz (h:=?_);have hE:=HB.out.trans<|bE.mono HB.out.size;have BE:=AC hE;have BF:=AC<|HK.out.trans<|bE.mono HK.out.size;obtain⟨_,k1,k2,k3,_⟩:=HC.out WE hE;have CZ:=AC<|CX.out WE.drew hE.drew p6 (rs.length+1) c6 (rs++[t]) zw (fun i y h=>(Z52 OE HZ.out).2 i y h) (by rw[jE.out];omega);rw[HU.out t _ HM.out zw]at CZ;clear OE OC bE b6 hE hC OB kC b5 bD bB QY HS HX HZ;go_wp2_with fail
     have S0:=AJ k1<|AJ k2 k3;go_region_held3 (fun u=>u.cell? (zm w.heap.size 1)=some (.slice pp np cp)/\u.cell? (zm w.heap.size 2)=some (.string key)/\u.cell? (zm w.heap.size 3)=some (zo Aa)) (first | exact S2 | exact S0) (first
      | (go_at_call 9;refine mq CZ.out ?_;rintro w7 hb0;have G6:=BE.out.drew.trans<|hb0.mono BE.out.drew.size;have S2:_:=(fun h:_/\_/\_/\_/\_=>AJ h.2.1 (AJ h.2.2.1 h.2.2.2.1))<|HC.out w7 G6))
     have HF:=AC<|BF.out.drew.trans<|hb0.mono BF.out.drew.size;clear S0 S2 hb0 G6;go_wp2
     exact⟨⟨k+1,zx,by go_num,HF.out⟩,by simp[intOf];omega⟩
   ·obtain rfl:k=nb:=zx
    clear Af hb;go_wp2
    go_ret
    exact⟨rfl,B2.out.trans<|HB.out.mono B2.out.size⟩
end Go.P
