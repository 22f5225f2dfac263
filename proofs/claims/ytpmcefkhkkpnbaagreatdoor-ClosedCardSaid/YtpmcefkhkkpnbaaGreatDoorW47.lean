import Derived.Test.YtpmcefkhkkpnbaaGreatDoorW18
import Derived.Test.YtpmcefkhkkpnbaaGreatDoorRows
import Derived.Lib.LaidU8T
import Derived.ProofKit
import Derived.LaidMore
import Derived.OpenShut
import Derived.Stop.Joined
import Derived.Stop.LaidErr
import Derived.JoinedOf
set_option linter.all false
set_option maxRecDepth 100000
set_option maxHeartbeats 8000000
open Go.Proofs Go.RowKit Go.W Tryz Go.Proofs.YtpmcefkhkkpnbaaGreatDoor
namespace Go.W
section
open Go.ChangeShapes Go.WideShapes Go.ChangeAt Go.Lib
variable {W:Bb}{k:IntKind}
def rt:(prog.cutTypes.find? (·.1== "internal/reflectlite.rtype")).map (·.2)=some 245:=zt
def Z9z:((List.range 473).filter fun t=>prog.rowNamed t [101,114,114,111,114])=[57]:=zt
def Zrz:prog.types.size=473:=zt
def Z0i:prog.globalNamed "errors.errorType" =some 10:=zt
def Z78:prog.cellsOf 432=1:=zt
def fV:prog.cellsOf 9=1:=zt
def Yj4 (u:TypeId)(hu:prog.typeName? 3 u=some "*errors.errorString"):u=430:=
 typeName_ptr_named (nm:= "errors.errorString") zt zt zu u hu
def laidMet.one {P:Program}{l:List (String×DataW Unit)}{x:String×DataW Unit}(h:laidMet P l W)(hx:x∈l):laidMet P [x] W:=by
 induction l with
 | nil=>cases hx
 | cons y r ih=>
  rcases Ak.1 hx with rfl | UH
  .obtain⟨ps,hv,QW,IA⟩:=h;obtain⟨n,d⟩:=x;obtain⟨g,t,cs,fuel,p,q,h1,h2,h3,h4,_,rfl⟩:=hv;exact⟨MemPlace.row (zm g 0) cs.size++p++[],⟨g,t,cs,fuel,p,[],h1,h2,h3,h4,rfl,rfl⟩,by simpa using List.Nodup.sublist (List.sublist_append_left _ _) QW,fun b off hm=>IA b off (by rw[List.append_nil]at hm;exact Md _ hm)⟩
  .exact ih h.tail UH
def Jk {n:String}{text:List UInt8}{g:Nat}(h:laidMet prog [(n,.iface "*errors.errorString" (.ptr<|.agg [.lit<|.string text]))] W)
  (hg:prog.globalNamed n=some g) (ht:(prog.globals[g]?).map (·.type)=some 57):
  ∃ (a:Addr) (s:Ay),W.cell? (zm g 0)=some (.iface 430<|.pointer<|some a)/\W.cell? a=some (.string s)/\s.data.toList=text/\ ∃ c t,W.heap[a.block]?=some (.cells c t (0,0)):=by
 obtain⟨ps,⟨g0,t0,cs0,f0,p0,q0,hg0,Ib,hv0,zZ,_,e0⟩,_,IA⟩:=h;obtain rfl:=Gw<|hg.symm.trans hg0;obtain rfl:=Gw<|ht.symm.trans Ib;subst e0;obtain⟨l0⟩:=cs0;have yD: ∀ u v,l0=[.iface u v]->Value.okWide prog W .any 0 u v:=fun u v e=>by
  subst e;exact(IA g 0 (by simp[MemPlace.row])).2 u v (by simpa using World.var?_cell hg0 hv0 0)
 obtain⟨a0,s0,rfl,hc0,hs0,_,rfl⟩:=errorString_of_trod underlying57 Yj4 underlying430 underlying432 rfl rfl underlying9 Z78 fV zZ yD;obtain⟨c0,t0,hb0⟩:=(IA a0.block a0.off (by simp[MemPlace.row])).1;exact⟨a0,s0,by simpa using World.var?_cell hg0 hv0 0,hc0,hs0,c0,t0,hb0⟩
section
variable {P:Program} {W:Bb} {nm:String} {g:Nat} {t e n:Nat}
def pu {l:List Ay}(h:VarReads P W nm (.agg (l.map fun s=> .lit (.string s.data.toList))))(hg:P.globalNamed nm=some g)(hy:(P.globals[g]?).map (·.type)=some t)(ht:P.underlying t=some (.array n e))(he:P.underlying e=some .string)(hc:P.cellsOf e=1)(hn:l.length=n): ∀ (i:Nat) (s:Ay),l[i]?=some s->W.cell? (zm g i)=some (.string s):=by
 intro i s hi;obtain⟨g',t',cs,fuel,p,h1,h2,h3,h4⟩:=h;obtain rfl:=Gw<|hg.symm.trans h1;obtain rfl:=Gw<|hy.symm.trans h2;obtain⟨WQ,d,q,hd,hr⟩:=array_elem ht h4 i (by rw[<- hn];exact(DW.1 hi).1);rw[hc]at hr;obtain⟨s',e1,e2,_⟩:=DataW.trod_string he hr;rw[FK,hi]at hd;have e3:s=s':=by
  have:=(Gw hd).trans (Prod.mk.inj e2).1
  injection this with this;injection this with this;cases s;cases s';simpa using this
 subst e3
 have:=World.var?_cell hg h3 i
 rw[this,<- Qq];have e4:=congrArg (·[0]?) e1;simpa[List.getElem?_take,List.getElem?_drop]using e4
def ZO {l:List Int}(h:VarReads P W nm (tabData k l))(hg:P.globalNamed nm=some g)(hy:(P.globals[g]?).map (·.type)=some t)(ht:P.underlying t=some (.array n e))(he:P.underlying e=some (.int k))(hc:P.cellsOf e=1)(ze:P.cellsOf t=n): ∀ (i:Nat) (z:Int),l[i]?=some z->W.cell? (zm g i)=some (.int k z):=by
 intro i z hi;obtain⟨g',t',cs,fuel,p,h1,h2,h3,h4⟩:=h;obtain rfl:=Gw<|hg.symm.trans h1;obtain rfl:=Gw<|hy.symm.trans h2;have hcs:=cells_of_tab ht he hc ze h4;rw[World.var?_cell hg h3 i,<- Qq,hcs,FK,hi];rfl
def Zvz {fs:Array Field}{l:List (Int×Int)}(h:VarReads P W nm (.agg (l.map fun p=> .agg ([p.1,p.2].map fun z=> .lit (.int k z)))))(hg:P.globalNamed nm=some g)(hy:(P.globals[g]?).map (·.type)=some t)(ht:P.underlying t=some (.array n e))(he:P.underlying e=some (.struct fs))(hf: ∀ (i:Nat) (f:Field),fs[i]?=some f->P.underlying f.type=some (.int k)/\f.offset=i/\P.cellsOf f.type=1)(h2:fs.size=2)(hc:P.cellsOf e=2)(hn:l.length=n): ∀ (i:Nat) (p:Int×Int),l[i]?=some p->W.cell? (zm g (2*i))=some (.int k p.1)/\W.cell? (zm g (2*i+1))=some (.int k p.2):=by
 intro i p hi;obtain⟨g',t',cs,fuel,q,h1,h2',h3,h4⟩:=h;obtain rfl:=Gw<|hg.symm.trans h1;obtain rfl:=Gw<|hy.symm.trans h2';obtain⟨WQ,d,q,hd,hr⟩:=array_elem ht h4 i (by rw[<- hn];exact(DW.1 hi).1);rw[FK,hi]at hd;obtain rfl:=Gw hd;rw[hc]at hr;have hcs:=ints_of_struct he hf (by rw[hc,h2]) hr;have e0:=congrArg (·[0]?) hcs;have e1:=congrArg (·[1]?) hcs;simp only[List.getElem?_take,List.getElem?_drop]at e0 e1;constructor
 .rw[World.var?_cell hg h3<|2*i,<- Qq];simpa[Nat.mul_comm]using e0
 .rw[World.var?_cell hg h3<|2*i+1,<- Qq];simpa[Nat.mul_comm]using e1
end
def gU:DataW Unit->List Int
 | .agg ds=>ds.map fun d=>match d with | .lit (.int _ z)=>z | _=>0
 | _=>[]
def xx:U8Extra prog Tryz.ES:=⟨zt,zt,zt,zt,zt,zt,zt⟩
def Z8h:Rows.laid_unicode_utf8_first=firstData:=zt
def Yjs:(Rows.laid_unicode_utf8_acceptRanges:DataW Unit)=acceptData:=zt
def Yju:(Rows.laid_warrant_warrant_guardMarks:DataW Unit)= .agg (MV.map fun s=> .lit (.string s.data.toList)):=zt
def Z8i:(Rows.laid_warrant_warrant_marks:DataW Unit)= .agg (Rx.map fun s=> .lit (.string s.data.toList)):=zt
def Yjw:List (Int×Int):=[(34,34),(92,92),(110,10),(116,9),(114,13)]
def Yjt:(Rows.laid_warrant_warrant_escapes:DataW Unit)= .agg (Yjw.map fun p=> .agg ([p.1,p.2].map fun z=> .lit (.int .u8 z))):=zt
def Z8j:(Rows.laid_warrant_sums_start:DataW Unit)=tabData .u32 (pU.map Int.ofNat):=zt
def Z8k:(Rows.laid_warrant_sums_steps:DataW Unit)=tabData .u32 (ZK.map Int.ofNat):=zt
def Zz7:(Rows.laid_math_bits_deBruijn32tab:DataW Unit)=tabData .u8 (gU Rows.laid_math_bits_deBruijn32tab):=zt
def Yfo:(Rows.laid_math_bits_deBruijn64tab:DataW Unit)=tabData .u8 (gU Rows.laid_math_bits_deBruijn64tab):=zt
def Yjv:gU Rows.laid_math_bits_deBruijn64tab=pZ.map Int.ofNat:=zt
def Zjh (h:laidMetH prog Rows.closedRow.laid W): ∃ a,Yjd a W/\IL a W/\ZN W/\24<=W.heap.size:=by
 have h':laidMet prog [("math/bits.deBruijn32tab",Rows.laid_math_bits_deBruijn32tab),("math/bits.deBruijn64tab",Rows.laid_math_bits_deBruijn64tab),("internal/strconv.uint64pow10",Rows.laid_internal_strconv_uint64pow10),("unicode/utf8.acceptRanges",Rows.laid_unicode_utf8_acceptRanges),("strconv.ErrRange",Rows.laid_strconv_ErrRange),("strconv.ErrSyntax",Rows.laid_strconv_ErrSyntax),("warrant/sums.start",Rows.laid_warrant_sums_start),("warrant/sums.steps",Rows.laid_warrant_sums_steps),("warrant/warrant.guardMarks",Rows.laid_warrant_warrant_guardMarks),("warrant/warrant.marks",Rows.laid_warrant_warrant_marks),("warrant/warrant.escapes",Rows.laid_warrant_warrant_escapes),("warrant/warrant.ErrWord",Rows.laid_warrant_warrant_ErrWord),("warrant/warrant.ErrForm",Rows.laid_warrant_warrant_ErrForm),("warrant/warrant.ErrDeep",Rows.laid_warrant_warrant_ErrDeep),("warrant/warrant.ErrLimit",Rows.laid_warrant_warrant_ErrLimit),("warrant/warrant.ErrFree",Rows.laid_warrant_warrant_ErrFree),("warrant/warrant.ErrShort",Rows.laid_warrant_warrant_ErrShort),("warrant/warrant.ErrBytes",Rows.laid_warrant_warrant_ErrBytes),("warrant/warrant.ErrKey",Rows.laid_warrant_warrant_ErrKey),("warrant/warrant.ErrSealed",Rows.laid_warrant_warrant_ErrSealed),("warrant/warrant.ErrTag",Rows.laid_warrant_warrant_ErrTag),("unicode/utf8.first",Rows.laid_unicode_utf8_first)] W/\handlesMet prog [("errors.errorType",Rows.laid_errors_errorType)] W:=h;obtain⟨hl,hh⟩:=h';obtain⟨name,u,ty,e1,e2,e3,e4,e5⟩:=hh _<|Bh.2 rfl;have en:name=[101,114,114,111,114]:=(Gw e1).symm;subst en;obtain rfl:=Gw<|rt.symm.trans e2;have hm:ty∈(List.range 473).filter fun t=>prog.rowNamed t [101,114,114,111,114]:=List.mem_filter.2 ⟨List.mem_range.2 (by rw[<- Zrz];exact e3),e4⟩;rw[Z9z]at hm;obtain rfl:=Bh.1 hm;have mW:typeHandle prog 57= zq 24 57:=zt
 rw[mW]at e5;have zW:W.cell? (zm 10 0)=some (.iface 245<|.agg #[zq 24 57]):=by simpa using World.var?_cell Z0i e5 0
 obtain⟨a0,s0,e0,u0,x0,r0⟩:=Jk (laidMet.one hl (x:=("warrant/warrant.ErrWord",Rows.laid_warrant_warrant_ErrWord)) zp) zt zt;obtain⟨a1,s1,e1,u1,x1,r1⟩:=Jk (laidMet.one hl (x:=("warrant/warrant.ErrForm",Rows.laid_warrant_warrant_ErrForm)) zp) zt zt;obtain⟨a2,s2,e2,u2,x2,r2⟩:=Jk (laidMet.one hl (x:=("warrant/warrant.ErrDeep",Rows.laid_warrant_warrant_ErrDeep)) zp) zt zt;obtain⟨a3,s3,e3,u3,x3,r3⟩:=Jk (laidMet.one hl (x:=("warrant/warrant.ErrLimit",Rows.laid_warrant_warrant_ErrLimit)) zp) zt zt;obtain⟨a4,s4,e4,u4,x4,r4⟩:=Jk (laidMet.one hl (x:=("warrant/warrant.ErrFree",Rows.laid_warrant_warrant_ErrFree)) zp) zt zt;obtain⟨a5,s5,e5,u5,x5,r5⟩:=Jk (laidMet.one hl (x:=("warrant/warrant.ErrShort",Rows.laid_warrant_warrant_ErrShort)) zp) zt zt;obtain⟨a6,s6,e6,u6,x6,r6⟩:=Jk (laidMet.one hl (x:=("warrant/warrant.ErrBytes",Rows.laid_warrant_warrant_ErrBytes)) zp) zt zt;obtain⟨a7,s7,e7,u7,x7,r7⟩:=Jk (laidMet.one hl (x:=("warrant/warrant.ErrKey",Rows.laid_warrant_warrant_ErrKey)) zp) zt zt;obtain⟨a8,s8,e8,u8,x8,r8⟩:=Jk (laidMet.one hl (x:=("warrant/warrant.ErrSealed",Rows.laid_warrant_warrant_ErrSealed)) zp) zt zt;obtain⟨a9,s9,e9,u9,x9,r9⟩:=Jk (laidMet.one hl (x:=("warrant/warrant.ErrTag",Rows.laid_warrant_warrant_ErrTag)) zp) zt zt;obtain⟨_,_,yn,_⟩:=Jk (laidMet.one hl (x:=("strconv.ErrSyntax",Rows.laid_strconv_ErrSyntax)) zp) zt zt;obtain⟨_,_,rg,_⟩:=Jk (laidMet.one hl (x:=("strconv.ErrRange",Rows.laid_strconv_ErrRange)) zp) zt zt;have hu:=utf8Tabs_of_readsT (U8Types.of196 Tryz.Ik) xx (Z8h▸(Go.Lib.laidMet.reads hl (n:= "unicode/utf8.first") (d:=Rows.laid_unicode_utf8_first) zp))<|Yjs▸(Go.Lib.laidMet.reads hl (n:= "unicode/utf8.acceptRanges") (d:=Rows.laid_unicode_utf8_acceptRanges) zp);have ho:=pu (t:=401) (Yju▸(Go.Lib.laidMet.reads hl (n:= "warrant/warrant.guardMarks") (d:=Rows.laid_warrant_warrant_guardMarks) zp)) (g:=17) zt zt underlying401 underlying9 fV rfl;have hk:=pu (t:=340) (Z8i▸(Go.Lib.laidMet.reads hl (n:= "warrant/warrant.marks") (d:=Rows.laid_warrant_warrant_marks) zp)) (g:=13) zt zt underlying340 underlying9 fV rfl;have hs:=ZO (t:=273) (Z8j▸(Go.Lib.laidMet.reads hl (n:= "warrant/sums.start") (d:=Rows.laid_warrant_sums_start) zp)) (g:=11) zt zt underlying273 underlying272 zt zt;have ht:=ZO (t:=391) (Z8k▸(Go.Lib.laidMet.reads hl (n:= "warrant/sums.steps") (d:=Rows.laid_warrant_sums_steps) zp)) (g:=15) zt zt underlying391 underlying272 zt zt;have hb:=ZO (t:=193) (Yfo▸(Go.Lib.laidMet.reads hl (n:= "math/bits.deBruijn64tab") (d:=Rows.laid_math_bits_deBruijn64tab) zp)) (g:=16) zt zt underlying193 underlying5 zt zt;have hw:=Wx<|ZO (t:=114) (Zz7▸(Go.Lib.laidMet.reads hl (n:= "math/bits.deBruijn32tab") (d:=Rows.laid_math_bits_deBruijn32tab) zp)) (g:=23) zt zt underlying114 underlying5 zt zt 0 0 rfl;have hx:=Zvz (t:=383) (Yjt▸(Go.Lib.laidMet.reads hl (n:= "warrant/warrant.escapes") (d:=Rows.laid_warrant_warrant_escapes) zp)) (g:=14) zt zt underlying383 underlying382 (fun j f hj=>by
  match j,hj with
  | 0,hj=>cases hj;exact⟨underlying5,rfl,zt⟩
  | 1,hj=>cases hj;exact⟨underlying5,rfl,zt⟩
  | j+2,hj=>simp at hj) rfl zt rfl
 have ne: ∀ (x y:Addr) (s s':Ay) (l l':List UInt8),W.cell? x=some (um s)->s.data.toList=l->W.cell? y=some (um s')->s'.data.toList=l'->decide (l=l')=false->x≠y:=fun x y s s' l l' h1 h2 h3 h4 h5 dD=>by
  subst dD;rw[h1]at h3;cases h3;exact absurd (h2.symm.trans h4)<|of_decide_eq_false h5
 refine⟨fun k=>match k with | 0=>a0 | 1=>a1 | 2=>a2 | 3=>a3 | 4=>a4 | 5=>a5 | 6=>a6 | 7=>a7 | 8=>a8 | _=>a9,⟨?_,?_,?_,?_,?_,?_,?_,?_,?_,?_,hu,⟨_,_,yn⟩,⟨_,_,rg⟩,ho,hk,?_,fun i c hc=>hs i c (by rw[FK,hc];rfl),fun i c hc=>ht i c (by rw[FK,hc];rfl),hb 0 0 rfl,hb 1 1 rfl,hb 3 2 rfl⟩,⟨?_,?_,zW⟩,fun i z h=>hb i z (by rw[Yjv,FK,h];rfl),hw⟩
 .rw[BU _ zu];exact e0
 .rw[BU _ zu];exact e1
 .rw[BU _ zu];exact e2
 .rw[BU _ zu];exact e3
 .rw[BU _ zu];exact e4
 .rw[BU _ zu];exact e5
 .rw[BU _ zu];exact e6
 .rw[BU _ zu];exact e7
 .rw[BU _ zu];exact e8
 .rw[BU _ zu];exact e9
 .intro i c hc;match i,hc with
  | 0,hc=>cases hc;exact(hx 0 _ rfl).1
  | 1,hc=>cases hc;exact(hx 0 _ rfl).2
  | 2,hc=>cases hc;exact(hx 1 _ rfl).1
  | 3,hc=>cases hc;exact(hx 1 _ rfl).2
  | 4,hc=>cases hc;exact(hx 2 _ rfl).1
  | 5,hc=>cases hc;exact(hx 2 _ rfl).2
  | 6,hc=>cases hc;exact(hx 3 _ rfl).1
  | 7,hc=>cases hc;exact(hx 3 _ rfl).2
  | 8,hc=>cases hc;exact(hx 4 _ rfl).1
  | 9,hc=>cases hc;exact(hx 4 _ rfl).2
  | i+10,hc=>simp[xE]at hc
 .intro k hk;have h:k=0\/k=1\/k=2\/k=3\/k=4\/k=5\/k=6\/k=7\/k=8\/k=9:=zx
  rcases h with rfl | rfl | rfl | rfl | rfl | rfl | rfl | rfl | rfl | rfl
  .exact r0
  .exact r1
  .exact r2
  .exact r3
  .exact r4
  .exact r5
  .exact r6
  .exact r7
  .exact r8
  .exact r9
 .intro i j hi hj zP;have h:i=0\/i=1\/i=2\/i=3\/i=4\/i=5\/i=6\/i=7\/i=8\/i=9:=zx
  have h2:j=0\/j=1\/j=2\/j=3\/j=4\/j=5\/j=6\/j=7\/j=8\/j=9:=zx
  rcases h with rfl | rfl | rfl | rfl | rfl | rfl | rfl | rfl | rfl | rfl <;> rcases h2 with rfl | rfl | rfl | rfl | rfl | rfl | rfl | rfl | rfl | rfl;all_goals first
   | exact absurd rfl zP
   | exact ne _ _ _ _ _ _ ‹_› ‹_› ‹_› ‹_› rfl
end
set_option maxRecDepth 100000
set_option maxHeartbeats 8000000
def k10:(Rows.closedRow.inPlace==prog.inPlace 3)=true:=zt
def k11:(Rows.closedRow.unfollowed==prog.unfollowed 3)=true:=zt
def k12:(Rows.closedRow.recurses==prog.recurses 3)=true:=zt
def k13:(Rows.closedRow.named==prog.varsNamed 3)=true:=zt
def Yn3:joinedFacts prog 3 Tryz.f3 Rows.closedSpec Rows.closedRow=true:=by
 simp only[joinedFacts,wx];and_intros
 .as_aux_lemma=>kernel_rfl
 .as_aux_lemma=>kernel_rfl
 .as_aux_lemma=>kernel_rfl
 .as_aux_lemma=>kernel_rfl
 .as_aux_lemma=>kernel_rfl
 .as_aux_lemma=>kernel_rfl
 .as_aux_lemma=>kernel_rfl
 .as_aux_lemma=>kernel_rfl
 .as_aux_lemma=>kernel_rfl
 .exact k10
 .exact k11
 .exact k12
 .exact k13
 .as_aux_lemma=>kernel_rfl
 .as_aux_lemma=>kernel_rfl
 .as_aux_lemma=>kernel_rfl
 .as_aux_lemma=>kernel_rfl
 .as_aux_lemma=>kernel_rfl
 .as_aux_lemma=>kernel_rfl
 .as_aux_lemma=>kernel_rfl
 .as_aux_lemma=>kernel_rfl
 .as_aux_lemma=>kernel_rfl
 .as_aux_lemma=>kernel_rfl
 .as_aux_lemma=>kernel_rfl
 .as_aux_lemma=>kernel_rfl
 .as_aux_lemma=>kernel_rfl
 .as_aux_lemma=>kernel_rfl
 .as_aux_lemma=>kernel_rfl
 .as_aux_lemma=>kernel_rfl
 .as_aux_lemma=>kernel_rfl
 .as_aux_lemma=>kernel_rfl
 .as_aux_lemma=>kernel_rfl
end Go.W
