import Derived.Test.YtpmcefkhkkpnbaaGreatDoorW36
import Derived.Test.YtpmcefkhkkpnbaaGreatDoorW44
import Derived.Test.YtpmcefkhkkpnbaaGreatDoorW45
import Derived.Shelf.SlSortCmp.WholeK
import Derived.Shelf.SlSortCmp.NoneTotal
import Derived.Shelf.Small.Strs
import Derived.Ground.SlsfProg
set_option linter.all false
set_option maxRecDepth 100000
set_option maxHeartbeats 8000000
open Go.Proofs Go.RowKit Go.W Tryz
namespace Go.Proofs
open Go.Shelf
def Tryz.laysSort_ren:Go.Shelf.Ren:=⟨fun | 6=>59 | 15=>122 | 14=>121 | 28=>187 | 29=>188 | 20=>179 | 21=>180 | 22=>181 | 23=>182 | 24=>183 | 25=>184 | 26=>185 | 27=>186 | 46=>234 | 47=>235 | 48=>236 | 49=>237 | 50=>238 | 57=>265 | n=>n,fun | 22=>139 | 24=>157 | 25=>160 | 3=>3 | 39=>243 | 0=>0 | 53=>272 | 55=>274 | 4=>4 | 46=>324 | 45=>323 | 50=>300 | 5=>5 | 9=>9 | 66=>375 | 70=>379 | 76=>404 | 77=>52 | n=>n,fun | n=>n⟩
def Tryz.laysSort:Go.Proofs.SlLaysF0.n6 prog Tryz.laysSort_ren:=by
 constructor
 case f6=>exact .intro "slices.SortFunc[[]warrant/warrant.line,warrant/warrant.line]" ⟨zu,func59.trans<|congrArg some zt⟩
 case f14=>exact .intro "slices.pdqsortCmpFunc[warrant/warrant.line]" ⟨zu,func121.trans<|congrArg some zt⟩
 case f20=>exact .intro "slices.insertionSortCmpFunc[warrant/warrant.line]" ⟨zu,func179.trans<|congrArg some zt⟩
 case f21=>exact .intro "slices.heapSortCmpFunc[warrant/warrant.line]" ⟨zu,func180.trans<|congrArg some zt⟩
 case f22=>exact .intro "slices.breakPatternsCmpFunc[warrant/warrant.line]" ⟨zu,func181.trans<|congrArg some zt⟩
 case f23=>exact .intro "slices.choosePivotCmpFunc[warrant/warrant.line]" ⟨zu,func182.trans<|congrArg some zt⟩
 case f24=>exact .intro "slices.reverseRangeCmpFunc[warrant/warrant.line]" ⟨zu,func183.trans<|congrArg some zt⟩
 case f25=>exact .intro "slices.partialInsertionSortCmpFunc[warrant/warrant.line]" ⟨zu,func184.trans<|congrArg some zt⟩
 case f26=>exact .intro "slices.partitionEqualCmpFunc[warrant/warrant.line]" ⟨zu,func185.trans<|congrArg some zt⟩
 case f27=>exact .intro "slices.partitionCmpFunc[warrant/warrant.line]" ⟨zu,func186.trans<|congrArg some zt⟩
 case f46=>exact .intro "slices.siftDownCmpFunc[warrant/warrant.line]" ⟨zu,func234.trans<|congrArg some zt⟩
 case f49=>exact .intro "slices.medianAdjacentCmpFunc[warrant/warrant.line]" ⟨zu,func237.trans<|congrArg some zt⟩
 case f50=>exact .intro "slices.medianCmpFunc[warrant/warrant.line]" ⟨zu,func238.trans<|congrArg some zt⟩
 case f57=>exact .intro "slices.order2CmpFunc[warrant/warrant.line]" ⟨zu,func265.trans<|congrArg some zt⟩
 all_goals exact ke
def Tryz.laysCmp_ren:Go.Shelf.Ren:=⟨fun | 106=>61 | 213=>123 | 265=>189 | n=>n,fun | 9=>9 | 3=>3 | n=>n,fun | n=>n⟩
def Tryz.laysCmp:Go.Proofs.Lays.n106 prog Tryz.laysCmp_ren:=by
 repeat' first | exact ke | constructor
end Go.Proofs
namespace Go.W
section
open Go.Sort Go.Lib
def Yox: ∀ a:List UInt8,compareBytes a a=0
 | []=>rfl
 | a::xs=>by
  rw[compareBytes,xd (by rw[UInt8.lt_iff_toNat_lt];omega),xd (by rw[UInt8.lt_iff_toNat_lt];omega)];exact Yox xs
def Yoa (a b:UInt8)(xs ys:List UInt8):(compareBytes (a::xs) (b::ys)<0↔a.toNat<b.toNat\/(a.toNat=b.toNat/\compareBytes xs ys<0)):=by
 rw[compareBytes];simp only[UInt8.lt_iff_toNat_lt];by_cases h1:a.toNat<b.toNat
 .rw[xj h1];exact⟨fun _=> .inl h1,fun _=>zu⟩
 .rw[xd h1];by_cases h2:b.toNat<a.toNat
  .rw[xj h2];exact⟨fun h=>absurd h zu,fun h=>zx⟩
  .rw[xd h2];exact⟨fun h=> .inr ⟨zx,h⟩,fun h=>by
    rcases h with h | h
    .exact absurd h h1
    .exact h.2⟩
def Ynx: ∀ a b c:List UInt8,compareBytes a b<0->compareBytes b c<0->compareBytes a c<0
 | [],[],_,h,_=>absurd h zu
 | _::_,[],_,h,_=>absurd h (show ¬ (1:Int)<0 by decide)
 | _,_::_,[],_,h=>absurd h (show ¬ (1:Int)<0 by decide)
 | [],_::_,_::_,_,_=>show(-1:Int)<0 by decide
 | a::xs,b::ys,c::zs,h1,h2=>by
  rw[Yoa]at*;rcases h1 with h1 | h1 <;> rcases h2 with h2 | h2
  ·exact .inl zx
  ·exact .inl zx
  ·exact .inl zx
  ·exact .inr ⟨zx,Ynx xs ys zs h1.2 h2.2⟩
def Ynp: ∀ a b c:List UInt8,¬ compareBytes a b<0-> ¬ compareBytes b c<0-> ¬ compareBytes a c<0
 | [],[],_,_,h=>h
 | [],_::_,_,h,_=>absurd (show(-1:Int)<0 by decide) h
 | _::_,_,[],_,_=>show ¬ (1:Int)<0 by decide
 | _::_,[],_::_,_,h=>absurd (show(-1:Int)<0 by decide) h
 | a::xs,b::ys,c::zs,h1,h2=>by
  rw[Yoa]at*;rintro(h3 | h3)
  ·exact h2<|.inl (by
    have:=fun q=>h1 (.inl q)
    omega)
  ·by_cases e:a.toNat=b.toNat
   ·exact Ynp xs ys zs (fun q=>h1 (.inr ⟨e,q⟩)) (fun q=>h2 (.inr ⟨zx,q⟩)) h3.2
   ·have q1:=fun q=>h1 (.inl q);have q2:=fun q=>h2 (.inl q);omega
abbrev LnX:=Ay×Ay×Bp×Nat×Nat
def Yob (x:LnX):Bu:=[um x.1,um x.2.1,sP x.2.2.1 x.2.2.2.1 x.2.2.2.2]
def cfL (x y:LnX):Int:=compareBytes x.1.data.toList y.1.data.toList
def Yqs:SWO (ltOf cfL) where
 irrefl x:=by unfold ltOf cfL;rw[Yox];rfl
 trans x y z h1 h2:=by
  unfold ltOf cfL at*;rw[decide_eq_true_iff]at*;exact Ynx _ _ _ h1 h2
 ntrans x y z h1 h2:=by
  unfold ltOf cfL at*;rw[decide_eq_false_iff_not]at*;exact Ynp _ _ _ h1 h2
def Ypn (x y:LnX)(W:Bb):Calls prog 60 #[.agg (Yob x).toArray,.agg (Yob y).toArray] W fun e w'=>e=uY (.int .i64<|cfL x y)/\ ∃ q os',w'=grow (W.drewN q) os':=by
 have hcon:=fun W'=>Any.strings_Compare Tryz.laysCmp x.1 y.1 W';change ∀ W',Calls prog 61 _ _ _ at hcon;unfold Yob cfL;generalize compareBytes x.1.data.toList y.1.data.toList=r at hcon⊢;go_in
 go_wp2_with (go_at_call 61;apply(hcon _).mono;rintro e w' ⟨rfl,rfl⟩)
 go_ret
 exact⟨rfl,0,_,by rw[alloc_eq_grow,alloc_eq_grow,grow_grow];rfl⟩
def Ypr: ∀ w,(isAgg 157).run prog w= .ok true w:=fun w=>by go_simp
def Ypk: ∀ w,(Go.sizeOf 157).run prog w= .ok 3 w:=fun w=>by go_simp
def Yp0 {g cap:Nat}{d:Array LnX}{w:Bb}(hH:HoldsK Yob 3 w g 0 d)(hg:g<w.heap.size)(hs:d.size<1000000000):Calls prog 59 #[sP (Qb g 0) d.size cap,.func (.func 60) #[] #[]] w fun e w'=>e=uY (.tuple #[])/\ ∃ d':Array LnX,d'.toList.Perm d.toList/\ ∃ n os,w'=sortWorldK Yob 3 w g 0 n d' os:=by
 have eg: ∀ args w,(callFunc 60 args).run prog w= .ok (.enter 60 args) w:=enters_of func60 zt rfl;have hcon:=AnyQ.slices_SortFunc Tryz.laysSort 3 Ypr Ypk Yob (fun _=>rfl) (fun x v hv=>by simp[Yob]at hv;rcases hv with rfl | rfl | rfl <;> rfl) cfL Yqs 60 #[] g 0 cap d w eg (fun _ _ _ _ x y=>Ypn x y _) hH hg zx;change Calls prog 59 _ _ _ at hcon;refine hcon.mono fun e w' ⟨h1,d',n,os,hp,_,h2⟩=>⟨h1,d',?_,n,os,h2⟩
 have:=hp.2.2
 rw[Array.extract_eq_self_of_le (by rw[hp.1];omega),Array.extract_eq_self_of_le lr]at this;exact this
end
variable {e:TypeId}{s N:Nat}{w:Bb}{v:Value}{F:Cg}{ty:U2}{X:Nat->Prop}
def AQ.rowX {α:Type}{Q:Du α}{xs:List α}{Q':Nat->Nat->α->Prop}(h:AQ e s Q w v xs F)(f: ∀ b o vs x G,(∀ j,j<s->w.cell? (zm b (o+j))=vs[j]?)->b∈F->(∀ k,k∈G->k∈F)->Q w vs x G->Q' b o x):Qi s Q' v xs:=by
 obtain⟨zs,ho,hz,rfl,rfl,hl⟩:=h;rcases ho.2 with⟨rfl,h0⟩ | ⟨g,cap,cur,rfl,_,hg,hle,_⟩
 .have:zs=[]:=List.length_eq_zero_iff.1 h0
  subst this;exact⟨none,0,rfl,EO _,zw,fun i x hx=>by simp at hx⟩
 .refine⟨some (zm g 0),cap,zw,by simpa using hle,by simpa using hl,fun i x hx=>?_⟩;rw[FK]at hx;obtain⟨z,dC,rfl⟩:=QP.1 hx;have hm:=Ej dC;have hi:=(DW.1 dC).1;refine⟨g,0,rfl,f g (0+i*s) z.1 z.2.1 z.2.2 (fun j hj=>?_) (by simp[Value.ownBlock]) (fun k hk=>Vq _ (List.mem_flatten.2 ⟨z.2.2,List.mem_map.2 ⟨z,hm,rfl⟩,hk⟩)) (hz z hm).2⟩;have hb:i*s+j<zs.length*s:=by
   have:(i+1)*s<=zs.length*s:=Nat.mul_le_mul_right s zx
   rw[Nat.succ_mul]at this;omega
  rw[Gx,ho.cellAt (i*s+j) hb];exact Yf0 s zs (fun z J9=>(hz z J9).1) i z dC j hj
def AQ.typed {α:Type}{Q:Du α}{xs:List α}{P:Nat->Prop}(h:AQ e s Q w v xs F)(hQ: ∀ vs x G,Q w vs x G-> ∀ k,k∈G->P k)(hP: ∀ (k:Nat) (cs:Ca),w.heap[k]?=some (Obj.cells cs e (0,0))->P k): ∀ k,k∈F->P k:=by
 obtain⟨zs,ho,hz,rfl,rfl,hl⟩:=h;intro k hk;rcases Aj.1 hk with hk | hk
 .rcases ho.2 with⟨rfl,_⟩ | ⟨g,cap,cur,rfl,_,hg,_⟩
  .simp[Value.ownBlock]at hk
  .simp[Value.ownBlock]at hk;subst hk;exact hP _ _ hg
 .obtain⟨l,hl,QZ⟩:=List.mem_flatten.1 hk;obtain⟨z,hz1,rfl⟩:=List.mem_map.1 hl;exact hQ _ _ _ (hz z hz1).2 k QZ
abbrev Yqe (X:Nat->Prop):Mem:=⟨fun b _ _=>X b⟩
def BQ.atX: ∀ {d:Nat} {vs:Bu} {x:T} {F:Cg} {b o:Nat},BQ ty d w vs x F->(∀ k,k∈F->X k/\k<N)->X b/\b<N->(∀ j,j<4->w.cell? (zm b (o+j))=vs[j]?)-> @He (Yqe X) N w d b o x:=by
 intro d;induction d with
 | zero=>intro vs x F b o h;exact h.elim
 | succ d ih=>
  intro vs x F b o h hF hb hc;obtain⟨lv,rfl,h2,h3,h4,h5⟩:=h;exact⟨⟨hb.2,hb.1⟩,lv,hc 0 zx,hc 1 zx,hc 2 zx,hc 3 zx,rfl,rfl,rfl,h2,h3,h4,AQ.rowX h5 fun b o vs x G hcc G4 hG q=>ih q (fun k hk=>hF k (hG k hk)) (hF b G4) hcc⟩
def Bz.sX {D:Nat}{vs:Bu}{x:A}(h:Bz ty (D+1) w vs x F)(hF: ∀ k,k∈F->X k/\k<N): @Jz (Yqe X) N w D vs x:=by
 obtain⟨tv,rfl,h2,h3⟩:=h;obtain⟨p,c,rfl,h4,h5⟩:=AQ.rowX (Q':= @He (Yqe X) N w<|D+1) h3 fun b o vs x G hcc G4 hG q=>BQ.atX q (fun k hk=>hF k (hG k hk)) (hF b G4) hcc;exact⟨p,c,rfl,h2,h4,h5⟩
variable {u:Bb}{B b k:Nat}{vs:Bu}{x:A}
def Nby (w:Bb) (k:Nat):Prop:= ∃ (cs:Ca) (t:TypeId) (fz:Nat×Nat),t≠5/\w.heap[k]?=some (Obj.cells cs t fz)
def Nby.kept (h:Nby w k)(hf:Fr B b w u)(hk:k≠b):u.heap[k]?=w.heap[k]?:=by
 obtain⟨cs,t,fz,h1,h2⟩:=h;rw[h2];exact hf.kept k cs t fz hk h1 h2
def Nby.of (h:Nby w k)(e:u.heap[k]?=w.heap[k]?):Nby u k:=by
 obtain⟨cs,t,fz,h1,h2⟩:=h;exact⟨cs,t,fz,h1,e.trans h2⟩
def BQ.nby: ∀ {d:Nat} {vs:Bu} {x:T} {F:Cg},BQ AV d w vs x F-> ∀ k,k∈F->Nby w k:=by
 intro d;induction d with
 | zero=>intro vs x F h;exact h.elim
 | succ d ih=>
  intro vs x F h;obtain⟨lv,rfl,_,_,_,h5⟩:=h;exact AQ.typed h5 (fun vs x G q=>ih q) fun k cs q=>⟨cs,_,_,zu,q⟩
def Bz.nby {d:Nat}(h:Bz AV d w vs x F): ∀ k,k∈F->Nby w k:=by
 obtain⟨tv,rfl,_,h3⟩:=h;exact AQ.typed h3 (fun vs x G q=>BQ.nby q) fun k cs q=>⟨cs,_,_,zu,q⟩
def trX {X:Nat->Prop}{N:Nat}(hX: ∀ k,X k->k≠b/\Nby w k): @TrC (Yqe X) N B b w:=fun u v hu hv D=>by
 have kp: ∀ k,X k->v.heap[k]?=u.heap[k]?:=fun k hk=>by
  obtain⟨h1,h2⟩:=hX k hk;exact(h2.of<|h2.kept hu h1).kept hv h1
 induction D with
 | zero=>intro k o x h;exact h.elim
 | succ d ih=>
  intro k o x h;obtain⟨hb,lv,c0,c1,c2,c3,hi⟩:=h;have cc: ∀ o,v.cell? (zm k o)=u.cell? (zm k o):=fun o=>A9 (a:=(zm k o)) (kp k hb.2);exact⟨hb,lv,(cc _).trans c0,(cc _).trans c1,(cc _).trans c2,(cc _).trans c3,hi.imp fun b o y=>ih b o y⟩
def Ypc {D:Nat}{s:Ay}(h:DV 153 B b s w)(hB:B<=w.heap.size)(hS:Bz AV (D+1) w vs x F)(hF: ∀ k,k∈F->k≠b/\k<w.heap.size)(Aq:FH x=0)(hs:s.size+(JI x).size<1000000000):Calls prog 57 #[zq b 0,.agg vs.toArray] w (LZ 153 B b (s++JI x) w):=
 @Zqg (Yqe (·∈F)) w.heap.size B D b s w vs x h hB (trX fun k hk=>⟨(hF k hk).1,Bz.nby hS k hk⟩) (Bz.sX hS fun k hk=>⟨hk,(hF k hk).2⟩) Aq hs
variable {D:Nat}{xs:List (Ay×A)}
def Ypz (n:Nat):0<(Do n).size:=by
 show 0<(Nh (9+1) n).size;rw[Nh];split
 .rw[BM,Lh];omega
 .rw[Lh];omega
def Ym4 (D:Nat):Du (Ay×A):=fun w vs x F=> ∃ us,vs= um x.1::us/\Bz AV (D+1) w us x.2 F
def Ym4.sb:Ii (Ym4 D):=fun _ _ _ _ _ ⟨us,h1,h2⟩ hb=>⟨us,h1,Bz.sb (ty:=AV) (D+1) _ _ _ _ _ h2 hb⟩
def Ym4.one (w:Bb)(vs:Bu)(x:Ay×A)(F:Cg)(h:Ym4 D w vs x F): ∀ u,u∈vs->u.oneCell'=true:=by
 obtain⟨us,rfl,h⟩:=h;intro u hu;rcases Ak.1 hu with rfl | hu
 .rfl
 .exact Bz.one h u hu
def Ym4.nby {v:Value}(h:AQ 157 3 (Ym4 D) w v xs F): ∀ k,k∈F->Nby w k:=AQ.typed h (fun _ _ _ ⟨_,_,q⟩=>Bz.nby q) fun k cs q=>⟨cs,_,_,zu,q⟩
def Yps:J3 prog 139 157 3 56:=by
 obtain⟨i0,hi,hz0,hz1,hz2⟩:=info_parts (by kernel_rfl:(prog.info? 157).map (fun i=>(i.zero,i.size,i.bytes))=some (some<|.agg #[sE,sE,zn],3,56));exact⟨i0,_,underlying139,hi,hz0,hz1,hz2,rfl,zu,zu⟩
def Yok {α β:Type}{f:α->β}{l1 m:List β}(h:l1.Perm m): ∀ l2:List α,m=l2.map f-> ∃ l3:List α,l3.Perm l2/\l1=l3.map f:=by
 induction h with
 | nil=>exact fun l2 e=>⟨l2,.refl _,e⟩
 | cons x _ ih=>
  intro l2 e;cases l2 with
  | nil=>simp at e
  | cons y l2=>
   simp at e;obtain⟨l3,h1,h2⟩:=ih l2 e.2;exact⟨y::l3,h1.cons y,by rw[h2,e.1];rfl⟩
 | swap x y l=>
  intro l2 e;match l2,e with
  | a::b::l2,e=>
   simp at e;exact⟨b::a::l2,.swap _ _ _,by rw[e.1,e.2.1,e.2.2];rfl⟩
 | trans _ _ ih1 ih2=>
  intro l2 e;obtain⟨l3,h1,h2⟩:=ih2 l2 e;obtain⟨l4,h3,h4⟩:=ih1 l3 h2;exact⟨l4,h3.trans h1,h4⟩
def Yqd (cs:Bu):LnX:=match cs with
 | [.string a,.string b,.slice p n c]=>(a,b,p,n,c)
 | _=>(⟨#[]⟩,⟨#[]⟩,none,0,0)
def Ym4.enc {vs:Bu}{x:Ay×A}(h:Ym4 D w vs x F):Yob (Yqd vs)=vs:=by
 obtain⟨us,rfl,h⟩:=h;obtain⟨p,c,rfl⟩:=Bz.vals h;rfl
def Yqn {g n:Nat}{d:Array LnX}{os:Array Obj}:(sortWorldK Yob 3 w g 0 n d os).os=w.os/\(sortWorldK Yob 3 w g 0 n d os).tape=w.tape/\(sortWorldK Yob 3 w g 0 n d os).output=w.output/\w.heap.size<=(sortWorldK Yob 3 w g 0 n d os).heap.size/\ ∀ k,k<w.heap.size->k≠g->(sortWorldK Yob 3 w g 0 n d os).heap[k]?=w.heap[k]?:=by
 refine⟨rfl,rfl,rfl,?_,fun k h1 h2=>?_⟩
 .show _<=((w.heap.modify g _)++os).size;simp
 .show((w.heap.modify g _)++os)[k]?=_;rw[Ylf (by simpa using h1),Array.getElem?_modify,xd<|Ne.symm h2]
def Yp1 {N m cl:Nat}{pl:Bp}(h:AQ 157 3 (Ym4 D) w (sP pl m cl) xs F)(hm:xs.length=m)(hN:Ag N w F)(Fq:m<=60):Calls prog 59 #[sP pl m cl,.func (.func 60) #[] #[]] w fun e w'=>e=uY (.tuple #[])/\ ∃ out:List A,out.Perm (xs.map (·.2))/\Below N w w'/\Ap 3 (fun b o y=> ∃ vs s,Jz w'.heap.size w' D vs y/\ ∀ j u,(um s::vs)[j]?=some u->w'.cell? (zm b (o+j))=some u) pl out:=by
 obtain⟨zs,ho,hz,rfl,rfl,hl⟩:=h;have VL:zs.length=m:=by rw[<- hm,Dj]
 rcases ho.2 with⟨h0,h1⟩ | ⟨g,cap,cur,h0,_,hg,hle,_⟩
 .obtain rfl:=M9 h1;injection h0 with q1 q2 q3;subst q1 q3;obtain rfl:m=0:=VL.symm
  have:=AnyF.slices_SortFunc_none Tryz.laysSort none 0 (.func (.func 60) #[] #[]) w
  change Calls prog 59 _ _ _ at this;exact this.mono fun e w' ⟨h1,h2⟩=>⟨h1,[],.refl _,h2▸AR _ _,zw,fun _ _ h=>by simp at h⟩
 .injection h0 with q1 q2 q3;subst q1 q3;have NU:g<w.heap.size:=(PN.1 hg).1;have hgN:N<=g:=hN.ge g (by simp[Value.ownBlock]);have QW: ∀ z,z∈zs-> ∀ k,k∈z.2.2->k≠g/\k<w.heap.size:=fun z su k hk=>by
   have hkm:k∈(zs.map (·.2.2)).flatten:=List.mem_flatten.2 ⟨z.2.2,List.mem_map.2 ⟨z,su,rfl⟩,hk⟩;refine⟨fun e=>?_,hN.lt k<|Vq _ hkm⟩;subst e;exact(Mc.1 hN.once).2.2 k (by simp[Value.ownBlock]) k hkm rfl
  obtain⟨d,hd⟩: ∃ d:Array LnX,d=(zs.map fun z=>Yqd z.1).toArray:=⟨_,rfl⟩;have hds:d.size=m:=by rw[hd];simpa using VL
  have zA:=ho;rw[<- VL]at zA;have hH:Go.Sort.HoldsK Yob 3 w g 0 d:=fun t ht=>by
   rw[Go.Sort.size_flatK]at ht;have mZ:t<zs.length*3:=zx
   refine⟨?_,by rw[Gx];exact zA.frozenAt t⟩;rw[Gx,zA.cellAt t mZ,id,Go.Sort.get_flatK Yob 3 d t ht];have hq:t / 3<zs.length:=zx
   have hdq:d[t / 3]! =Yqd zs[t / 3].1:=by
    rw[getElem!_pos d _ zx];subst hd;simp
   rw[hdq,(hz _<|QO hq).2.enc]
   have:=Yf0 3 zs (fun z J9=>(hz z J9).1) (t / 3) _ (A8 hq) (t % 3) zx
   rw[show t / 3*3+t % 3=t by omega]at this;rw[this];have nP:=(hz _<|QO hq).1;rw[getElem!_pos _ _ zx,A8 zx]
  have hc:=Yp0 (cap:=cl) hH NU zx;rw[hds]at hc;refine hc.mono fun e w' ⟨h1,d',hp,n,os,hw'⟩=>⟨h1,?_⟩;have hpd:d'.toList.Perm (zs.map fun z=>Yqd z.1):=by rw[hd]at hp;simpa using hp
  obtain⟨zs',hzp,hd'⟩:=Yok hpd zs rfl;have hsz:d'.size=d.size:=by rw[<- Vp,<- Vp];exact hp.length_eq
  have hH':=holdsK_sortWorldK_c Yob 3 w g 0 d d' n os hH NU hsz;rw[<- hw']at hH';obtain⟨w1,w2,w3,w4,w5⟩:=hw'▸Yqn (w:=w) (g:=g) (n:=n) (d:=d') (os:=os);have JY:Below N w w':=⟨w1,w2,w3,w4,fun k hk=>w5 k zx zx⟩;have hzl:zs'.length=m:=by rw[hzp.length_eq,VL]
  refine⟨zs'.map (·.2.1.2),by rw[List.map_map];exact hzp.map (·.2.1.2),JY,zc,fun i y hy=>?_⟩;rw[FK]at hy;obtain⟨z,dC,rfl⟩:=QP.1 hy;have su:z∈zs:=hzp.subset<|Ej dC;have hi:=(DW.1 dC).1;obtain⟨hz3,us,hus,hao⟩:=hz z su;refine⟨g,0,rfl,us,z.2.1.1,?_,fun j u hj=>?_⟩
  .have hao':=Bz.sb (ty:=AV) (D+1) _ w' _ _ _ hao fun k hk=>w5 k (QW z su k hk).2 (QW z su k hk).1;obtain⟨tv,e,h2,h3⟩:=hao';obtain⟨p,c,e2,h4,h5⟩:=ZM.Ll (B:=w'.heap.size) h3 fun k hk=>BK (QW z su k hk).2 w4;subst e2;exact⟨p,c,e,h2,h4,h5⟩
  .rw[<- hus]at hj;have hj3:j<3:=by rw[<- hz3];exact(DW.1 hj).1
   have hx:=(hH' (i*3+j) (by rw[Go.Sort.size_flatK,hsz,hds];omega)).1;rw[id,Go.Sort.get_flatK Yob 3 d' (i*3+j) (by rw[hsz,hds];omega),show(i*3+j) / 3=i by omega,show(i*3+j) % 3=j by omega]at hx;have hdi:d'[i]! =Yqd z.1:=by
    rw[getElem!_pos d' i (by rw[hsz,hds];omega),<- Array.getElem_toList];simp only[hd',List.getElem_map];rw[(DW.1 dC).2]
   rw[hdi,(hz z su).2.enc,getElem!_pos _ _ zx]at hx;rw[show 0+i*3+j=0+(i*3+j)by omega,hx];rw[A8 zx]at hj;exact hj
variable {w0:Bb}
def SnQ (w0:Bb) (D:Nat):Du A:=fun _ vs x F=>F=[]/\Jz w0.heap.size w0 D vs x
def SnQ.sb:Ii (SnQ w0 D):=fun _ _ _ _ _ h _=>h
def SnQ.one (w:Bb)(vs:Bu)(x:A)(F:Cg)(h:SnQ w0 D w vs x F): ∀ u,u∈vs->u.oneCell'=true:=by
 obtain⟨_,p,c,rfl,_⟩:=h;intro u hu;simp at hu;rcases hu with rfl | rfl <;> rfl
structure Yqc (vs:List T) (fs:List Fc) (l:List A):Prop where
 len:fs.length=l.length
 at_: ∀ (i:Nat) f a,fs[i]?=some f->l[i]?=some a->AtF vs f a/\f.1.size<=16/\f.2.length<=6/\FH a=0
def Ypq (CL:Gg){B p:Nat}{w:Bb}{fs:List Fc}{vs:List T}{l:List A}(hB:B<=w.heap.size)(h:Yp9 B w D p fs vs)(ht:Yqc vs fs l)(Fq:fs.length<=60):Calls prog 26 #[zq p 0] w fun e w'=> ∃ q c out,e=uY (sP q out.length c)/\out.length<=c/\out.Perm l/\Ap 2 (Ep w'.heap.size w'<|D+1) q out/\Bl w w':=by
 have HW:=AC h;obtain⟨⟨qf,cf,jD,hfr⟩,_⟩:=h;have HF:=AC hfr;have HT:=AC ht;have CC:=AC CL;obtain⟨n,hn⟩:=cK (fs.length);rw[hn.o]at Fq jD;clear hfr ht;go_in
 go_wp2
 go_loopw [3,16] (fun lv iv wr=> ∃ (j:Nat) (F:Cg),j<=n/\iv= zo (j:Int)/\AQ 157 3 (Ym4 D) wr lv ((l.take j).map fun a=>(JI a,a)) F/\Ag w.heap.size wr F/\Bl w wr) (fun _ iv _=>n-(RowKit.intOf iv).toNat)
 .exact⟨0,[],Eg _,rfl,AQ.nil,Ag.nil _ _,AR _ _⟩
 .obtain⟨j,F,hj,rfl,hrow,Bi,Af⟩:=hrel;have HR:=AC<|AJ hrow Bi;have HB:=AC Af;obtain⟨pl,cl,rfl⟩:=hrow.form;have Jq:((l.take j).map fun a=>(JI a,a)).length<=60:=zc
  by_cases hlt:j<n
  .have hjf:j<fs.length:=by rw[hn.o];exact hlt
   have hjl:j<l.length:=by rw[<- HT.o.len];exact hjf
   obtain⟨bf,of,rfl,hfa⟩:=HF.o.get j hjf;have hat:=HT.o.at_ j _ _ (A8 hjf)<|A8 hjl;have ETK:AF (((l.take<|j+1).map fun a=>(JI a,a))=((l.take j).map fun a=>(JI a,a))++[(JI l[j],l[j])]):=⟨by rw[wa hjl,wb];rfl⟩;have CA:=AC fun u (hu:Bl w u)=>Ypo CC.o (Ab hB hu.size) (HW.o.la hB hu) hat.1 hat.2.1 hat.2.2.1;have PB:=AC<|AJ hat.2.2.2<|Znq hat.2.2.2;generalize fs[j]=f at*;generalize l[j]=y at*;unfold Yqk Dq at hfa;unfold Dq at CA;generalize f.2[0]?.getD 0=f0 at*;generalize f.2[1]?.getD 0=f1 at*;generalize f.2[2]?.getD 0=f2 at*;generalize f.2[3]?.getD 0=f3 at*;generalize f.2[4]?.getD 0=f4 at*;generalize f.2[5]?.getD 0=f5 at*;have c0:=Cb (hfa 0 _ rfl) Af;have c1:=Cb (hfa 1 _ rfl) Af;have c2:=Cb (hfa 2 _ rfl) Af;have c3:=Cb (hfa 3 _ rfl) Af;have c4:=Cb (hfa 4 _ rfl) Af;have c5:=Cb (hfa 5 _ rfl) Af;have c6:=Cb (hfa 6 _ rfl) Af;have c7:=Cb (hfa 7 _ rfl) Af;rw[Qs]at c0;clear hfa hat hrow Bi Af hjf hjl;generalize ((l.take j).map fun a=>(JI a,a))=acc at*;generalize hla:acc.length=la at*;have HLA:=AC hla;clear hla;go_wp2_with fail
   have b1:=zv wr<|.cells #[um f.1,zo (f.2.length:Int),zo (f0:Int),zo (f1:Int),zo (f2:Int),zo (f3:Int),zo (f4:Int),zo (f5:Int)] 147;have z1:(wr.alloc<|.cells #[um f.1,zo (f.2.length:Int),zo (f0:Int),zo (f1:Int),zo (f2:Int),zo (f3:Int),zo (f4:Int),zo (f5:Int)] 147).heap.size=wr.heap.size+1:=zw
   generalize wr.alloc (.cells #[um f.1,zo (f.2.length:Int),zo (f0:Int),zo (f1:Int),zo (f2:Int),zo (f3:Int),zo (f4:Int),zo (f5:Int)] 147)=W1 at*;have b2:=b1.alloc b1.size<|.cells #[.pointer none,zn] 153;have m2:=AO.new W1 #[.pointer none,zn] 153;rw[z1]at m2;have z2:(W1.alloc<|.cells #[.pointer none,zn] 153).heap.size=wr.heap.size+2:=by simp[z1]
   generalize W1.alloc (.cells #[.pointer none,zn] 153)=W2 at*;apply(CA.o _ (tr HB b2).o).mono;rintro e w3 ⟨us,G,rfl,hx,bC,hb3⟩;obtain⟨pu,cu,rfl⟩:=Bz.vals hx;have hz3:=hb3.size;have hb23:=b2.trans<|hb3.mono b2.size;have E3:AO w3 (wr.heap.size+1) #[.pointer none,zn] 153:=m2.of<|hb3.block _ m2.lt;have B4:=zv w3<|.cells #[um y.name,sP pu y.te.length cu] 64;have E4:=E3.of<|B4.block _ E3.lt;have A4:=AO.new w3 #[um y.name,sP pu y.te.length cu] 64;have z4:(w3.alloc<|.cells #[um y.name,sP pu y.te.length cu] 64).heap.size=w3.heap.size+1:=zw
   have X4:Bz AV (D+1) (w3.alloc<|.cells #[um y.name,sP pu y.te.length cu] 64) [um y.name,sP pu y.te.length cu] y G:=Bz.sb (ty:=AV) (D+1) _ _ _ _ _ hx fun k hk=>B4.block k (bC.lt k hk);have geG: ∀ k,k∈G->wr.heap.size+2<=k/\k<w3.heap.size:=fun k hk=>⟨z2▸bC.ge k hk,bC.lt k hk⟩;have CE:=Ypc (B:=wr.heap.size+1) (b:=wr.heap.size+1) (D:=D) (show DV 153 (wr.heap.size+1) (wr.heap.size+1) ByteArray.empty (w3.alloc<|.cells #[um y.name,sP pu y.te.length cu] 64)from Or.inl ⟨EO _,zn,E4,World.ownsRow_nil _ _ _ _,by simp[Value.ownBlock]⟩) zx X4 (fun k hk=>⟨fw ((geG k hk).1),fw ((geG k hk).2)⟩) PB.o.1 (by have:=PB.o.2;simp;omega);rw[show ByteArray.empty++JI y=JI y by simp]at CE;have R4:AQ 157 3 (Ym4 D) (w3.alloc<|.cells #[um y.name,sP pu y.te.length cu] 64) (sP pl la cl) acc F:=AQ.sb Ym4.sb _ _ _ _ _ HR.o.1 fun k hk=>(B4.block k (fw (HR.o.2.lt k hk))).trans (hb23.block k<|HR.o.2.lt k hk);have U6:=HB.o.trans<|(hb23.trans<|B4.mono zx).mono HB.o.size;have ltF: ∀ k,k∈F->k<wr.heap.size:=HR.o.2.lt;have CEE:=AC CE;have H4:=AC<|AJ X4<|AJ R4<|AJ U6<|AJ A4<|AJ geG ltF;have NG:AF (G.Nodup/\F.Nodup/\ ∀ k,k∈F->w.heap.size<=k):=⟨bC.once,HR.o.2.once,HR.o.2.ge⟩;have hw0:=HB.o.size;clear CE X4 R4 U6 A4 geG ltF E3 E4 B4 hb23 hb3 bC hx b1 b2 m2 CA c0 c1 c2 c3 c4 c5 c6 c7 HR HB;go_wp2_with fail
   generalize w3.alloc (.cells #[um y.name,sP pu y.te.length cu] 64)=W4 at*;apply mq CEE.o;rintro w5 ⟨KJ,hf5⟩;have UM:0<(JI y).size:=by rw[JI,BM];unfold Em;rw[BM];have:=Ypz y.name.size;omega
   have HTX:=AC<|Zq.of KJ (fw (PB.o.2)) UM;have FR:=AC hf5;have hz5:=hf5.size;have A5:=hf5.blk H4.o.2.2.2.1 zx zu;have HS:AF (∀ u,Fr (wr.heap.size+1) (wr.heap.size+1) w5 u->u.cell? (zm w3.heap.size 0)=some (um y.name)/\u.cell? (zm w3.heap.size 1)=some (sP pu y.te.length cu)):=⟨fun u hu=>by
    have:=(hu.blk A5 zx zu).two
    exact⟨this.1,this.2.1⟩⟩
   clear KJ hf5 CEE A5;go_wp2_with fail
   have AY:=HS.o w5.drew<|(Fr.refl _ _ w5).drew;refine Zwh ?_;refine Vj 7 (fun u=>u.cell? (zm w3.heap.size 0)=some (um y.name)/\u.cell? (zm w3.heap.size 1)=some (sP pu y.te.length cu)) zt ?_;refine z9 0 (sP pl la cl) AY ?_
   refine z9 1 (zq (wr.heap.size+1) 0) AY ?_
   refine z9 3 (.agg #[um y.name,sP pu y.te.length cu]) AY ?_
   refine rz 2 (h:=fun K' hK'=>?_);go_simp;apply(Znw (w:=w5.drew) HTX.o).mono;rintro e w6 ⟨rfl,_,hf6⟩;have hf56:Fr (wr.heap.size+1) (wr.heap.size+1) w5 w6:=((Fr.refl _ _ w5).drew).trans hf6;have hf46:Fr (wr.heap.size+1) (wr.heap.size+1) W4 w6:=FR.o.trans hf56;have Sm:=HS.o _ hf56;refine hK'.o _ _ Sm ?_;try simp only[zz]
   refine z9 4 (.agg #[.string<|JI y,um y.name,sP pu y.te.length cu]) Sm ?_
   refine rz 5 (h:=fun K' hK'=>?_);go_simp;obtain⟨X4,R4,U6,_,geG,ltF⟩:=H4.o;have hz6:=hf46.size;have kpF: ∀ k,k∈F->w6.heap[k]?=W4.heap[k]?:=fun k hk=>(Ym4.nby R4 k hk).kept hf46 (fw (ltF k hk));have kpG: ∀ k,k∈G->w6.heap[k]?=W4.heap[k]?:=fun k hk=>(Bz.nby X4 k hk).kept hf46 (fw ((geG k hk).1));have HB6:Bl w w6:=U6.trans<|hf46.be.mono zx;obtain⟨W7,hW7⟩:=cK (w6.alloc (.cells #[.string<|JI y,um y.name,sP pu y.te.length cu] 157));have b7:Bl w6 W7:=hW7.o▸(AR _ w6).alloc lr _;have N7:W7.heap[w6.heap.size]?=some (.cells #[.string<|JI y,um y.name,sP pu y.te.length cu] 157):=hW7.o▸Hw _ _;have hz7:=b7.size;rw[hW7.o];refine hK'.o _ _ (HS.o _<|hW7.o▸hf56.alloc zx _) ?_;try simp only[zz]
   have R7:=AQ.sb Ym4.sb _ W7 _ _ _ R4 fun k hk=>(b7.block k (fw (ltF k hk))).trans (kpF k hk);have X7:=Bz.sb (ty:=AV) (D+1) _ W7 _ _ _ X4 fun k hk=>(b7.block k (fw ((geG k hk).2))).trans (kpG k hk);refine rz 6 (h:=fun K' hK'=>?_);refine X3 Yps rfl (.tmp 25) (.tmp 30) rfl Ym4.sb Ym4.one w.heap.size (sP pl la cl) acc F rfl R7 w6.heap.size #[.string<|JI y,um y.name,sP pu y.te.length cu] 157 (0,0) (JI y,y) G rfl N7 rfl ⟨_,rfl,X7⟩ (by rw[HLA.o];omega) zx ⟨NG.o.2.1,NG.o.2.2,fun k hk=>fw (ltF k hk)⟩ ⟨NG.o.1,fun k hk=>fw ((geG k hk).1),fun k hk=>fw ((geG k hk).2)⟩ (fun k h1 h2=>jE (ltF k h1) ((geG k h2).1)) ?_;intro g8 UU w8 F8 AM;rw[HLA.o];have eH:(fun u:Bb=>u.cell? (zm w3.heap.size 0)=some (um y.name)/\u.cell? (zm w3.heap.size 1)=some (sP pu y.te.length cu)) w8:=by
    have q:=HS.o W7<|hW7.o▸hf56.alloc zx _;have dV:w3.heap.size∉F:=fun h=>fw (ltF _ h)
    have nP:=Wx q.1;exact⟨(A9 (a:=(zm w3.heap.size 0))<|AM.same _ nP dV).trans q.1,(A9 (a:=(zm w3.heap.size 1))<|AM.same _ nP dV).trans q.2⟩
   refine hK'.o _ _ eH ?_;try simp only[zz]
   refine yq ?_;have R8:=AC AM.row;have N8:=AC AM.new;have B8:=AC<|(HB6.trans<|b7.mono HB6.size).trans<|AM.be zx NG.o.2.2;rw[HLA.o]at R8;clear AM eH Sm AY hK' R7 X7 N7 b7 kpF kpG R4 X4 hf6 hf56 hf46 HS HTX;go_wp2
   exact⟨⟨j+1,F8,zx,by go_num,by rw[ETK.o];exact R8.o,N8.o,B8.o⟩,(by simp[RowKit.intOf];omega)⟩
  .obtain rfl:j=n:=zx
   have EM:AF (l.take j=l):=⟨U0 (by rw[<- HT.o.len,hn.o];omega)⟩;have HRR:AF (AQ 157 3 (Ym4 D) wr (sP pl ((l.take j).map fun a=>(JI a,a)).length cl) (l.map fun a=>(JI a,a)) F/\Ag w.heap.size wr F):=⟨by have:=HR.o.1;rw[EM.o]at this⊢;exact this,HR.o.2⟩;have hlm:AF ((l.map fun a=>(JI a,a)).length=((l.take j).map fun a=>(JI a,a)).length):=⟨by rw[EM.o]⟩;clear hrow Bi Af HR;generalize ((l.take j).map fun a=>(JI a,a)).length=m at*;have HLM:=AC hlm.o;have CS:=AC<|Yp1 HRR.o.1 hlm.o HRR.o.2 Jq;rw[List.map_map]at CS;clear HRR hlm;go_wp2_with fail
   apply mq CS.o;rintro ws ⟨out,hperm,Xe,hrs⟩;have iw:AF (out.length=m):=⟨by rw[hperm.length_eq,<- HLM.o];simp⟩;have PM:AF (out.Perm l):=⟨by have:=hperm;simpa[Function.comp_def]using this⟩;have RS:=AC hrs;have HBS:=AC<|HB.o.trans Xe;clear hperm Xe hrs CS;go_wp2
   go_loopw [8,37] (fun av iv w5=> ∃ (i:Nat) (F:Cg),i<=m/\iv= zo (i:Int)/\AQ 64 2 (SnQ ws D) w5 av (out.take i) F/\Ag ws.heap.size w5 F/\Bl ws w5) (fun _ iv _=>m-(RowKit.intOf iv).toNat)
   .exact⟨0,[],Eg _,rfl,AQ.nil,Ag.nil _ _,AR _ _⟩
   .obtain⟨i,F5,hi,rfl,hrow,Bi,Af⟩:=hrel;have iE:=AC<|AJ hrow Bi;have bE:=AC Af;have hl5:(out.take i).length<=60:=zc
    by_cases hlti:i<m
    .obtain⟨pa,ca,rfl⟩:=hrow.form;have hio:i<out.length:=by rw[iw.o];exact hlti
     obtain⟨b6,o6,rfl,vs6,sb,yg,hc6⟩:=RS.o.get i hio;have ETK:AF (out.take (i+1)=out.take i++[out[i]]):=⟨wa hio⟩;have HS6:=AC yg;obtain⟨pu,cu,rfl,_⟩:=yg;generalize out[i]=y at*;have c0:=Cb (hc6 0 _ rfl) Af;have c1:=Cb (hc6 1 _ rfl) Af;have c2:=Cb (hc6 2 _ rfl) Af;rw[Qs]at c0;clear hrow Bi Af hc6 hio;generalize out.take i=acc at*;generalize hla:acc.length=la at*;have HLA:=AC hla;have hl100:acc.length<100000000:=zx
     clear hla;go_wp2_with (at_builtin;go_must (refine Nu Zxi rfl (.tmp 41) (.tmp 44) rfl SnQ.sb SnQ.one ws.heap.size (sP pa la ca) acc F5 rfl (AQ.sb SnQ.sb _ _ _ _ _ iE.o.1 fun k hk=>(Ah _ _ _ (by have:=iE.o.2.lt k hk;simp;omega)).trans (Ah _ _ _<|iE.o.2.lt k hk)) (wr.heap.size+1) #[um y.name,sP pu y.te.length cu] 64 (0,0) y [] rfl (by have:=Hw (wr.alloc<|.cells #[um sb,um y.name,sP pu y.te.length cu] 157)<|.cells #[um y.name,sP pu y.te.length cu] 64;simpa using this) rfl ⟨rfl,HS6.o⟩ hl100 (by have:=bE.o.size;simp;omega) (iE.o.2.la lr zc) (Ag.nil _ _) (fun _ _ h=>by cases h) ?_);intro g8 UU w8 F8 AM)
     have R8:=AM.row;have B8:=((bE.o.alloc bE.o.size<|.cells #[um sb,um y.name,sP pu y.te.length cu] 157).alloc (by simp;have:=bE.o.size;omega)<|.cells #[um y.name,sP pu y.te.length cu] 64).trans<|AM.be (by have:=bE.o.size;simp;omega) iE.o.2.ge;rw[<- ETK.o]at R8;exact⟨⟨i+1,F8,zx,by go_num,R8,AM.new,B8⟩,(by simp[RowKit.intOf];omega)⟩
    .obtain rfl:i=m:=zx
     have EO:AF (out.take i=out):=⟨U0 (by rw[iw.o];omega)⟩;rw[EO.o]at iE hrow;obtain⟨pa,ca,rfl,hle,hrr⟩:=AQ.rowX (Q':=Ep wr.heap.size wr<|D+1) hrow fun b o vs x G hc hb hG ⟨_,hs⟩=>by
      have hbl:=Bi.lt b hb;exact Jz.at hs (Go.W.Below.cy Af Af.size) hbl fun j u hj=>by
       have Am:j<2:=by obtain⟨_,_,rfl,_⟩:=hs;have:=(DW.1 hj).1;simp at this;omega
       rw[hc j Am];exact hj
     have HRR:=AC hrr;clear hrow Bi Af hrr;go_wp2
     go_ret
     exact⟨pa,ca,out,rfl,hle,PM.o,HRR.o,HBS.o.trans<|bE.o.mono HBS.o.size⟩
variable {V:List T}{a:A}
def Yn1 (V:List T) (f:Fc):A:=⟨f.1,f.2.map fun k=>(V[k]?).getD (.mk 0 0 ⟨#[]⟩ [])⟩
def Ynf {f:Fc}(h:MM V.length f):AtF V f (Yn1 V f):=by
 refine⟨rfl,?_⟩;unfold Yn1;rw[List.map_map];exact List.map_congr_left fun k hk=>by
  have:=h.val k hk
  simp[this]
def Yo3 (h:FH a=0):IR a.name=true:=by
 unfold FH at h;split at h
 .cases h
 .rename_i q;simpa using q
def Yoy {l:List A}{rs:List R}(hV:V=(Vb l rs).1)(hl: ∀ a,a∈l->FH a=0)(hr: ∀ r,r∈rs->FH r.head=0)(h0: ∀ f,f∈(Va l).1-> ∃ a,a∈l/\AtF V f a)(hb: ∀ b,b∈(Vb l rs).2-> ∃ r,r∈rs/\Ync V r b): ∀ k f,Fn (Vb l rs).2 V (·∈(Va l).1) k f->IR f.1=true
 | 0,f,h=>by
  obtain⟨a,h1,h2⟩:=h0 f h;rw[h2.1];exact Yo3 (hl a h1)
 | k+1,f,h=>by
  rcases h with h | ⟨b,b1,σ,_,rfl⟩
  ·exact Yoy hV hl hr h0 hb k f h
  ·obtain⟨r,r1,r2⟩:=hb b b1;show IR b.hd.1=true;rw[r2.hd.1];exact Yo3<|hr r r1
def Ypp (h1:IR a.name=true)(h2:a.te.length<=6)(h3: ∀ x,x∈a.te->BR 0 x=0):FH a=0:=by
 unfold FH Ei;rw[xd (by simp[h1]),xd zx];exact qo h3
def Ynv {x:Bk}(h:IU x=0):(∀ a,a∈x.fa->FH a=0)/\ ∀ r,r∈x.ru->FH r.head=0:=by
 obtain⟨h1,h2⟩:=NI (fun q=>q) h;obtain⟨h3,h4⟩:=NI (fun q=>q) h2;obtain⟨_,f2⟩:=MX (by omega:Ei Ul 24 x.fa=0);obtain⟨_,r2⟩:=MX (by omega:Ei TZ 24 x.ru=0);exact⟨fun a ha=>fw ((NI (fun q=>q)<|f2 a ha).1),fun r hr=>fw ((NI (fun q=>q)<|r2 r hr).1)⟩
def Ypl {x:Bk}(hx:IU x=0)(hi:QA x)(hroom:kR x.fa x.ru){fs:List Fc}(QW:fs.Nodup)(hfs: ∀ f,f∈fs↔Uc x.fa x.ru f)(Ci: ∀ f,f∈fs->MM (Vb x.fa x.ru).1.length f):(∀ f,f∈fs->AtF (Vb x.fa x.ru).1 f (Yn1 (Vb x.fa x.ru).1 f)/\FH (Yn1 (Vb x.fa x.ru).1 f)=0)/\(∀ y,y∈(Vb x.fa x.ru).1->y.t.size<1000000000/\Gq y.k/\Gq y.i)/\ ∀ out:List A,out.Perm (fs.map<|Yn1 (Vb x.fa x.ru).1)->out.Nodup/\Yno x.fa x.ru out/\ ∀ a,a∈out-> ∀ t,t∈a.te->t.k≠1:=by
 have k:=kY.of hx;have hl: ∀ a,a∈x.fa->GdA a/\Rz a:=fun a ha=>⟨fun y hy=>⟨(k.fo a ha).ok y hy,hi.1 a ha y hy⟩,k.fo a ha⟩;have hr: ∀ r,r∈x.ru->GdR r/\Jj r:=fun r q=>⟨⟨fun y hy=>⟨(k.ro r q).ht y hy,(hi.2.1 r q).1 y hy⟩,fun a ha y hy=>⟨((k.ro r q).bt a ha).1 y hy,(hi.2.1 r q).2.1 a ha y hy⟩,fun g hg=>⟨⟨((k.ro r q).gt g hg).1,((hi.2.1 r q).2.2 g hg).1⟩,((k.ro r q).gt g hg).2.1,((hi.2.1 r q).2.2 g hg).2⟩⟩,k.ro r q⟩;have hl6:x.fa.length<=60:=fw (k.fl)
 have key: ∀ out:List A,out.Perm (fs.map<|Yn1 (Vb x.fa x.ru).1)->C9 (Vb x.fa x.ru).1/\Yno x.fa x.ru out:=fun out hp=>Yot hl hl6 hr hroom hfs fun a=>by
  rw[hp.mem_iff,we];constructor
  .rintro⟨f,h1,rfl⟩;exact⟨f,h1,Ynf<|Ci f h1⟩
  .rintro⟨f,h1,h2⟩;exact⟨f,h1,(Ynf<|Ci f h1).atom h2⟩
 have hV:=(key _<|.refl _).1;obtain⟨h1,h2,h3⟩:=You x.fa (st:=([],[])) ⟨fun _ q=>(by cases q),List.nodup_nil,fun _ q=>(by cases q)⟩ hl (fun _ _ _ q=>by cases q) (by simpa using hl6);obtain⟨h4,h5,h6⟩:=Yn2 x.ru (st:=((Va x.fa).2,[])) h1 fun r q=>(hr r q).1;obtain⟨_,_,k2⟩:=h3 _ h5;obtain⟨_,_,k4⟩:=h6 _<|List.prefix_refl _;have named:=Yoy (l:=x.fa) (rs:=x.ru) rfl (fun a ha=>(Ynv hx).1 a ha) (fun r q=>(Ynv hx).2 r q) (fun f q=>(k2 f q).resolve_left zw) (fun b q=>(k4 b q).resolve_left zw) 12;have hat: ∀ f,f∈fs-> ∀ t,t∈(Yn1 (Vb x.fa x.ru).1 f).te->t∈(Vb x.fa x.ru).1:=fun f hf t ht=>by
  obtain⟨n,hn,rfl⟩:=List.mem_map.1 ht
  have:=(Ci f hf).val n hn
  rw[A8 this];exact QO this
 refine⟨fun f hf=>⟨Ynf<|Ci f hf,Ypp (named f<|(hfs f).1 hf) (by have:=(Ci f hf).len;simpa[Yn1]using this) fun t ht=>(hV.all t<|hat f hf t ht).1⟩,fun y hy=>?_,fun out hp=>⟨?_,(key out hp).2,fun a ha t ht=>?_⟩⟩
 .obtain⟨g1,g2⟩:=hV.all y hy;obtain⟨q1,_,_,q2⟩:=okT g1;exact⟨zx,⟨zx,zx⟩,g2.i⟩
 .rw[hp.nodup_iff,List.Nodup,List.pairwise_map];refine QW.imp_of_mem fun{f g} hf hg hne e=>hne ?_
  have:=Ynf<|Ci f hf
  rw[e]at this;exact this.fc hV<|Ynf<|Ci g hg
 .obtain⟨f,hf,rfl⟩:=List.mem_map.1<|hp.mem_iff.1 ha;exact hV.gr t<|hat f hf t ht
def Yqb (x:Bk) (D:Nat) (w:Bb) (e:Ending) (w':Bb):Prop:=Bl w w'/\(e=uY (.tuple #[zn,zo 4])\/ ∃ q c out,e=uY (.tuple #[sP q (List.length out) c,zo 0])/\out.length<=c/\out.length<=60/\out.Nodup/\Yno x.fa x.ru out/\(∀ y,y∈out-> ∀ t,t∈y.te->t.k≠1)/\Ap 2 (Ep w'.heap.size w'<|D+3) q out)
structure Clo (L:Nat) (w:Bb) (pb:Bp) (nb cb:Nat) (bs:List Bk):Prop where
 b0:w.cell? (zm L 0)=some (sP pb nb cb)
 eb:bs.length=nb
 lb:nb<=65536
 rb:Ap 3 (Iz w.heap.size w 4) pb bs
 gb: ∀ x,x∈bs->IU x=0/\QA x
def Ypb {w:Bb}{p:Bp}{n c:Nat}{R:Bb->Prop}(CT:AF (Calls prog 4 #[sP p n c] w fun e w'=>(e=uY (.tuple #[.pointer none,.bool false])/\w'=w)\/(e=uY (.tuple #[zq w.heap.size 0,.bool true])/\R w'/\Bl w w')))
  (CA:AF (∀ u,Bl w u->Calls prog 5 #[] u fun e w'=>e=uY (.bool true)/\Bl u w'))
  (CV:AF (∀ u,Bl w u-> ∀ (x:Bk) (pf pr:Bp) (cf cr:Nat),IU x=0->QA x->Ap 2 (Ep u.heap.size u 4) pf x.fa->x.fa.length<=cf->Ap 4 (FJ u.heap.size u 4) pr x.ru->x.ru.length<=cr->Calls prog 6 #[sP pf x.fa.length cf,sP pr x.ru.length cr] u fun e w'=>Yqb x 2 u e w'))
  (CK:AF (∀ w1 w2,R w1->Bl w1 w2-> ∃ pb nb cb bs,Clo w.heap.size w2 pb nb cb bs)):Calls prog 3 #[sP p n c] w fun e w'=>e=uY (.bool true)/\Bl w w':=by
 go_in
 go_wp2_with fail
 apply CT.o.mono;rintro e w1 (⟨rfl,rfl⟩ | ⟨rfl,hk,hb1⟩)
 .clear CT CA CV CK;go_wp2
  go_ret
  exact⟨rfl,AR _ _⟩
 have B1:=AC hb1;have HK:=AC hk;clear hk hb1 CT;go_wp2_with fail
 apply(CA.o _ B1.o).mono;rintro e w2 ⟨rfl,hb2⟩;obtain⟨pb,nb,cb,bs,hw⟩:=CK.o _ _ HK.o hb2;have B2:=tr B1 hb2;have HW:=AC hw;have hlb:=hw.lb;have b0:=hw.b0;have HC:=AC fun u (hu:Bl w2 u)=>Cb hw.b0 hu;clear hw hb2 HK CA B1 CK;go_wp2_with fail
 generalize w.heap.size=L at b0 HC⊢;go_loopw [5] (fun iv wr=> ∃ k:Nat,k<=nb/\iv= zo (k:Int)/\Bl w2 wr) (fun iv _=>nb-(RowKit.intOf iv).toNat)
 .exact⟨0,Eg _,rfl,AR _ _⟩
 .obtain⟨k,hk,rfl,Af⟩:=hrel;have HB:=AC Af;have b0:=HC.o wr Af;by_cases hlt:k<nb
  .have OP:k<bs.length:=by rw[HW.o.eb];exact hlt
   obtain⟨b,o,rfl,hx⟩:=HW.o.rb.get k OP;obtain⟨Jo,Xd⟩:=HW.o.gb bs[k]<|QO OP;have hA:=hx;obtain⟨_,⟨_,x0,pf,cf,rfl,hfc,hfr⟩,⟨_,x1,pr,cr,rfl,l9,hrr⟩,_⟩:=hx;have HS:=AC fun u (hu:Bl w2 u)=>AJ (HC.o u hu) (AJ (Cb x0 hu)<|Cb x1 hu);have CS:=AC fun u (hu:Bl w2 u)=>CV.o u (tr B2 hu).o bs[k] pf pr cf cr Jo Xd (hfr.cy fun _ _ _ q=>q.cy (Go.W.Below.cy hu hu.size) lr) hfc (hrr.cy fun _ _ _ q=>q.cy (Go.W.Below.cy hu hu.size) lr) l9;have CLs:AF (∀ u,Bl w2 u-> ∀ q c (out:List A),out.length<=c/\out.length<=60/\out.Nodup/\Yno bs[k].fa bs[k].ru out/\(∀ y,y∈out-> ∀ t,t∈y.te->t.k≠1)/\Ap 2 (Ep u.heap.size u 5) q out->Calls prog 7 #[zq b<|o+k*3,sP q out.length c] u fun e w'=>e=uY (.bool true)/\Bl u w'):=⟨fun u hu q c out ⟨h1,h2,h3,h4,h5,h6⟩=>Ypg (d:=4) h6 h1 (hA.cy (Go.W.Below.cy hu hu.size) zx) h2 h3 h4 h5 (kY.of Jo).ro (kY.of Jo).fl⟩;clear hA hfr hrr hfc l9 Af Jo Xd x0 x1;generalize bs[k].fa.length=nf at*;generalize bs[k].ru.length=nr at*;generalize bs[k]=x at*;go_wp2_with fail
   have AY:=HS.o _ HB.o.drew;refine Zwh ?_;refine Vj 21 (fun u=>u.cell? (zm L 0)=some (sP (Qb b o) nb cb)/\u.cell? (zm b (o+k*3))=some (sP pf nf cf)/\u.cell? (zm b (o+k*3+1))=some (sP pr nr cr)) zt ?_;refine z9 0 (zq L 0) AY ?_
   refine z9 1 (zq L 0) AY ?_
   refine z9 2 (zq L 0) AY ?_
   refine z9 3 (sP (Qb b o) nb cb) AY ?_
   refine z9 4 (zo (k:Int)) AY ?_
   refine z9 5 (zq b<|o+k*3) AY ?_
   refine z9 6 (zq b<|o+k*3) AY ?_
   refine z9 7 (sP pf nf cf) AY ?_
   refine z9 8 (zq L 0) AY ?_
   refine z9 9 (zq L 0) AY ?_
   refine z9 10 (zq L 0) AY ?_
   refine z9 11 (sP (Qb b o) nb cb) AY ?_
   refine z9 12 (zo (k:Int)) AY ?_
   refine z9 13 (zq b<|o+k*3) AY ?_
   refine z9 14 (zq b<|o+k*3+1) AY ?_
   refine z9 15 (sP pr nr cr) AY ?_
   refine rz 16 (h:=fun K' hK'=>?_);go_simp;apply(CS.o _ HB.o.drew).mono;rintro e w3 ⟨hb3,(rfl | ⟨q,c3,out,rfl,hout⟩)⟩
   .have B3:=AC<|HB.o.drew.trans<|hb3.mono HB.o.drew.size;clear hb3 CS CLs;have Kw:=HS.o _ B3.o;refine hK'.o _ _ Kw ?_;try simp only[zz]
    refine z9 17 (.tuple #[zn,zo 4]) Kw ?_
    refine z9 18 (zn) Kw ?_
    refine z9 19 (zo 4) Kw ?_
    refine z9 20 (zn) Kw ?_
    refine yq ?_;clear AY Kw hK';go_wp2
    exact⟨⟨k+1,zx,by go_num,B3.o⟩,(by simp[RowKit.intOf];omega)⟩
   .have B3:=AC<|HB.o.drew.trans<|hb3.mono HB.o.drew.size;have CQ:=AC<|CLs.o _ B3.o q c3 out hout;clear hb3 CS CLs hout;generalize out.length=no at*;have Kw:=HS.o _ B3.o;refine hK'.o _ _ Kw ?_;try simp only[zz]
    refine z9 17 (.tuple #[sP q no c3,zo 0]) Kw ?_
    refine z9 18 (sP q no c3) Kw ?_
    refine z9 19 (zo 0) Kw ?_
    refine z9 20 (sP q no c3) Kw ?_
    refine yq ?_;clear AY Kw hK';have b0:=HC.o _ B3.o;go_wp2_with fail
    apply mq CQ.o;rintro w4 hb4;have B4:=tr B3 hb4;clear hb4 CQ;go_wp2
    exact⟨⟨k+1,zx,by go_num,B4.o⟩,(by simp[RowKit.intOf];omega)⟩
  .obtain rfl:k=nb:=zx
   clear Af;go_wp2
   go_ret
   exact⟨rfl,B2.o.trans<|HB.o.mono B2.o.size⟩
end Go.W
