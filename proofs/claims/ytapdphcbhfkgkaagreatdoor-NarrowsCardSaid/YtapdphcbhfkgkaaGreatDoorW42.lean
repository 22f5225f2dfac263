import Derived.Test.YtapdphcbhfkgkaaGreatDoorW40
import Derived.Test.YtapdphcbhfkgkaaGreatDoorW41
set_option linter.defProp false
set_option maxRecDepth 100000
set_option maxHeartbeats 8000000
set_option linter.unusedSimpArgs false
open Go.Proofs Go.RowKit Go.W Tryz
namespace Go.W
variable {s N D:Nat}{w:World}
def ak {α:Type}{Q:Nat->Nat->α->Prop}{p:Option Addr}:Ap s Q p []:=⟨zw,fun i x hx=>by simp at hx⟩
def wW {α:Type}{Q:Nat->Nat->α->Prop}{b o:Nat}{x:α}(h:Q b o x):Ap s Q (Qb b o) [x]:=⟨zw,fun i y hy=>by
 cases i with
 | zero=>
  injection hy with hy;subst hy;exact⟨b,o,rfl,by simpa using h⟩
 | succ i=>simp at hy⟩
structure YK where
 pf:Option Addr
 cf:Nat
 pr:Option Addr
 cr:Nat
 lo:Nat
 hi:Nat
 x:Sd
def YK.cells (h:YK):List Value:=[.slice h.pf h.x.1.length h.cf,.slice h.pr h.x.2.length h.cr,zn]
def XH:Du YK:=fun _ vs h F=>F=[]/\vs=h.cells
def XH.stable:Ii XH:=fun _ _ _ _ _ h _=>h
def XH.one {vs:List Value}{x:YK}{F:List Nat}(h:XH w vs x F): ∀ u,u∈vs->u.oneCell'=true:=by
 obtain⟨_,rfl⟩:=h;intro u hu;simp[YK.cells]at hu;rcases hu with rfl | rfl | rfl <;> rfl
structure XG (N D:Nat) (w:World) (h:YK):Prop where
 hi:h.hi<=w.heap.size
 rows: ∀ v:World,w.heap.size<=v.heap.size->(∀ j,j<N\/(h.lo<=j/\j<h.hi)->v.heap[j]?=w.heap[j]?)->Ap 2 (Ep v.heap.size v<|D+2) h.pf h.x.1/\Ap 4 (FJ v.heap.size v<|D+2) h.pr h.x.2
def XG.of {u:World}{h:YK}(k:XG N D w h)(hs:w.heap.size<=u.heap.size)(hb: ∀ j,j<N\/(h.lo<=j/\j<h.hi)->u.heap[j]?=w.heap[j]?):XG N D u h:=⟨Ab k.hi hs,fun v h1 h2=>k.rows v (Ab hs h1) fun j hj=>(h2 j hj).trans (hb j hj)⟩
def XG.mono {M:Nat}{h:YK}(k:XG N D w h)(hn:N<=M):XG M D w h:=⟨k.hi,fun v h1 h2=>k.rows v h1 fun j hj=>h2 j (hj.imp (fun q=>BK q hn) id)⟩
def AQ.yJ {α:Type}{e:TypeId}{Q:Du α}{g:Nat}{cs:List Value}{x:α}(hb:w.heap[g]?=some (.cells cs.toArray e))(hs:cs.length=s)(hq:Q w cs x []):AQ e s Q w (.slice (Qb g 0) 1 1) [x] [g]:=
 ⟨[(cs,x,[])],⟨by simp[hs],.inr ⟨g,1,cs.toArray,rfl,Eg _,hb,EO _,zu,by simp[hs],by subst hs;simp⟩⟩,fun z hz=>by rw[Bh.1 hz];exact⟨hs,hq⟩,rfl,by simp[Value.ownBlock],zw⟩
end Go.W
namespace Go.P
variable {Aa:Int}
def Ygw {B D:Nat}{u:World}{g t:Nat}(hk:Gq Aa)(hg:g<B)(ht:t<B)(h1:AO u g #[.string ⟨#[116,105,109,101]⟩,.slice (Qb t 0) 1 1] 51)(h2:AO u t #[zo 5,zo Aa,.string ⟨#[]⟩,zn] 56):Ep B u (D+2) g 0 (rF Aa):=
 ⟨hg,h1.two.1,by show 4<1000000000;decide,_,h1.two.2.1,_,_,rfl,EO _,wW ⟨ht,_,h2.four.1,h2.four.2.1,h2.four.2.2.1,h2.four.2.2.2.1,rfl,rfl,rfl,⟨by show(-9223372036854775808:Int)<=5;decide,by show(5:Int)<=9223372036854775807;decide⟩,hk,by show 0<1000000000;decide,_,_,rfl,EO _,ak⟩⟩
def Ybz:J3 prog 135 138 1 8:=by
 obtain⟨i0,hi,hz0,hz1,hz2⟩:=info_parts (by kernel_rfl:(prog.info? 138).map (fun i=>(i.zero,i.size,i.bytes))=some (some<|.pointer none,1,8));exact⟨i0,_,underlying135,hi,hz0,hz1,hz2,rfl,zu,zu⟩
def Ygx (Aa:Int):Rz (rF Aa):=by
 refine⟨by show 4<=16;decide,fun x hx=>?_,by show 1<=6;decide,rfl⟩;have hx:x= .mk 5 Aa ⟨#[]⟩ []:=by simpa[rF]using hx
 subst hx;rfl
structure kY (x:Bk):Prop where
 fl:x.facts.length<=24
 fo: ∀ y,y∈x.facts->Rz y
 rl:x.rules.length<=24
 ro: ∀ y,y∈x.rules->Jj y
 cl:x.checks.length<=24
 co: ∀ y,y∈x.checks->y.length<=4/\ ∀ r,r∈y->Jj r
def kY.of {x:Bk}(h:IU x=0):kY x:=by
 obtain⟨h1,h2⟩:=NI (fun q=>q) h;obtain⟨h3,h4⟩:=NI (fun q=>q) h2;obtain⟨f1,f2⟩:=MX (by omega:Ei Ul 24 x.facts=0);obtain⟨r1,r2⟩:=MX (by omega:Ei TZ 24 x.rules=0);obtain⟨c1,c2⟩:=MX h4;refine⟨f1,fun y q=>Rz.fact (f2 y q),r1,fun y q=>Jj.rule (r2 y q),c1,fun y q=>?_⟩;obtain⟨_,k2⟩:=NI (fun _=>zu)<|c2 y q;obtain⟨e1,e2⟩:=MX k2;exact⟨e1,fun r hr=>Jj.bare (e2 r hr)⟩
def Ygq {b0:Bk}{bs:List Bk}(h: ∀ x,x∈b0::bs->kY x){y:Sd}(hy:y∈JL Aa (b0::bs)):(∀ x,x∈y.1->Rz x)/\y.1.length<=60/\(∀ r,r∈y.2->Jj r)/\y.2.length<=100:=by
 have h0:=h b0 zw;have f0: ∀ x,x∈(Ec Aa b0).1->Rz x:=fun x hx=>by
  rcases Ak.1 hx with rfl | hx
  ·exact Ygx Aa
  ·exact h0.fo x hx
 have l0:(Ec Aa b0).1.length=b0.facts.length+1:=rfl;have l1:(Ec Aa b0).2=b0.rules:=rfl
 have:=h0.fl
 have:=h0.rl
 rcases Ak.1 hy with rfl | hy
 ·exact⟨f0,zx,h0.ro,by rw[l1];omega⟩
 ·obtain⟨c,hc,rfl⟩:=List.mem_map.1 hy;have hc:=h c (by simp[hc])
  have:=hc.fl
  have:=hc.rl
  refine⟨fun x hx=>?_,by show((Ec Aa b0).1++c.facts).length<=60;rw[JS];omega,fun x hx=>?_,by show((Ec Aa b0).2++c.rules).length<=100;rw[JS,l1];omega⟩
  ·rcases Aj.1 hx with hx | hx
   ·exact f0 x hx
   ·exact hc.fo x hx
  ·rcases Aj.1 hx with hx | hx
   ·exact h0.ro x hx
   ·exact hc.ro x hx
end Go.P
