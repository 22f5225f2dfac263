import Derived.Test.YtghnjdpgbldlkaaGreatDoorW33
import Derived.Test.YtghnjdpgbldlkaaGreatDoorW36
import Derived.Test.YtghnjdpgbldlkaaGreatDoorW37
set_option linter.defProp false
set_option maxRecDepth 100000
set_option maxHeartbeats 8000000
set_option linter.unusedSimpArgs false
open Go.Proofs Go.RowKit Go.W Tryz
namespace Go.W
variable {w w':World}{v:Value}
def AO.dK {α:Type}{e:TypeId}{s:Nat}{Q:D9 α}{xs:List α}{F:List Nat}(h:AO e s Q w v xs F):AO e s (fun w vs x G=>Q w vs x G/\ ∀ k,k∈G->k∈F) w v xs F:=by
 obtain⟨zs,h1,h2,h3,h4,h5⟩:=h;refine⟨zs,h1,fun z hz=>⟨(h2 z hz).1,(h2 z hz).2,fun k hk=>?_⟩,h3,h4,h5⟩;rw[h4];simp only[CY,List.mem_flatten,List.mem_map];exact .inr ⟨z.2.2,⟨z,hz,rfl⟩,hk⟩
def uM {A:Array Value}{i:Nat}(h:A[i]?=some v):A.setIfInBounds i v=A:=by
 apply Array.ext zw
 intro j h1 h2;rw[Array.getElem_setIfInBounds];split
 ·rename_i e;subst e;exact((IU.1 h).2).symm
 ·rfl
def LJ:D9 Pt:=fun w vs x F=> ∃ g c,F=[g]/\vs=[.string x.1,.slice (Qb g 0) 1 c]/\JL w g x.2
def LJ.stable:IB LJ:=fun w w' vs x F ⟨g,c,h1,h2,h3⟩ hb=>by
 subst h1;have e:=hb g zw;refine⟨g,c,rfl,h2,?_,(Am (a:=⟨g,0,none⟩) e).trans h3.2.1,(Am (a:=⟨g,1,none⟩) e).trans h3.2.2.1,h3.2.2.2⟩;rw[Array.getElem?_eq_getElem h3.1]at e;exact(IU.1 e).1
def LJ.one: ∀ (w:World) (vs:List Value) (x:Pt) (F:List Nat),LJ w vs x F-> ∀ u,u∈vs->u.oneCell'=true:=fun w vs x F ⟨g,c,h1,h2,h3⟩ u hu=>by
 subst h2;simp at hu;rcases hu with rfl | rfl <;> rfl
def Qw:D9 Gt:=fun _ vs x F=>F=[]/\vs=[.int .i64 (x.1:Int),.string x.2.1.1,.int .i64 (x.2.1.2:Int),.string x.2.2.1,.int .i64 (x.2.2.2:Int)]
def Qw.stable:IB Qw:=fun _ _ _ _ _ h _=>h
def Qw.one: ∀ (w:World) (vs:List Value) (x:Gt) (F:List Nat),Qw w vs x F-> ∀ u,u∈vs->u.oneCell'=true:=fun w vs x F ⟨h1,h2⟩ u hu=>by
 subst h2;simp at hu;rcases hu with rfl | rfl | rfl | rfl | rfl <;> rfl
def QP (w:World) (v:Value) (hd:Option (ByteArray×Nat)) (G:List Nat):Prop:=match hd with
 | none=>v= .slice none 0 0/\G=[]
 | some s=> ∃ g c,v= .slice (Qb g 0) 1 c/\G=[g]/\JL w g s
def QP.of {hd:Option (ByteArray×Nat)}{G:List Nat}(h:QP w v hd G)(hs:w.heap.size<=w'.heap.size)(hb: ∀ k,k∈G->w'.heap[k]?=w.heap[k]?):QP w' v hd G:=by
 cases hd with
 | none=>exact h
 | some s=>
  obtain⟨g,c,h1,h2,h3⟩:=h;exact⟨g,c,h1,h2,h3.of hs<|hb g (by simp[h2])⟩
def VH (w:World) (v:Value) (hm:Option ByteArray) (G:List Nat):Prop:=match hm with
 | none=>v= .slice none 0 0/\G=[]
 | some y=> ∃ g c,v= .slice (Qb g 0) 1 c/\G=[g]/\w.cell? ⟨g,0,none⟩=some (.string y)/\w.cell? ⟨g,1,none⟩=some (.int .i64 0)/\w.cell? ⟨g,2,none⟩=some (.int .i64 0)
def VH.of {hm:Option ByteArray}{G:List Nat}(h:VH w v hm G)(hb: ∀ k,k∈G->w'.heap[k]?=w.heap[k]?):VH w' v hm G:=by
 cases hm with
 | none=>exact h
 | some y=>
  obtain⟨g,c,h1,h2,h3,h4,h5⟩:=h;have cell: ∀ o,w'.cell? ⟨g,o,none⟩=w.cell? ⟨g,o,none⟩:=fun o=>Am (a:=⟨g,o,none⟩) (hb g (by simp[h2]));exact⟨g,c,h1,h2,(cell 0).trans h3,(cell 1).trans h4,(cell 2).trans h5⟩
def IL (st:List T×List Pt) (a:A):List T×List Pt:=(EC st.1<|a.terms.headD T0,st.2++[(a.name,DF st.1<|a.terms.headD T0)])
def Qk (st:List T×List Gt) (g:G):List T×List Gt:=(EC (EC st.1 g.a) g.b,st.2++[(g.op.toNat,DF st.1 g.a,DF (EC st.1 g.a) g.b)])
end Go.W
namespace Go.P
def Ybu:Jk prog 335 323 2 40:=by
 obtain⟨i0,hi,hz0,hz1,hz2⟩:=info_parts (by kernel_rfl:(prog.info? 323).map (fun i=>(i.zero,i.size,i.bytes))=some (some<|.agg #[.string ⟨#[]⟩,.slice none 0 0],2,40));exact⟨i0,_,underlying335,hi,hz0,hz1,hz2,rfl,zu,zu⟩
def Ybs:Jk prog 336 373 5 56:=by
 obtain⟨i0,hi,hz0,hz1,hz2⟩:=info_parts (by kernel_rfl:(prog.info? 373).map (fun i=>(i.zero,i.size,i.bytes))=some (some<|.agg #[.int .i64 0,.string ⟨#[]⟩,.int .i64 0,.string ⟨#[]⟩,.int .i64 0],5,56));exact⟨i0,_,underlying336,hi,hz0,hz1,hz2,rfl,zu,zu⟩
def Nk (p m:Nat) (hn:ByteArray) (hv:Value):Array Value:=#[.pointer<|Qb p 0,.string hn,hv,.slice none 0 0,.slice none 0 0,.slice none 0 0,.map<|some m,.slice none 0 0]++Array.replicate 964 (.int .u64 0)
def Z8i (p m:Nat)(hn:ByteArray)(hv:Value):((((zeroCells344.setIfInBounds 0<|.pointer<|Qb p 0).setIfInBounds 1<|.string hn).setIfInBounds 2 hv).setIfInBounds 6<|.map<|some m).setIfInBounds 7 (.slice none 0 0)=Nk p m hn hv:=zt
def jO (p m:Nat)(hn:ByteArray)(hv:Value):(Nk p m hn hv).size=972:=by simp[Nk]
def Uy (p m:Nat)(hn:ByteArray)(hv:Value)(j:Nat)(hj:j<8):(Nk p m hn hv)[j]?=[Value.pointer<|Qb p 0,.string hn,hv,.slice none 0 0,.slice none 0 0,.slice none 0 0,.map<|some m,.slice none 0 0][j]?:=by
 unfold Nk;rw[Ry (by simpa using hj)];simp
def Z1r (p m:Nat)(hn:ByteArray)(hv:Value)(j:Nat)(hj:8<=j)(h2:j<972):(Nk p m hn hv)[j]?=some (.int .u64 0):=by
 unfold Nk;rw[Array.getElem?_append_right (by simpa using hj),Array.getElem?_replicate,if_pos];show j-8<964;omega
def xN (W0:World) (q p:Nat) (CV:Array Value) (fs:List (ByteArray×Nat)) (F0:List Nat) (st:List T×List Pt) (wr:World):Prop:= ∃ sv Fa F',Bv wr p fs st.1 F'/\AJ wr q (CV.setIfInBounds 3 sv) 344/\AO 323 2 LJ wr sv st.2 Fa/\Af W0.heap.size wr Fa/\(∀ i,i∈F'->i∈F0\/W0.heap.size<=i)/\(∀ i,i∈Fa->i∉F')/\Off (q::F0) W0 wr
def xM (W0:World) (q p:Nat) (CV:Array Value) (fs:List (ByteArray×Nat)) (F0:List Nat) (st:List T×List Gt) (wr:World):Prop:= ∃ sv Fa F',Bv wr p fs st.1 F'/\AJ wr q (CV.setIfInBounds 4 sv) 344/\AO 373 5 Qw wr sv st.2 Fa/\Af W0.heap.size wr Fa/\(∀ i,i∈F'->i∈F0\/W0.heap.size<=i)/\(∀ i,i∈Fa->i∉F')/\Off (q::F0) W0 wr
end Go.P
