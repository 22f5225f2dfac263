import Derived.Test.YtgnakaplmhmdcaaGreatDoorW38
import Derived.Test.YtgnakaplmhmdcaaGreatDoorW41
import Derived.Test.YtgnakaplmhmdcaaGreatDoorW42
set_option maxRecDepth 100000
set_option maxHeartbeats 8000000
set_option linter.unusedSimpArgs false
open Go.Proofs Go.RowKit Go.W
namespace Go.W
variable {w w':World}{v:Value}
theorem Zag.withF {α:Type}{e:TypeId}{s:Nat}{Q:Zgk α}{xs:List α}{F:List Nat}(h:Zag e s Q w v xs F):Zag e s (fun w vs x G=>Q w vs x G/\ ∀ k,k∈G->k∈F) w v xs F:=by
 obtain⟨zs,h1,h2,h3,h4,h5⟩:=h;refine⟨zs,h1,fun z hz=>⟨(h2 z hz).1,(h2 z hz).2,fun k hk=>?_⟩,h3,h4,h5⟩;rw[h4];simp only[Yc2,List.mem_flatten,List.mem_map];exact .inr ⟨z.2.2,⟨z,hz,rfl⟩,hk⟩
theorem Zsg {A:Array Value}{i:Nat}(h:A[i]?=some v):A.setIfInBounds i v=A:=by
 apply Array.ext (by simp)
 intro j h1 h2;rw[Array.getElem_setIfInBounds];split
 ·rename_i e;subst e;exact((Yc6.1 h).2).symm
 ·rfl
def Zri:Zgk Pt:=fun w vs x F=> ∃ g c,F=[g]/\vs=[.string x.1,.slice (some ⟨g,0,none⟩) 1 c]/\Zdl w g x.2
theorem Zri.stable:Zcx Zri:=fun w w' vs x F ⟨g,c,h1,h2,h3⟩ hb=>by
 subst h1;have e:=hb g (by simp);refine⟨g,c,rfl,h2,?_,(Ycw (a:=⟨g,0,none⟩) e).trans h3.2.1,(Ycw (a:=⟨g,1,none⟩) e).trans h3.2.2.1,h3.2.2.2⟩;rw[Array.getElem?_eq_getElem h3.1]at e;exact(Yc6.1 e).1
theorem Zri.one: ∀ (w:World) (vs:List Value) (x:Pt) (F:List Nat),Zri w vs x F-> ∀ u,u∈vs->u.oneCell'=true:=fun w vs x F ⟨g,c,h1,h2,h3⟩ u hu=>by
 subst h2;simp at hu;rcases hu with rfl | rfl <;> rfl
def Zzf:Zgk Gt:=fun _ vs x F=>F=[]/\vs=[.int .i64 (x.1:Int),.string x.2.1.1,.int .i64 (x.2.1.2:Int),.string x.2.2.1,.int .i64 (x.2.2.2:Int)]
theorem Zzf.stable:Zcx Zzf:=fun _ _ _ _ _ h _=>h
theorem Zzf.one: ∀ (w:World) (vs:List Value) (x:Gt) (F:List Nat),Zzf w vs x F-> ∀ u,u∈vs->u.oneCell'=true:=fun w vs x F ⟨h1,h2⟩ u hu=>by
 subst h2;simp at hu;rcases hu with rfl | rfl | rfl | rfl | rfl <;> rfl
def HdO (w:World) (v:Value) (hd:Option (ByteArray×Nat)) (G:List Nat):Prop:=match hd with
 | none=>v= .slice none 0 0/\G=[]
 | some s=> ∃ g c,v= .slice (some ⟨g,0,none⟩) 1 c/\G=[g]/\Zdl w g s
theorem HdO.of {hd:Option (ByteArray×Nat)}{G:List Nat}(h:HdO w v hd G)(hs:w.heap.size<=w'.heap.size)(hb: ∀ k,k∈G->w'.heap[k]?=w.heap[k]?):HdO w' v hd G:=by
 cases hd with
 | none=>exact h
 | some s=>
  obtain⟨g,c,h1,h2,h3⟩:=h;exact⟨g,c,h1,h2,h3.of hs (hb g (by simp[h2]))⟩
def HmO (w:World) (v:Value) (hm:Option ByteArray) (G:List Nat):Prop:=match hm with
 | none=>v= .slice none 0 0/\G=[]
 | some y=> ∃ g c,v= .slice (some ⟨g,0,none⟩) 1 c/\G=[g]/\w.cell? ⟨g,0,none⟩=some (.string y)/\w.cell? ⟨g,1,none⟩=some (.int .i64 0)/\w.cell? ⟨g,2,none⟩=some (.int .i64 0)
theorem HmO.of {hm:Option ByteArray}{G:List Nat}(h:HmO w v hm G)(hb: ∀ k,k∈G->w'.heap[k]?=w.heap[k]?):HmO w' v hm G:=by
 cases hm with
 | none=>exact h
 | some y=>
  obtain⟨g,c,h1,h2,h3,h4,h5⟩:=h;have cell: ∀ o,w'.cell? ⟨g,o,none⟩=w.cell? ⟨g,o,none⟩:=fun o=>Ycw (a:=⟨g,o,none⟩) (hb g (by simp[h2]));exact⟨g,c,h1,h2,(cell 0).trans h3,(cell 1).trans h4,(cell 2).trans h5⟩
def Ze6 (st:List T×List Pt) (a:A):List T×List Pt:=(Zcl st.1 (a.terms.headD T0),st.2++[(a.name,Zbx st.1 (a.terms.headD T0))])
def Zgw (st:List T×List Gt) (g:G):List T×List Gt:=(Zcl (Zcl st.1 g.a) g.b,st.2++[(g.op.toNat,Zbx st.1 g.a,Zbx (Zcl st.1 g.a) g.b)])
end Go.W
namespace Go.P
theorem Z8c:Zdp Tryz.prog 333 321 2 40:=by
 obtain⟨i0,hi,hz0,hz1,hz2⟩:=info_parts (by kernel_rfl:(Tryz.prog.info? 321).map (fun i=>(i.zero,i.size,i.bytes))=some (some (.agg #[.string ⟨#[]⟩,.slice none 0 0]),2,40));exact⟨i0,_,Tryz.underlying333,hi,hz0,hz1,hz2,rfl,by decide,by decide⟩
theorem Z81:Zdp Tryz.prog 334 364 5 56:=by
 obtain⟨i0,hi,hz0,hz1,hz2⟩:=info_parts (by kernel_rfl:(Tryz.prog.info? 364).map (fun i=>(i.zero,i.size,i.bytes))=some (some (.agg #[.int .i64 0,.string ⟨#[]⟩,.int .i64 0,.string ⟨#[]⟩,.int .i64 0]),5,56));exact⟨i0,_,Tryz.underlying334,hi,hz0,hz1,hz2,rfl,by decide,by decide⟩
def Zik (p m:Nat) (hn:ByteArray) (hv:Value):Array Value:=#[.pointer (some ⟨p,0,none⟩),.string hn,hv,.slice none 0 0,.slice none 0 0,.slice none 0 0,.map (some m),.slice none 0 0]++Array.replicate 964 (.int .u64 0)
theorem Z5p (p m:Nat)(hn:ByteArray)(hv:Value):((((Tryz.zeroCells342.setIfInBounds 0 (.pointer (some ⟨p,0,none⟩))).setIfInBounds 1 (.string hn)).setIfInBounds 2 hv).setIfInBounds 6 (.map (some m))).setIfInBounds 7 (.slice none 0 0)=Zik p m hn hv:=by kernel_rfl
theorem Zgq (p m:Nat)(hn:ByteArray)(hv:Value):(Zik p m hn hv).size=972:=by simp[Zik]
theorem Zdq (p m:Nat)(hn:ByteArray)(hv:Value)(j:Nat)(hj:j < 8):(Zik p m hn hv)[j]?=[Value.pointer (some ⟨p,0,none⟩),.string hn,hv,.slice none 0 0,.slice none 0 0,.slice none 0 0,.map (some m),.slice none 0 0][j]?:=by
 unfold Zik;rw[Ydo (by simpa using hj)];simp
theorem Zzj (p m:Nat)(hn:ByteArray)(hv:Value)(j:Nat)(hj:8<=j)(h2:j < 972):(Zik p m hn hv)[j]?=some (.int .u64 0):=by
 unfold Zik;rw[Array.getElem?_append_right (by simpa using hj),Array.getElem?_replicate,if_pos];show j - 8 < 964;omega
def Z8f (W0:World) (q p:Nat) (CV:Array Value) (fs:List (ByteArray×Nat)) (F0:List Nat) (st:List T×List Pt) (wr:World):Prop:= ∃ sv Fa F',Zdv wr p fs st.1 F'/\Blk wr q (CV.setIfInBounds 3 sv) 342/\Zag 321 2 Zri wr sv st.2 Fa/\Za9 W0.heap.size wr Fa/\(∀ i,i∈F'->i∈F0\/W0.heap.size<=i)/\(∀ i,i∈Fa->i∉F')/\Off (q::F0) W0 wr
def Z9g (W0:World) (q p:Nat) (CV:Array Value) (fs:List (ByteArray×Nat)) (F0:List Nat) (st:List T×List Gt) (wr:World):Prop:= ∃ sv Fa F',Zdv wr p fs st.1 F'/\Blk wr q (CV.setIfInBounds 4 sv) 342/\Zag 364 5 Zzf wr sv st.2 Fa/\Za9 W0.heap.size wr Fa/\(∀ i,i∈F'->i∈F0\/W0.heap.size<=i)/\(∀ i,i∈Fa->i∉F')/\Off (q::F0) W0 wr
end Go.P
