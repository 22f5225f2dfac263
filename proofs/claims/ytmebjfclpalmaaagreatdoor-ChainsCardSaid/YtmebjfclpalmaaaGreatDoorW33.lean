import Derived.Test.YtmebjfclpalmaaaGreatDoorW30
import Derived.Test.YtmebjfclpalmaaaGreatDoorW32
set_option maxRecDepth 100000
set_option maxHeartbeats 8000000
set_option linter.unusedSimpArgs false
open Go.Proofs Go.RowKit Go.W Tryz
namespace Go.W
def Zpk:Zgj (ByteArray×Nat):=fun _ vs x F=>F=[]/\vs=[.string x.1,.int .i64 (x.2:Int)]
theorem Zpk.stable:Zc3 Zpk:=fun _ _ _ _ _ h _=>h
theorem Zpk.nil: ∀ (w:World) (vs:List Value) (x:ByteArray×Nat) (F:List Nat),Zpk w vs x F->F=[]:=fun _ _ _ _ h=>h.1
theorem Zpk.one {w:World}{vs:List Value}{x:ByteArray×Nat}{F:List Nat}(h:Zpk w vs x F): ∀ u,u∈vs->u.oneCell'=true:=by
 obtain⟨_,rfl⟩:=h;intro u hu;simp at hu;rcases hu with rfl | rfl <;> rfl
end Go.W
namespace Go.P
variable {w:World}{p:Nat}
theorem Z57:Zdw prog 322 366 2 24:=by
 obtain⟨i0,hi,hz0,hz1,hz2⟩:=info_parts (by kernel_rfl:(prog.info? 366).map (fun i=>(i.zero,i.size,i.bytes))=some (some (.agg #[.string ⟨#[]⟩,.int .i64 0]),2,24));exact⟨i0,_,underlying322,hi,hz0,hz1,hz2,rfl,by decide,by decide⟩
theorem Zuo (q:Option Addr)(n:ByteArray)(c:Nat):
  Calls prog 215 #[.pointer (some ⟨p,0,none⟩),.agg #[.string n,.slice q 0 c]] w fun e w'=>e= .returned (.agg #[.string n,.slice none 0 0])/\Below w.heap.size w w':=by
 go_in
 go_wp2
 refine Ye7 1 ?_;rw[Ye5];go_wp2
 refine Ye6 (by simp[results,results215,go_sem];try rfl) rfl ?_;exact⟨rfl,(((Ydb _ w).alloc lr _).alloc (by simp) _).alloc (by simp;omega) _⟩
theorem Zj5 {fs:List (ByteArray×Nat)}{vs:List T}{F:List Nat}(h:Zd3 w p fs vs F){B D b o c:Nat}{x:T}(hx:Zbl B w (D+1) b o x)(hB:B<=w.heap.size)(hok:Zau 0 x=0)(hl:vs.length < 1000)(n:ByteArray):
  Calls prog 215 #[.pointer (some ⟨p,0,none⟩),.agg #[.string n,.slice (some ⟨b,o,none⟩) 1 c]] w fun e w'=> ∃ g cap,e= .returned (.agg #[.string n,.slice (some ⟨g,0,none⟩) 1 cap])/\w.heap.size<=g/\Zdu w' g (Zby vs x)/\ ∃ F',Zd3 w' p fs (Zcv vs x) F'/\Off F w w'/\(∀ i,i∈F'->i∈F\/w.heap.size<=i)/\g∉F':=by
 obtain⟨hbB,p1,c1,x0,x1,x2,x3,hS⟩:=hx.vals;have hxt:x.t.size < 1000000000:=by obtain⟨_,_,_,ht,_⟩:=hS;exact ht
 have hbw:b < w.heap.size:=Ydh hbB hB;have H:=Zaa h;obtain⟨W3,hW3⟩: ∃ W3,Box (((w.alloc (.cells #[.string n,.slice (some ⟨b,o,none⟩) 1 c] 112)).alloc (.cells #[.string ⟨#[]⟩,.slice none 0 0] 324)).alloc (.cells #[.string n,.slice none 0 0] 324)=W3):=⟨_,⟨rfl⟩⟩;have B3:Box (Below w.heap.size w W3):=⟨hW3.out▸(((Ydb _ w).alloc lr _).alloc (by simp) _).alloc (by simp;omega) _⟩;have S3:Box (W3.heap.size=w.heap.size+3):=⟨by rw[<- hW3.out];simp⟩;have L1:Box (Blk W3 (w.heap.size+1) #[.string ⟨#[]⟩,.slice none 0 0] 324):=⟨hW3.out▸(Zpo w _ _ _).alloc _⟩;have L2:Box (Blk W3 (w.heap.size+1+1) #[.string n,.slice none 0 0] 324):=⟨hW3.out▸Z2h w _ _ _ _⟩;have hbx:=B3.out.block b hbw;have x0':=(Yde (a:=⟨b,o,none⟩) hbx).trans x0;have x1':=(Yde (a:=⟨b,o+1,none⟩) hbx).trans x1;have x2':=(Yde (a:=⟨b,o+2,none⟩) hbx).trans x2;have x3':=(Yde (a:=⟨b,o+3,none⟩) hbx).trans x3;have z1:=fun ob=>(L2.out.alloc ob).two.2.1;have CS:=Zaa (fun u (hu:Below w.heap.size w u)=>Zss (h.of (w':=u) hu.size fun j hj=>hu.block j (h.lt j hj)) (Zc2.carry hS (Za4 hu hB)) (Ydc hB hu.size) hok hl);clear h hS hx;go_in
 go_wp2_with fail
 rw[hW3.out];refine Ye7 2 ?_;rw[Ye5];clear hW3 hbx x0 x1 x2 x3;go_wp2_with fail
 have nF: ∀ j,w.heap.size<=j->j∉F:=fun j hj h=>by have:=H.out.lt _ h;omega
 go_region_law (first
  | (go_simp;go_at_call 241;refine(CS.out _ (B3.out.alloc B3.out.size _).drew).mono ?_;rintro e w5 ⟨rfl,F5,hd5,ho5,hs5⟩;have K2:=(L2.out.alloc _).of (ho5.block (w.heap.size+1+1) (by have:=S3.out;simp;omega) (nF _ (by omega)));have k1:=K2.two.2.1;have ks:=K2.soft;have hz5:=K2.lt;have hw5:=ho5.size)
  | (refine Zdz Z57 rfl (.tmp 19) (.tmp 23) rfl Zpk.stable (fun _ _ _ _ h=>Zpk.one h) 0 (.slice none 0 0) [] [] rfl Zag.nil w5.heap.size #[.string (Zby vs x).1,.int .i64 ((Zby vs x).2:Int)] 366 (0,0) (Zby vs x) [] rfl (Zaw _ _) rfl ⟨rfl,rfl⟩ (by simp) (Yej _) (Za7.nil _ _) (Za7.nil _ _) (fun _ _ h=>by cases h) ?_;intro g6 cap6 w6 F6 happ;have b6:=(happ.same (w.heap.size+1+1) (by simp;omega) (by simp)).trans (Ydf _ _ _ hz5);have c6:=(Yde (a:=⟨w.heap.size+1+1,1,none⟩) b6).trans k1;have s6:=fun j=>(Yez (a:=⟨w.heap.size+1+1,j,none⟩) b6).trans (ks j)))
 all_goals
  have h3:=S3.out;have hw5':w.heap.size+4<=w5.heap.size:=by simp at hw5;omega
  have hg6:w5.heap.size < g6:=by
   rcases happ.sub g6 happ.row.own with h | h | h
   ·cases h
   ·cases h
   ·simp at h;omega
  have hs5': ∀ i,i∈F5->i∈F\/w.heap.size+4<=i:=fun i hi=>(hs5 i hi).imp id fun h=>by simp at h;omega
  have hF5: ∀ i,i∈F5->i≠w.heap.size+1/\i≠w.heap.size+1+1:=fun i hi=>by
   rcases hs5' i hi with h | h
   ·have:=H.out.lt i h;omega
   ·omega
  have up: ∀ j,j < w5.heap.size->w6.heap[j]?=w5.heap[j]?:=fun j hj=>(happ.same j (by simp;omega) (by simp)).trans (Ydf _ _ _ hj);have hsl:Zdu w6 g6 (Zby vs x):=by
   obtain⟨cur,A,cs,R,hcb,hcur,hAl,_,⟨_,hcs⟩,_⟩:=Zag.last (xs:=[]) Zpk.stable Zpk.nil happ.row;subst hcur hcs;refine⟨hcb.lt,?_,?_,?_⟩
   ·have:=Zg7 hcb hAl 0 _ rfl
    simpa using this
   ·have:=Zg7 hcb hAl 1 _ rfl
    simpa using this
   ·unfold Zby;split
    ·exact hxt
    ·exact(by decide:(ByteArray.mk #[]).size < 1000000000)
  have K7:=(K2.of b6).set 1 (.slice (some ⟨g6,0,none⟩) 1 cap6);have K1:=(((L1.out.alloc _).of (ho5.block (w.heap.size+1) (by simp;omega) (nF _ (by omega)))).of (up _ (by omega))).away (w.heap.size+1+1) 1 (by omega) (.slice (some ⟨g6,0,none⟩) 1 cap6);have hd7:=hd5.of (w':=w6.setCell ⟨w.heap.size+1+1,1,none⟩ (.slice (some ⟨g6,0,none⟩) 1 cap6)) (by have:=happ.size;simp[World.setCell]at this⊢;omega) fun j hj=>(Ydg _ _ _ _ (hF5 j hj).2).trans (up j (hd5.lt j hj));have ho7:Off F w w6:=((((Off.of B3.out).alloc _).drew.trans ho5 fun _ h=> .inl h)).trans (G:=[]) ⟨happ.os,happ.tape,happ.output,by have:=happ.size;simp at this;omega,fun j hj _=>up j hj⟩ fun _ h=>(by cases h);have hs7:=hsl.of (w':=w6.setCell ⟨w.heap.size+1+1,1,none⟩ (.slice (some ⟨g6,0,none⟩) 1 cap6)) (by simp[World.setCell]) (Ydg _ _ _ _ (show g6≠w.heap.size+1+1 by omega));have FIN:=Zaa (Yda hs7 (Yda hd7 (Yda (ho7.set (w.heap.size+1+1) 1 (.slice (some ⟨g6,0,none⟩) 1 cap6) (.inr (by omega))) (Yda hs5' (Yda hF5 (fun h=>by have:=hd5.lt g6 h;omega:g6∉F5))))));have hg1:w.heap.size<=g6/\g6≠w.heap.size+1:=⟨by omega,by omega⟩;clear hs7 hd7 ho7 hs5' hF5 hsl up hs5 ho5 hd5 happ b6 c6 s6 K2 k1 ks hz5 hw5 hw5' hg6 h3;generalize w6.setCell ⟨w.heap.size+1+1,1,none⟩ (.slice (some ⟨g6,0,none⟩) 1 cap6)=W7 at*;obtain⟨m0,m1,ms⟩:=Blk.two K7;obtain⟨n0,n1,ns⟩:=Blk.two K1;go_wp2_with fail
  rw[Ye5];go_wp2
  refine Ye6 (by simp[results,results215,go_sem,n0,n1];try rfl) rfl ?_;have FO:=FIN.out;refine⟨g6,cap6,rfl,hg1.1,FO.1.of (by simp[World.setCell]) ((Ydg _ _ _ _ hg1.2).trans (Ydg _ _ _ _ hg1.2)),F5,FO.2.1.of (by simp[World.setCell]) fun j hj=>(Ydg _ _ _ _ (FO.2.2.2.2.1 j hj).1).trans (Ydg _ _ _ _ (FO.2.2.2.2.1 j hj).1),(FO.2.2.1.set (w.heap.size+1) 0 _ (.inr (Yet _))).set (w.heap.size+1) 1 _ (.inr (Yet _)),fun i hi=>(FO.2.2.2.1 i hi).imp id (by omega),FO.2.2.2.2.2⟩
end Go.P
namespace Go.W
variable {w w':World}{v:Value}
theorem Zag.withF {α:Type}{e:TypeId}{s:Nat}{Q:Zgj α}{xs:List α}{F:List Nat}(h:Zag e s Q w v xs F):Zag e s (fun w vs x G=>Q w vs x G/\ ∀ k,k∈G->k∈F) w v xs F:=by
 obtain⟨zs,h1,h2,h3,h4,h5⟩:=h;refine⟨zs,h1,fun z hz=>⟨(h2 z hz).1,(h2 z hz).2,fun k hk=>?_⟩,h3,h4,h5⟩;rw[h4];simp only[Ydk,List.mem_flatten,List.mem_map];exact .inr ⟨z.2.2,⟨z,hz,rfl⟩,hk⟩
theorem Zsr {A:Array Value}{i:Nat}(h:A[i]?=some v):A.setIfInBounds i v=A:=by
 apply Array.ext (by simp)
 intro j h1 h2;rw[Array.getElem_setIfInBounds];split
 ·rename_i e;subst e;exact((Ydo.1 h).2).symm
 ·rfl
def Zrm:Zgj Pt:=fun w vs x F=> ∃ g c,F=[g]/\vs=[.string x.1,.slice (some ⟨g,0,none⟩) 1 c]/\Zdu w g x.2
theorem Zrm.stable:Zc3 Zrm:=fun w w' vs x F ⟨g,c,h1,h2,h3⟩ hb=>by
 subst h1;have e:=hb g (by simp);refine⟨g,c,rfl,h2,?_,(Yde (a:=⟨g,0,none⟩) e).trans h3.2.1,(Yde (a:=⟨g,1,none⟩) e).trans h3.2.2.1,h3.2.2.2⟩;rw[Array.getElem?_eq_getElem h3.1]at e;exact(Ydo.1 e).1
theorem Zrm.one: ∀ (w:World) (vs:List Value) (x:Pt) (F:List Nat),Zrm w vs x F-> ∀ u,u∈vs->u.oneCell'=true:=fun w vs x F ⟨g,c,h1,h2,h3⟩ u hu=>by
 subst h2;simp at hu;rcases hu with rfl | rfl <;> rfl
def Zzl:Zgj Gt:=fun _ vs x F=>F=[]/\vs=[.int .i64 (x.1:Int),.string x.2.1.1,.int .i64 (x.2.1.2:Int),.string x.2.2.1,.int .i64 (x.2.2.2:Int)]
theorem Zzl.stable:Zc3 Zzl:=fun _ _ _ _ _ h _=>h
theorem Zzl.one: ∀ (w:World) (vs:List Value) (x:Gt) (F:List Nat),Zzl w vs x F-> ∀ u,u∈vs->u.oneCell'=true:=fun w vs x F ⟨h1,h2⟩ u hu=>by
 subst h2;simp at hu;rcases hu with rfl | rfl | rfl | rfl | rfl <;> rfl
def HdO (w:World) (v:Value) (hd:Option (ByteArray×Nat)) (G:List Nat):Prop:=match hd with
 | none=>v= .slice none 0 0/\G=[]
 | some s=> ∃ g c,v= .slice (some ⟨g,0,none⟩) 1 c/\G=[g]/\Zdu w g s
theorem HdO.of {hd:Option (ByteArray×Nat)}{G:List Nat}(h:HdO w v hd G)(hs:w.heap.size<=w'.heap.size)(hb: ∀ k,k∈G->w'.heap[k]?=w.heap[k]?):HdO w' v hd G:=by
 cases hd with
 | none=>exact h
 | some s=>
  obtain⟨g,c,h1,h2,h3⟩:=h;exact⟨g,c,h1,h2,h3.of hs (hb g (by simp[h2]))⟩
def HmO (w:World) (v:Value) (hm:Option ByteArray) (G:List Nat):Prop:=match hm with
 | none=>v= .slice none 0 0/\G=[]
 | some y=> ∃ g c,v= .slice (some ⟨g,0,none⟩) 1 c/\G=[g]/\w.cell? ⟨g,0,none⟩=some (.string y)/\w.cell? ⟨g,1,none⟩=some (.int .i64 0)/\w.cell? ⟨g,2,none⟩=some (.int .i64 0)
theorem HmO.of {hm:Option ByteArray}{G:List Nat}(h:HmO w v hm G)(hb: ∀ k,k∈G->w'.heap[k]?=w.heap[k]?):HmO w' v hm G:=by
 cases hm with
 | none=>exact h
 | some y=>
  obtain⟨g,c,h1,h2,h3,h4,h5⟩:=h;have cell: ∀ o,w'.cell? ⟨g,o,none⟩=w.cell? ⟨g,o,none⟩:=fun o=>Yde (a:=⟨g,o,none⟩) (hb g (by simp[h2]));exact⟨g,c,h1,h2,(cell 0).trans h3,(cell 1).trans h4,(cell 2).trans h5⟩
def Zfh (st:List T×List Pt) (a:A):List T×List Pt:=(Zcv st.1 (a.terms.headD T0),st.2++[(a.name,Zby st.1 (a.terms.headD T0))])
def Zhd (st:List T×List Gt) (g:G):List T×List Gt:=(Zcv (Zcv st.1 g.a) g.b,st.2++[(g.op.toNat,Zby st.1 g.a,Zby (Zcv st.1 g.a) g.b)])
end Go.W
namespace Go.P
theorem Z85:Zdw prog 336 324 2 40:=by
 obtain⟨i0,hi,hz0,hz1,hz2⟩:=info_parts (by kernel_rfl:(prog.info? 324).map (fun i=>(i.zero,i.size,i.bytes))=some (some (.agg #[.string ⟨#[]⟩,.slice none 0 0]),2,40));exact⟨i0,_,underlying336,hi,hz0,hz1,hz2,rfl,by decide,by decide⟩
theorem Z83:Zdw prog 337 371 5 56:=by
 obtain⟨i0,hi,hz0,hz1,hz2⟩:=info_parts (by kernel_rfl:(prog.info? 371).map (fun i=>(i.zero,i.size,i.bytes))=some (some (.agg #[.int .i64 0,.string ⟨#[]⟩,.int .i64 0,.string ⟨#[]⟩,.int .i64 0]),5,56));exact⟨i0,_,underlying337,hi,hz0,hz1,hz2,rfl,by decide,by decide⟩
def Zih (p m:Nat) (hn:ByteArray) (hv:Value):Array Value:=#[.pointer (some ⟨p,0,none⟩),.string hn,hv,.slice none 0 0,.slice none 0 0,.slice none 0 0,.map (some m),.slice none 0 0]++Array.replicate 964 (.int .u64 0)
theorem Z5y (p m:Nat)(hn:ByteArray)(hv:Value):((((zeroCells345.setIfInBounds 0 (.pointer (some ⟨p,0,none⟩))).setIfInBounds 1 (.string hn)).setIfInBounds 2 hv).setIfInBounds 6 (.map (some m))).setIfInBounds 7 (.slice none 0 0)=Zih p m hn hv:=by kernel_rfl
theorem Zg0 (p m:Nat)(hn:ByteArray)(hv:Value):(Zih p m hn hv).size=972:=by simp[Zih]
theorem Zdx (p m:Nat)(hn:ByteArray)(hv:Value)(j:Nat)(hj:j < 8):(Zih p m hn hv)[j]?=[Value.pointer (some ⟨p,0,none⟩),.string hn,hv,.slice none 0 0,.slice none 0 0,.slice none 0 0,.map (some m),.slice none 0 0][j]?:=by
 unfold Zih;rw[Yd6 (by simpa using hj)];simp
theorem Zzt (p m:Nat)(hn:ByteArray)(hv:Value)(j:Nat)(hj:8<=j)(h2:j < 972):(Zih p m hn hv)[j]?=some (.int .u64 0):=by
 unfold Zih;rw[Array.getElem?_append_right (by simpa using hj),Array.getElem?_replicate,if_pos];show j - 8 < 964;omega
def Z8g (W0:World) (q p:Nat) (CV:Array Value) (fs:List (ByteArray×Nat)) (F0:List Nat) (st:List T×List Pt) (wr:World):Prop:= ∃ sv Fa F',Zd3 wr p fs st.1 F'/\Blk wr q (CV.setIfInBounds 3 sv) 345/\Zag 324 2 Zrm wr sv st.2 Fa/\Za7 W0.heap.size wr Fa/\(∀ i,i∈F'->i∈F0\/W0.heap.size<=i)/\(∀ i,i∈Fa->i∉F')/\Off (q::F0) W0 wr
def Z8k (W0:World) (q p:Nat) (CV:Array Value) (fs:List (ByteArray×Nat)) (F0:List Nat) (st:List T×List Gt) (wr:World):Prop:= ∃ sv Fa F',Zd3 wr p fs st.1 F'/\Blk wr q (CV.setIfInBounds 4 sv) 345/\Zag 371 5 Zzl wr sv st.2 Fa/\Za7 W0.heap.size wr Fa/\(∀ i,i∈F'->i∈F0\/W0.heap.size<=i)/\(∀ i,i∈Fa->i∉F')/\Off (q::F0) W0 wr
end Go.P
