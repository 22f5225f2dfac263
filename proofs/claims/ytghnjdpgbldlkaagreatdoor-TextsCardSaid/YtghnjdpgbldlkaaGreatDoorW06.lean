import Derived.Test.YtghnjdpgbldlkaaGreatDoorW05
import Derived.Deep.RegionHeld3
import Derived.Deep.RegionHeld
import Derived.OrdersIn
set_option linter.defProp false
set_option maxRecDepth 100000
set_option maxHeartbeats 8000000
set_option linter.unusedSimpArgs false
open Go.Proofs Go.RowKit Go.W Tryz
namespace Go.W
variable {w w':World}{vs:List Value}{F:List Nat}{r:Nat}
def Py:D9 (ByteArray×Nat):=fun _ vs x F=>F=[]/\vs=He x
def Py.stable:IB Py:=fun _ _ _ _ _ h _=>h
def Py.one {x:ByteArray×Nat}(h:Py w vs x F): ∀ u,u∈vs->u.oneCell'=true:=by
 obtain⟨_,rfl⟩:=h;intro u hu;simp[He]at hu;rcases hu with rfl | rfl | rfl | rfl <;> rfl
def KG:D9 T:=fun _ vs x F=>F=[]/\ ∃ p c,vs=[.int .i64 x.k,.int .i64 x.i,.string x.t,.slice p x.l.length c]
def KG.stable:IB KG:=fun _ _ _ _ _ h _=>h
def KG.one {x:T}(h:KG w vs x F): ∀ u,u∈vs->u.oneCell'=true:=by
 obtain⟨_,p,c,rfl⟩:=h;intro u hu;simp at hu;rcases hu with rfl | rfl | rfl | rfl <;> rfl
def Qn.of {bs:List ByteArray}(h:Qn w r bs)(hb:w'.heap[r]?=w.heap[r]?):Qn w' r bs:=by
 obtain⟨es,c,h1,h2⟩:=h;exact⟨es,c,hb.trans h1,h2⟩
def Qq.of {fs:List (ByteArray×Nat)}(h:Qq w r fs)(hb:w'.heap[r]?=w.heap[r]?):Qq w' r fs:=by
 obtain⟨es,c,h1,h2⟩:=h;exact⟨es,c,hb.trans h1,h2⟩
def jb (vs:List T) (x:T):Nat:=(Ul (Ci x) (vs.map Ci) 0).getD vs.length
def Zo (vs:List T) (x:T):List T:=if(Ul (Ci x) (vs.map Ci) 0).isSome then vs else vs++[x]
end Go.W
namespace Go.P
variable {w w':World}{p n B b:Nat}{fs:List (ByteArray×Nat)}{vs:List T}{F:List Nat}{s:ByteArray}
structure Wd (w:World) (p:Nat) (fs:List (ByteArray×Nat)) (vs:List T) (F:List Nat) (k r:Nat) (fv vv:Value) (Ff Fv:List Nat):Prop where
 blk:AJ w p #[fv,.map<|some k,vv,.map<|some r] 316
 facts:AO 320 8 Py w fv fs Ff
 vals:AO 100 4 KG w vv vs Fv
 know:Qq w k fs
 num:Qn w r (vs.map Ci)
 own:F=p::k::r::(Ff++Fv)
 new:Af 0 w F
def Bv (w:World) (p:Nat) (fs:List (ByteArray×Nat)) (vs:List T) (F:List Nat):Prop:= ∃ k r fv vv Ff Fv,Wd w p fs vs F k r fv vv Ff Fv
def Bv.of (h:Bv w p fs vs F)(hs:w.heap.size<=w'.heap.size)(hb: ∀ k,k∈F->w'.heap[k]?=w.heap[k]?):Bv w' p fs vs F:=by
 obtain⟨k,r,fv,vv,Ff,Fv,h⟩:=h;have e:=h.own;subst e;exact⟨k,r,fv,vv,Ff,Fv,h.blk.of<|hb _ zw,AO.stable Py.stable _ _ _ _ _ h.facts fun j hj=>hb j (by simp[hj]),AO.stable KG.stable _ _ _ _ _ h.vals fun j hj=>hb j (by simp[hj]),h.know.of<|hb _ zw,h.num.of<|hb _ zw,rfl,h.new.later lr hs⟩
def Bv.lt (h:Bv w p fs vs F): ∀ k,k∈F->k<w.heap.size:=by
 obtain⟨k,r,fv,vv,Ff,Fv,h⟩:=h;exact h.new.lt
def Bv.off {G:List Nat}(h:Bv w p fs vs F)(k:Off G w w')(hd: ∀ j,j∈F->j∉G):Bv w' p fs vs F:=
 h.of k.size fun j hj=>k.block j (h.lt j hj) (hd j hj)
def WN (B b:Nat) (s:ByteArray) (w:World):Prop:= ∃ g c cur p T fb fg,B<=g/\w.heap[b]?=some (.cells #[p,.slice (Qb g 0) s.size c] T fb)/\w.heap[g]?=some (.cells cur 5 fg)/\cur.toList.take s.size=Lib.strCells s/\s.size<=cur.size/\0<s.size/\s.size<1000000000/\c≠0
def Znk {a:Addr}{k:Nat}{c:Array Value}{e:TypeId}{fr:Nat×Nat}(h:w.heap[k]?=some (.cells c e fr)): ∃ fr',(w.freeze a n).heap[k]?=some (.cells c e fr'):=by
 unfold World.freeze;split
 ·exact⟨fr,h⟩
 ·simp only[Array.getElem?_modify,h];split
  ·exact⟨_,rfl⟩
  ·exact⟨fr,rfl⟩
def WN.of {T:Nat}(h:Ak T B b s w)(hs:s.size<1000000000)(h0:0<s.size):WN B b s w:=by
 obtain⟨p,va,vc,DT,hown,JY⟩:=h.form;rcases hown.2 with⟨_,hz⟩ | ⟨g,cap,cur,hv,ag,hg,za,hcm,hcs,L9⟩
 ·omega
 injection hv with FL hv2 hv3;subst FL hv3;exact⟨g,vc,cur,p,T,(0,0),(0,0),ag,DT,hg,by simpa using L9,zx,h0,hs,zx⟩
def WN.freeze {g:Nat}(h:WN B b s w):WN B b s (w.drew.freeze ⟨g,0,none⟩ n):=by
 obtain⟨g',c,cur,p,T,fb,fg,h1,h2,h3,h4⟩:=h;obtain⟨fb',k2⟩:=Znk (a:=⟨g,0,none⟩) (n:=n) (w:=w.drew) h2;obtain⟨fg',k3⟩:=Znk (a:=⟨g,0,none⟩) (n:=n) (w:=w.drew) h3;exact⟨g',c,cur,p,T,fb',fg',h1,k2,k3,h4⟩
def wF (h:WN B b s w):
  Calls prog 26 #[.pointer<|Qb b 0] w fun e w'=>e= .returned (.string s)/\WN B b s w'/\Below B w w':=by
 have H:=AA h;obtain⟨g,c,cur,p,T,fb,fg,ag,hb,hg,L9,hle,h0,hs,hc⟩:=h;have c1:w.cell? ⟨b,1,none⟩=some (.slice (Qb g 0) s.size c):=cell_of_row w b 1 _ T fb hb;have kJ:w.drew.shape? g=some (5,cur.size):=by have Gz:w.drew.heap[g]?=some (.cells cur 5 fg):=hg;simp[World.shape?,Gz]
 have hne:s.data.toList≠[]:=fun q=>absurd h0 (by show ¬ 0<s.data.size;rw[<- UE,q];simp);have lC:=fun u=>Lib.run_unsafeSliceData_row (P:=prog) u #[74] 136 ⟨g,0,none⟩ s.size c hc;have hUS:(Builtin.unsafeString_ #[136,3] 9 #[.pointer<|Qb g 0,.int .i64 (s.size:Int)]).run prog w.drew= .ok (.string s) (w.drew.freeze ⟨g,0,none⟩ s.size):=
  Lib.run_unsafeString_row w.drew 136 3 9 5 underlying136 vP g cur.size kJ s.data.toList hne (by rw[UE];exact hle) (by rw[UE];show s.size<=_;omega) (fun j x hx=>by
   have hj:j<s.size:=by have:=(Gl.1 hx).1;rwa [UE]at this
   rw[Addr.add_lit,Hr,show(w.drew).cell? ⟨g,j,none⟩=cur[j]? from cell_of_row w.drew g j cur 5 fg hg,<- UG];have e1:(cur.toList.take s.size)[j]?=cur.toList[j]?:=List.getElem?_take_of_lt hj;rw[<- e1,L9];simp[Lib.strCells,hx])
 clear kJ hle hb hg L9;go_in
 go_wp2
 go_region
 all_goals (go_wp2;go_ret;exact⟨rfl,H.out.freeze,Lib.below_freeze ((AQ B w).drew) (p:=⟨g,0,none⟩) ag _⟩)
end Go.P
namespace Go.W
variable {e:TypeId}{s g cap j m:Nat}{w:World}{F:List Nat}{v:Value}
def AO.last {α:Type}{Q:D9 α}(hQ:IB Q)(hF: ∀ w vs x F,Q w vs x F->F=[]){xs:List α}{y:α}(h:AO e s Q w (.slice (Qb g 0) (xs.length+1) cap) (xs++[y]) F):
  ∃ cur A cs R,AJ w g cur e/\cur=(A++(cs++R)).toArray/\A.length=xs.length*s/\cs.length=s/\Q w cs y []/\ ∀ w' cs' x,AJ w' g (A++(cs'++R)).toArray e->cs'.length=s->Q w' cs' x []->AO e s Q w' (.slice (Qb g 0) (xs.length+1) cap) (xs++[x]) F:=by
 obtain⟨zs,hown,hz,hx,rfl,hl⟩:=h;obtain⟨zs,z,rfl⟩: ∃ zs' z,zs=zs'++[z]:=by
  cases hzs:zs.reverse with
  | nil=>
   have:=List.reverse_eq_nil_iff.1 hzs
   subst this;simp at hx
  | cons z r=>exact⟨r.reverse,z,by have:=congrArg List.reverse hzs;simpa using this⟩
 rw[List.map_append]at hx;obtain⟨rfl,hy⟩:=List.append_inj' hx rfl;simp at hy;subst hy;obtain⟨hzl,pZ⟩:=hz z zw;have hz2:=hF _ _ _ _ pZ;rw[hz2]at pZ;have hall: ∀ (l:List (List Value×α×List Nat)),(∀ z,z∈l->z.1.length=s)->((l.map (·.1)).flatten).length=l.length*s:=by
  intro l;induction l with
  | nil=>intro _;simp
  | cons a l ih=>intro hh;simp[hh a zw,ih fun z hz=>hh z (by simp[hz]),Nat.succ_mul,Nat.add_comm]
 have hA:=hall zs fun z hm=>(hz z (by simp[hm])).1;rcases hown.2 with⟨hv,h0⟩ | ⟨g',cap',cur,hv,h1,h2,h3,h4,h5,h6⟩
 ·simp at h0
 injection hv with FL hv2 hv3;injection FL with FL;injection FL with FL;subst FL hv3;have NI:cur.toList=(zs.map (·.1)).flatten++(z.1++cur.toList.drop ((zs++[z]).length*s)):=by
  have e1:=List.take_append_drop ((zs++[z]).length*s) cur.toList;rw[h6]at e1;simpa using e1.symm
 refine⟨cur,(zs.map (·.1)).flatten,z.1,cur.toList.drop<|(zs++[z]).length*s,h2,by rw[<- NI],by rw[hA];simp,hzl,pZ,fun w' cs' x hb hc hq=>?_⟩;refine⟨zs++[(cs',x,[])],⟨by rw[List.map_append,List.flatten_append,Bq,hA];simp[hc,Nat.succ_mul],.inr ⟨g,cap,_,zw,h1,hb,by simpa using h3,h4,?_,?_⟩⟩,?_,zw,by simp[hz2,Value.ownBlock],by simpa using hl⟩
 ·have:=congrArg List.length NI
  simp[hzl,hc]at this⊢;omega
 ·rw[Bq,List.length_singleton,Nat.succ_mul,<- hA,<- hc,<- GY];have e1:(zs.map (·.1)).flatten.length+cs'.length=((zs.map (·.1)).flatten++cs').length:=zw
  rw[e1];simp only[List.take_left'];simp
 ·intro z' hm;rcases CY.1 hm with hm | hm
  ·refine⟨(hz z' (by simp[hm])).1,?_⟩;have aK:=(hz z' (by simp[hm])).2;have e:=hF _ _ _ _ aK;exact hQ w w' _ _ _ aK (by rw[e];intro k hk;cases hk)
  ·simp at hm;subst hm;exact⟨hc,hq⟩
def AO.own {α:Type}{Q:D9 α}{n c:Nat}{xs:List α}(h:AO e s Q w (.slice (Qb g 0) n c) xs F):g∈F:=by
 obtain⟨_,_,_,_,rfl,_⟩:=h;simp[Value.ownBlock]
def MJ.X0 {α:Type}{Q:D9 α}{B:Nat}{w1:World}{xs:List α}{y:α}{F':List Nat}(h:MJ e s Q B w w1 xs F [] y g cap F')(hj:j<w.heap.size)(hn:j∉F):j∉F':=fun hF=>by
 rcases h.sub j hF with h | h | h
 ·exact hn h
 ·cases h
 ·omega
def AO.nth {α:Type}{Q:D9 α}{xs:List α}(h:AO e s Q w v xs F)(i:Nat)(x:α)(hx:xs[i]?=some x): ∃ g cap cs G,v= .slice (Qb g 0) xs.length cap/\g∈F/\Q w cs x G/\ ∀ j u,cs[j]?=some u->w.cell? ⟨g,i*s+j,none⟩=some u:=by
 obtain⟨zs,hown,hz,rfl,rfl,hl⟩:=h;rw[Jq]at hx;obtain⟨z,X9,rfl⟩:=SE.1 hx;obtain⟨hz1,hz2⟩:=hz z<|U8 X9;have hil:=(Gl.1 X9).1;rcases hown.2 with⟨rfl,h0⟩ | ⟨g,cap,cur,rfl,h1⟩
 ·omega
 refine⟨g,cap,z.1,z.2.2,zw,by simp[Value.ownBlock],hz2,fun j v hj=>?_⟩;have hj4:j<s:=by have:=(Gl.1 hj).1;omega
 have hall: ∀ (l:List (List Value×α×List Nat)) (n:Nat),(∀ z,z∈l->z.1.length=s)->l[n]?=some z->(l.map (·.1)).flatten[n*s+j]?=some v:=by
  intro l;induction l with
  | nil=>intro n _ h;simp at h
  | cons a l ih=>
   intro n hh hn;have ha:=hh a zw;cases n with
   | zero=>
    simp at hn;subst hn;simp only[List.map_cons,List.flatten_cons,Ol,Hr];rw[Q0 zx];exact hj
   | succ n=>
    simp only[List.map_cons,List.flatten_cons];rw[Q7 (by rw[ha,Nat.succ_mul];omega),show(n+1)*s+j-a.1.length=n*s+j by rw[ha,Nat.succ_mul];omega];exact ih n (fun z hz=>hh z (by simp[hz])) (by simpa using hn)
 have:=hown.cells (g:=g) rfl (i*s+j) v<|hall zs i (fun z hm=>(hz z hm).1) X9
 simpa[Addr.add_lit]using this
def bR {A cs R:List Value}(hb:AJ w g (A++(cs++R)).toArray e)(hA:A.length=m)(j:Nat)(v:Value)(hj:cs[j]?=some v):w.cell? ⟨g,m+j,none⟩=some v:=by
 rw[hb.cell,Qz,Q7 zx,show m+j-A.length=j by omega,Q0 (Gl.1 hj).1,hj]
def mD {A B R:List Value}{y:Value}(hA:A.length=m)(hB:B.length=j):(A++(B++y::R)).toArray.setIfInBounds (m+j) v=(A++(B++v::R)).toArray:=by
 rw[List.setIfInBounds_toArray,List.set_append_right _ _ zx,show m+j-A.length=j by omega,List.set_append_right _ _ zx,show j-B.length=0 by omega];rfl
end Go.W
namespace Go.W
def KG.nil: ∀ (w:World) (vs:List Value) (x:T) (F:List Nat),KG w vs x F->F=[]:=fun _ _ _ _ h=>h.1
def T0:T:= .mk 0 0 ⟨#[]⟩ []
def Qn.lt {w:World}{r:Nat}{bs:List ByteArray}(h:Qn w r bs):r<w.heap.size:=by
 obtain⟨es,c,h,_⟩:=h;exact(IU.1 h).1
end Go.W
namespace Go.P
variable {w w' W:World}{p k r g m:Nat}{fs:List (ByteArray×Nat)}{vs:List T}{F Ff Fv:List Nat}{fv vv v0 v1 v2 v3:Value}
def oF {P:Program}{c:Code}{K:Act->World->Prop}{Q:Exit->Act->World->Prop}{a:Act}(K3:Act->World->Prop)(h:c.wp P (Exit.then K3 Q) a w)(hk: ∀ a w,K3 a w->K a w):c.wp P (Exit.then K Q) a w:=
 Code.wp_mono (fun e a w q=>by cases e <;> first | exact hk _ _ q | exact q) h
def Wd.of (h:Wd w p fs vs F k r fv vv Ff Fv)(hs:w.heap.size<=w'.heap.size)(hb: ∀ k,k∈F->w'.heap[k]?=w.heap[k]?):Wd w' p fs vs F k r fv vv Ff Fv:=by
 have e:=h.own;subst e;exact⟨h.blk.of<|hb _ zw,AO.stable Py.stable _ _ _ _ _ h.facts fun j hj=>hb j (by simp[hj]),AO.stable KG.stable _ _ _ _ _ h.vals fun j hj=>hb j (by simp[hj]),h.know.of<|hb _ zw,h.num.of<|hb _ zw,rfl,h.new.later lr hs⟩
def Wd.below (h:Wd w p fs vs F k r fv vv Ff Fv)(hb:Bl w w'):Wd w' p fs vs F k r fv vv Ff Fv:=h.of hb.size fun j hj=>hb.block j (h.new.lt j hj)
def Wd.apart (h:Wd w p fs vs F k r fv vv Ff Fv):(p≠k/\p≠r/\p∉Ff/\p∉Fv)/\(k≠r/\k∉Ff/\k∉Fv)/\(r∉Ff/\r∉Fv)/\Ff.Nodup/\Fv.Nodup/\ ∀ a,a∈Ff->a∉Fv:=by
 have nd:=h.new.once;rw[h.own]at nd;simp only[List.nodup_cons,Be,CY,not_or,Qy]at nd;exact⟨nd.1,nd.2.1,nd.2.2.1,nd.2.2.2.1,nd.2.2.2.2.1,fun a ha hb=>nd.2.2.2.2.2 a ha a hb rfl⟩
def Yaq (w6 W:World) (p o g m:Nat) (sv:Value) (cs:List Value):Prop:=(∀ e A old R,AJ w6 g (A++(old++R)).toArray e->A.length=m->old.length=cs.length->p≠g->AJ W g (A++(cs++R)).toArray e)/\(∀ e vs,AJ w6 p vs e->p≠g->AJ W p (vs.setIfInBounds o sv) e)/\(∀ j,j≠p->j≠g->W.heap[j]?=w6.heap[j]?)/\W.heap.size=w6.heap.size/\W.os=w6.os/\W.tape=w6.tape/\W.output=w6.output
def Ye0 {e:TypeId}{A old R:List Value}(h:AJ w g (A++(old++R)).toArray e)(hA:A.length=m)(ho:old.length=4):AJ ((((w.setCell ⟨g,m,none⟩ v0).setCell ⟨g,m+1,none⟩ v1).setCell ⟨g,m+2,none⟩ v2).setCell ⟨g,m+3,none⟩ v3) g (A++([v0,v1,v2,v3]++R)).toArray e:=by
 match old,ho with
 | [o0,o1,o2,o3],_=>
  have:=(((h.set (m+0) v0).set (m+1) v1).set (m+2) v2).set (m+3) v3
  rw[show([o0,o1,o2,o3]++R)=[]++o0::([o1,o2,o3]++R)from rfl,mD (B:=[]) (j:=0) hA rfl]at this;rw[show([]++v0::([o1,o2,o3]++R))=[v0]++o1::([o2,o3]++R)from rfl,mD (B:=[v0]) (j:=1) hA rfl]at this;rw[show([v0]++v1::([o2,o3]++R))=[v0,v1]++o2::([o3]++R)from rfl,mD (B:=[v0,v1]) (j:=2) hA rfl]at this;rw[show([v0,v1]++v2::([o3]++R))=[v0,v1,v2]++o3::R from rfl,mD (B:=[v0,v1,v2]) (j:=3) hA rfl]at this;exact this
def Z6w {o:Nat}{sv:Value}(h:W=((((w.setCell ⟨g,m,none⟩ v0).setCell ⟨g,m+1,none⟩ v1).setCell ⟨g,m+2,none⟩ v2).setCell ⟨g,m+3,none⟩ v3).setCell ⟨p,o,none⟩ sv\/W=((((w.setCell ⟨p,o,none⟩ sv).setCell ⟨g,m,none⟩ v0).setCell ⟨g,m+1,none⟩ v1).setCell ⟨g,m+2,none⟩ v2).setCell ⟨g,m+3,none⟩ v3):Yaq w W p o g m sv [v0,v1,v2,v3]:=by
 have hs: ∀ (u:World) a v,(u.setCell a v).heap.size=u.heap.size:=fun u a v=>by simp[World.setCell]
 have h1: ∀ (u:World) a v,(u.setCell a v).os=u.os:=fun _ _ _=>rfl;have h2: ∀ (u:World) a v,(u.setCell a v).tape=u.tape:=fun _ _ _=>rfl;have h3: ∀ (u:World) a v,(u.setCell a v).output=u.output:=fun _ _ _=>rfl;rcases h with rfl | rfl
 ·refine⟨fun e A old R h hA ho hn=>(Ye0 h hA ho).away p o (Ne.symm hn) sv,fun e vs h hn=>((((h.away g m hn v0).away g (m+1) hn v1).away g (m+2) hn v2).away g (m+3) hn v3).set o sv,fun j h1 h2=>?_,by rw[hs,hs,hs,hs,hs],by rw[h1,h1,h1,h1,h1],by rw[h2,h2,h2,h2,h2],by rw[h3,h3,h3,h3,h3]⟩;rw[Au _ _ _ _ h1,Au _ _ _ _ h2,Au _ _ _ _ h2,Au _ _ _ _ h2,Au _ _ _ _ h2]
 ·refine⟨fun e A old R h hA ho hn=>Ye0 (h.away p o (Ne.symm hn) sv) hA ho,fun e vs h hn=>((((h.set o sv).away g m hn v0).away g (m+1) hn v1).away g (m+2) hn v2).away g (m+3) hn v3,fun j h1 h2=>?_,by rw[hs,hs,hs,hs,hs],by rw[h1,h1,h1,h1,h1],by rw[h2,h2,h2,h2,h2],by rw[h3,h3,h3,h3,h3]⟩;rw[Au _ _ _ _ h2,Au _ _ _ _ h2,Au _ _ _ _ h2,Au _ _ _ _ h2,Au _ _ _ _ h1]
def Wd.tH {w4 W5 U w6:World}{F6:List Nat}{x:T}{g6 Bt:Nat}{q:Option Addr}{c:Nat}(D4:Wd w4 p fs vs F k r fv vv Ff Fv)(O5:Off [r] w4 W5)(Xm:Qn W5 r ((vs.map Ci)++[Ci x]))(hU:Off [] W5 U)(AM:MJ 100 4 KG 0 U w6 vs Fv [] T0 g6 Bt F6)(hW:Yaq w6 W p 2 g6 (vs.length*4) (.slice (Qb g6 0) (vs.length+1) Bt) [.int .i64 x.k,.int .i64 x.i,.string x.t,.slice q x.l.length c]):
  ∃ F',Bv W p fs (vs++[x]) F'/\Off F w4 W/\ ∀ i,i∈F'->i∈F\/w4.heap.size<=i:=by
 obtain⟨h1,h2,h3,h4,h5,h6,h7⟩:=hW;obtain⟨⟨pk,pr,pf,pv⟩,⟨kr,kf,kv⟩,⟨rf,rv⟩,nf,nv,iH⟩:=D4.apart;have hown:=D4.own;have Im:=D4.new.lt;rw[hown]at Im;have s5:=O5.size;have sU:=hU.size;have s6:=AM.size;have up: ∀ j,j<w4.heap.size->j≠r->j∉Fv->w6.heap[j]?=w4.heap[j]?:=fun j hj hr hv=>(AM.same j zx hv).trans ((hU.block j zx zw).trans<|O5.block j hj (by simpa using hr));have Di: ∀ j,j∈F6->j∈Fv\/w4.heap.size<=j:=fun j hj=>by
  rcases AM.sub j hj with h | h | h
  ·exact .inl h
  ·cases h
  ·exact .inr zx
 have QU: ∀ j,j<w4.heap.size->j∉Fv->j∉F6:=fun j hj hn hF=>(Di j hF).elim hn zx;have lp:=Im p zw;have lk:=Im k zw;have lr:=Im r zw;have lf: ∀ j,j∈Ff->j<w4.heap.size:=fun j hj=>Im j (by simp[hj]);have fJ:g6∈F6:=AM.row.own;have kN:p≠g6:=fun e=>QU p lp pv (e▸fJ);have Xt: ∀ j,j<w4.heap.size->j≠r->j∉Fv->j≠p->W.heap[j]?=w4.heap[j]?:=fun j hj hr hv hp=>(h3 j hp fun e=>QU j hj hv (e▸fJ)).trans (up j hj hr hv);have hrW:W.heap[r]?=W5.heap[r]?:=(h3 r (Ne.symm pr) fun e=>QU r lr rv (e▸fJ)).trans<|(AM.same r zx rv).trans<|hU.block r zx zw;obtain⟨cur,A,cs,R,hcb,NI,Ue,RQ,_,hput⟩:=AO.last KG.stable KG.nil AM.row;subst NI;refine⟨p::k::r::(Ff++F6),⟨k,r,fv,.slice (Qb g6 0) (vs.length+1) Bt,Ff,F6,?_,?_,?_,D4.know.of<|Xt k lk kr kv<|Ne.symm pk,?_,rfl,?_,fun _ _=>Ii _,?_⟩,?_,?_⟩
 ·exact h2 _ _ (D4.blk.of<|up p lp pr pv) kN
 ·exact AO.stable Py.stable _ _ _ _ _ D4.facts fun j hj=>Xt j (lf j hj) (fun e=>rf (e▸hj)) (iH j hj) (fun e=>pf (e▸hj))
 ·exact hput W _ x (h1 _ A cs R hcb Ue (by rw[RQ];rfl) kN) rfl ⟨rfl,q,c,rfl⟩
 ·rw[List.map_append];exact Xm.of hrW
 ·simp only[List.nodup_cons,Be,CY,not_or,Qy];exact⟨⟨pk,pr,pf,QU p lp pv⟩,⟨kr,kf,QU k lk kv⟩,⟨rf,QU r lr rv⟩,nf,AM.new.once,fun a ha b hb e=>QU a (lf a ha) (iH a ha) (e▸hb)⟩
 ·intro j hj
  have:=AM.new.lt
  simp only[Be,CY]at hj;rcases hj with rfl | rfl | rfl | hj | hj
  ·omega
  ·omega
  ·omega
  ·have:=lf j hj;omega
  ·have:=this j hj;omega
 ·refine⟨by rw[h5,AM.os,hU.os,O5.os],by rw[h6,AM.tape,hU.tape,O5.tape],by rw[h7,AM.output,hU.output,O5.output],zx,fun j hj hn=>?_⟩;rw[hown]at hn;simp only[Be,CY,not_or]at hn;exact Xt j hj hn.2.2.1 hn.2.2.2.2 hn.1
 ·intro i hi;rw[hown];simp only[Be,CY]at hi⊢;rcases hi with rfl | rfl | rfl | hi | hi
  ·simp
  ·simp
  ·simp
  ·simp[hi]
  ·rcases Di i hi with h | h
   ·simp[h]
   ·exact .inr h
end Go.P
namespace Go.W
def AO.at4 {e:TypeId}{w:World}{v:Value}{xs:List T}{F:List Nat}(h:AO e 4 KG w v xs F)(i:Nat)(x:T)(hx:xs[i]?=some x): ∃ g cap q c,v= .slice (Qb g 0) xs.length cap/\w.cell? ⟨g,i*4,none⟩=some (.int .i64 x.k)/\w.cell? ⟨g,i*4+1,none⟩=some (.int .i64 x.i)/\w.cell? ⟨g,i*4+2,none⟩=some (.string x.t)/\w.cell? ⟨g,i*4+3,none⟩=some (.slice q x.l.length c):=by
 obtain⟨g,cap,cs,G,rfl,_,⟨_,q,c,rfl⟩,key⟩:=h.nth i x hx;exact⟨g,cap,q,c,rfl,key 0 _ rfl,key 1 _ rfl,key 2 _ rfl,key 3 _ rfl⟩
end Go.W
namespace Go.P
def Z1z {w:World}{p:Nat}{fs:List (ByteArray×Nat)}{vs:List T}{F:List Nat}(h:Bv w p fs vs F)(hm:w.cell? ⟨13,2,none⟩=some (.string ⟨#[60]⟩))(a b:Nat)(x y:T)(ha:vs[a]?=some x)(hb:vs[b]?=some y)(OG:x.k=5)(YA:y.k=5)(hlt:x.i<y.i):
  Calls prog 258 #[.pointer<|Qb p 0,.int .i64 3,.int .i64 (a:Int),.int .i64 (b:Int)] w fun e w'=>e= .returned (.bool true)/\Bl w w':=by
 obtain⟨k,r,fv,vv,Ff,Fv,hw⟩:=h;obtain⟨g,cap,q,c,rfl,x0,x1,x2,x3⟩:=AO.at4 hw.vals a x ha;obtain⟨g',cap',q',c',e,y0,y1,y2,y3⟩:=AO.at4 hw.vals b y hb;injection e with e1 e2 e3;injection e1 with e1;injection e1 with e1;subst e1;have RS:(a:Int)<(vs.length:Int):=by have:=(Gl.1 ha).1;omega
 have hbl:(b:Int)<(vs.length:Int):=by have:=(Gl.1 hb).1;omega
 obtain⟨p0,p1,p2,p3,ps⟩:=hw.blk.four;have Kq:g<w.heap.size:=hw.new.lt g (by rw[hw.own];simp[hw.vals.own]);have hpl:=hw.blk.lt;have Sv:13<w.heap.size:=Ll hm;rw[OG]at x0;rw[YA]at y0;have B2:=fun o o'=>(((AQ w.heap.size w).alloc lr o).alloc zw o').drew;clear hw ha hb OG YA;go_in
 go_wp2
 go_region
 all_goals
  go_wp2
  go_ret
  exact⟨rfl,B2 _ _⟩
end Go.P
namespace Go.W
abbrev Pt:=ByteArray×(ByteArray×Nat)
abbrev Gt:=Nat×(ByteArray×Nat)×(ByteArray×Nat)
def Yf6 (w:World) (S:List Nat) (pa:Option Addr) (i:Nat) (x:Pt):Prop:= ∃ ga g c,pa=some ⟨ga,0,none⟩/\ga∈S/\g∈S/\w.cell? ⟨ga,i*2,none⟩=some (.string x.1)/\w.cell? ⟨ga,i*2+1,none⟩=some (.slice (Qb g 0) 1 c)/\JL w g x.2
def Yf4 (w:World) (S:List Nat) (pa:Option Addr) (i:Nat) (x:Gt):Prop:= ∃ ga,pa=some ⟨ga,0,none⟩/\ga∈S/\w.cell? ⟨ga,i*5,none⟩=some (.int .i64 (x.1:Int))/\w.cell? ⟨ga,i*5+1,none⟩=some (.string x.2.1.1)/\w.cell? ⟨ga,i*5+2,none⟩=some (.int .i64 (x.2.1.2:Int))/\w.cell? ⟨ga,i*5+3,none⟩=some (.string x.2.2.1)/\w.cell? ⟨ga,i*5+4,none⟩=some (.int .i64 (x.2.2.2:Int))/\x.2.1.1.size<1000000000/\x.2.2.1.size<1000000000
structure pF (w:World) (cs:Array Value) (p:Nat) (at_:List Pt) (gs:List Gt) (S:List Nat):Prop where
 sz:cs.size=972
 c0:cs[0]?=some (.pointer<|Qb p 0)
 atoms: ∃ pa ca,cs[3]?=some (.slice pa at_.length ca)/\ ∀ i x,at_[i]?=some x->Yf6 w S pa i x
 guards: ∃ pg cg,cs[4]?=some (.slice pg gs.length cg)/\ ∀ i x,gs[i]?=some x->Yf4 w S pg i x
 lS: ∀ j,j∈S->j<w.heap.size
def pF.of {w w':World}{cs cs':Array Value}{p:Nat}{at_:List Pt}{gs:List Gt}{S:List Nat}(h:pF w cs p at_ gs S)(hs:w.heap.size<=w'.heap.size)(hb: ∀ k,k∈S->w'.heap[k]?=w.heap[k]?)(hc:cs'.size=cs.size/\ ∀ j,j<5->cs'[j]?=cs[j]?):pF w' cs' p at_ gs S:=by
 obtain⟨h1,h2,⟨pa,ca,h3,h4⟩,⟨pg,cg,h5,h6⟩,h7⟩:=h;have cell: ∀ g,g∈S-> ∀ o,w'.cell? ⟨g,o,none⟩=w.cell? ⟨g,o,none⟩:=fun g hg o=>Am (a:=⟨g,o,none⟩) (hb g hg);refine⟨hc.1.trans h1,(hc.2 0 zx).trans h2,⟨pa,ca,(hc.2 3 zx).trans h3,fun i x hx=>?_⟩,⟨pg,cg,(hc.2 4 zx).trans h5,fun i x hx=>?_⟩,fun j hj=>Ba (h7 j hj) hs⟩
 ·obtain⟨ga,g,c,e,m1,m2,k1,k2,k3⟩:=h4 i x hx;exact⟨ga,g,c,e,m1,m2,by rw[cell ga m1];exact k1,by rw[cell ga m1];exact k2,k3.of hs<|hb g m2⟩
 ·obtain⟨ga,e,m1,k0,k1,k2,k3,k4,k5,k6⟩:=h6 i x hx;exact⟨ga,e,m1,by rw[cell ga m1];exact k0,by rw[cell ga m1];exact k1,by rw[cell ga m1];exact k2,by rw[cell ga m1];exact k3,by rw[cell ga m1];exact k4,k5,k6⟩
def WJ (xs:List (ByteArray×Nat)) (vs:List T) (g:Gt):Prop:=g.1=3/\((GK xs g.2.1).2=false\/(GK xs g.2.2).2=false\/ ∃ x y,vs[(GK xs g.2.1).1]?=some x/\vs[(GK xs g.2.2).1]?=some y/\x.k=5/\y.k=5/\x.i<y.i)
end Go.W
namespace Go.P
variable {w:World}{F:List Nat}
def JG (w:World):Prop:=U6 w/\w.cell? ⟨13,2,none⟩=some (.string ⟨#[60]⟩)/\23<=w.heap.size
def JG.of {w':World}(h:JG w)(k:Off F w w')(hF: ∀ j,j∈F->23<=j):JG w':=by
 obtain⟨⟨h0,h1,h2⟩,h3,h4⟩:=h;have cell: ∀ g,g<23-> ∀ o,w'.cell? ⟨g,o,none⟩=w.cell? ⟨g,o,none⟩:=fun g hg o=>Am (a:=⟨g,o,none⟩) (k.block g zx fun q=>by have:=hF g q;omega);exact⟨⟨by rw[cell _ zu];exact h0,by rw[cell _ zu];exact h1,by rw[cell _ zu];exact h2⟩,by rw[cell _ zu];exact h3,AU h4 k.size⟩
structure Ctx (w:World) (q p m:Nat) (cs:Array Value) (at_:List Pt) (gs:List Gt) (S:List Nat) (fs:List (ByteArray×Nat)) (vs:List T) (F:List Nat) (xs:List (ByteArray×Nat)) (ov:Value) (Fo:List Nat):Prop where
 bd:Bd w q 344 6 m cs xs ov Fo
 rd:pF w cs p at_ gs S
 wd:Bv w p fs vs F
 gl:JG w
 dB: ∀ j,j∈q::m::Fo->j∉F/\j∉S/\23<=j
 dF: ∀ j,j∈F->j∉S/\23<=j
section
variable {w w':World} {q p m:Nat} {cs cs':Array Value} {at_:List Pt} {gs:List Gt} {S:List Nat} {fs fs':List (ByteArray×Nat)} {vs aB:List T} {F F':List Nat} {xs xs':List (ByteArray×Nat)} {ov Aw:Value} {Fo Aj:List Nat}
def Ctx.step (h:Ctx w q p m cs at_ gs S fs vs F xs ov Fo)(hb:Bd w' q 344 6 m cs' xs' Aw Aj)(ho:Off (q::m::Fo) w w')(hs: ∀ i,i∈Aj->i∈Fo\/w.heap.size<=i)(hc:cs'.size=cs.size/\ ∀ j,j<5->cs'[j]?=cs[j]?):Ctx w' q p m cs' at_ gs S fs vs F xs' Aw Aj:=by
 refine⟨hb,h.rd.of ho.size (fun k hk=>ho.block k (h.rd.lS k hk) fun q=>(h.dB k q).2.1 hk) hc,h.wd.off ho fun j hj q=>(h.dB j q).1 hj,h.gl.of ho fun j hj=>(h.dB j hj).2.2,fun j hj=>?_,h.dF⟩;simp only[Be]at hj;rcases hj with rfl | rfl | hj
 ·exact h.dB _ zw
 ·exact h.dB _ zw
 ·rcases hs j hj with hj | hj
  ·exact h.dB j (by simp[hj])
  ·exact⟨fun q=>by have:=h.wd.lt j q;omega,fun q=>by have:=h.rd.lS j q;omega,AU h.gl.2.2 hj⟩
def Ctx.other {G:List Nat}(h:Ctx w q p m cs at_ gs S fs vs F xs ov Fo)(ho:Off G w w')(hG: ∀ j,j∈G->j∉q::m::Fo/\j∉F/\j∉S/\23<=j):Ctx w' q p m cs at_ gs S fs vs F xs ov Fo:=
 ⟨h.bd.off ho fun j hj q=>(hG j q).1 hj,h.rd.of ho.size (fun k hk=>ho.block k (h.rd.lS k hk) fun q=>(hG k q).2.2.1 hk) ⟨rfl,fun _ _=>rfl⟩,h.wd.off ho fun j hj q=>(hG j q).2.1 hj,h.gl.of ho fun j hj=>(hG j hj).2.2.2,h.dB,h.dF⟩
def Ctx.below (h:Ctx w q p m cs at_ gs S fs vs F xs ov Fo)(hb:Bl w w'):Ctx w' q p m cs at_ gs S fs vs F xs ov Fo:=
 h.step (h.bd.off (Off.of (F:=[]) hb) fun _ _=>zw) (Off.of hb) (fun _ h=> .inl h) ⟨rfl,fun _ _=>rfl⟩
end
def wR {q p m:Nat}{cs:Array Value}{at_:List Pt}{gs:List Gt}{S:List Nat}{fs:List (ByteArray×Nat)}{vs:List T}{xs:List (ByteArray×Nat)}{ov:Value}{Fo:List Nat}(h:Ctx w q p m cs at_ gs S fs vs F xs ov Fo)(hl:gs.length<=1)(hg: ∀ g,g∈gs->WJ xs vs g):
  Calls prog 230 #[.pointer<|Qb q 0] w fun e w'=>e= .returned (.bool true)/\Bl w w':=by
 obtain⟨pg,cg,c4,hG⟩:=h.rd.guards;have hcell: ∀ j,j≠7->w.cell? ⟨q,j,none⟩=cs[j]?:=fun j hj=>by
  rw[h.bd.blk.cell,Bc,if_neg zx]
 have q4:=(hcell 4 zx).trans c4;have q0:=(hcell 0 zx).trans h.rd.c0;match gs,hl with
 | [],_=>
  clear h;go_in
  go_wp2
  refine Dt 1 ?_;rw[A8];go_wp2
  go_ret
  exact⟨rfl,AQ _ _⟩
 | [y],_=>
  obtain⟨ga,rfl,TG,y0,y1,y2,y3,y4,z1,z2⟩:=hG 0 y rfl;obtain⟨h3,hy⟩:=hg y zw;have Kq:=h.rd.lS ga TG;have Dv:=h.bd.blk.lt;obtain⟨op,sa,sb⟩:=y;have CO:=AA fun u (hu:Bl w u) (s:ByteArray×Nat) (hs:s.1.size<1000000000)=>uG (w:=u) (q:=q) (o:=6) (v:= .map<|some m) (xs:=xs) (.inr ⟨m,rfl,h.bd.map.of<|hu.block m h.bd.map.lt⟩) ((Am (a:=⟨q,6,none⟩)<|hu.block q h.bd.blk.lt).trans h.bd.cells.1) (Ba h.bd.blk.lt hu.size) (fun j hj=>by injection hj with hj;injection hj with hj;subst hj;exact Ba h.bd.map.lt hu.size) s hs;dsimp only at h3 hy y0 y1 y2 y3 y4 z1 z2;subst h3;simp only[Ol,Hr]at y0 y1 y2 y3 y4;have H:=AA h;clear h hG hg hcell c4;go_in
  go_wp2
  refine Dt 2 ?_;rw[A8];go_wp2_with fail
  have B1: ∀ o,Bl w (w.alloc o):=fun o=>(AQ _ w).alloc lr o;go_region_with (go_at_call 250;refine(CO.out _ (B1 _).drew sa z1).mono ?_;rintro e w2 ⟨rfl,hb2⟩)
  have LG:=AA<|(AJ.new w #[.int .i64 3,.string sa.1,.int .i64 (sa.2:Int),.string sb.1,.int .i64 (sb.2:Int)] 373).of<|hb2.block w.heap.size zw;have Ce:=AA<|(B1 _).drew.trans<|hb2.mono zw;have g0:=AJ.cell LG.out 0;have g3:=AJ.cell LG.out 3;have g4:=AJ.cell LG.out 4;have yu:=(Am (a:=⟨q,0,none⟩)<|Ce.out.block q Dv).trans q0;simp at g0 g3 g4;clear hb2;go_wp2
  go_region_with (go_at_call 250;refine(CO.out _ Ce.out.drew sb z2).mono ?_;rintro e w3 ⟨rfl,hb3⟩)
  go_simp;have SI:=AA<|Ce.out.drew.trans<|hb3.mono Ce.out.size;have eP:w2.heap.size<=w3.heap.size:=hb3.size;have k0:=(Am (a:=⟨w.heap.size,0,none⟩)<|hb3.block w.heap.size LG.out.lt).trans g0;have dP:=(Am (a:=⟨q,0,none⟩)<|SI.out.block q Dv).trans q0;have CC:=AA fun n1 n2 x y h1 h2 h3 h4 h5=>Z1z (w:=w3.drew) (H.out.below SI.out.drew).wd (H.out.below SI.out.drew).gl.2.1 n1 n2 x y h1 h2 h3 h4 h5;clear hb3 g0 g3 g4 yu CO y0 y1 y2 y3 y4 q0 q4;generalize (GK xs sa).1=va at*;generalize (GK xs sb).1=vb at*;generalize (GK xs sa).2=ka at*;generalize (GK xs sb).2=kb at*;cases ka with
  | false=>
   clear hy CC;go_wp2
   go_quiet (fail)
   go_wp2_with fail
   rw[A8];go_wp2
   go_ret
   exact⟨rfl,KR SI.out⟩
  | true=>
   cases kb with
   | false=>
    clear hy CC;go_wp2
    go_quiet (fail)
    go_wp2_with fail
    rw[A8];go_wp2
    go_ret
    exact⟨rfl,KR SI.out⟩
   | true=>
    obtain h | h | ⟨x,y,h1,h2,h3,h4,h5⟩:=hy
    ·cases h
    ·cases h
    have C1:=AA<|CC.out va vb x y h1 h2 h3 h4 h5;clear CC h1 h2 h3 h4 h5;go_wp2_with fail
    have di:=LG.out.lt;go_region_held3 (fun u=>u.cell? ⟨w.heap.size,0,none⟩=some (.int .i64 3)/\u.cell? ⟨q,0,none⟩=some (.pointer<|Qb p 0)) (first | exact⟨k0,dP⟩ | exact⟨k4,q4⟩) (first
     | (go_at_call 258;refine mq C1.out ?_;rintro w4 hb4;have k4:=(Am (a:=⟨w.heap.size,0,none⟩)<|hb4.block w.heap.size<|Ba di eP).trans k0;have q4:=(Am (a:=⟨q,0,none⟩)<|hb4.block q<|Ba Dv SI.out.size).trans dP))
    all_goals
     have WR:=AA<|SI.out.drew.trans<|hb4.mono SI.out.size;clear hb4 C1;go_wp2_with fail
     rw[A8];go_wp2
     go_ret
     exact⟨rfl,WR.out⟩
end Go.P
namespace Go.W
variable {P:Program}{ops:Array Oper}{Q:Exit->Act->World->Prop}{n l:Nat}
def oK (o:Oper):Bool:=match o.op with
 | .defer _=>false
 | _=>true
def Z4w {o:Oper}(h:oK o=true)(c:_):o.op≠ .defer c:=fun e=>by unfold oK at h;rw[e]at h;cases h
def Z38 {md:Region.Mode}(hQ: ¬ LetsOut Q)(hd:ops.all oK=true):
  ∀ (fuel:Nat) (listed:Array Bool) (a:Act) (w:World),wpAny P md ops Q fuel listed a w->wpAnyIn (Fence.wide.inRound l) n P md ops Q fuel listed a w:=by
 intro fuel;induction fuel with
 | zero=>intro listed a w h;exact h
 | succ fuel ih=>
  intro listed a w h;refine⟨h.1,fun i hi=>?_⟩;have h2:=h.2 i hi;unfold wpOp at h2;unfold wpOpIn;split
  ·rename_i ho;simp only[ho]at h2;exact ih _ _ _ h2
  ·rename_i o ho;simp only[ho]at h2;have hm:o∈ops:=Array.mem_of_getElem? ho;split
   ·rename_i hw;simp only[hw,if_true]at h2;rcases h2 with h2 | h2
    ·refine⟨fun _ _=>trivial,?_⟩;rw[Oper.semAt_eq _ _ _<|Z4w<|Array.all_eq_true_iff_forall_mem.1 hd o hm];unfold Oper.wp at h2;generalize (execOp a.eval o).run P w=r at*;cases r with
     | ok x w'=>
      cases x with
      | value v=>exact ih _ _ _ h2
      | skip=>exact ih _ _ _ h2
      | defer d=>exact ih _ _ _ h2
      | enter f args=>exact⟨fun h=>(by cases h),CallsIn.inRound l<|callsIn_wide.2<|Calls.mono h2 (fun e w'' he=>by cases e <;> first | exact ih _ _ _ he | exact he)⟩
      | row row args=>exact⟨fun h=>(by cases h),fun c cs _=>let ⟨v,w'',r,s⟩:=Rows.mono h2 (fun _ _ he=>ih _ _ _ he) c cs;⟨v,w'',r,stepsIn_wide.2 s⟩⟩
      | _=>exact h2.elim
     | halt x w'=>cases x <;> exact h2
    ·exact absurd h2.2 hQ
   ·rename_i hw;simp only[hw]at h2;exact⟨fun _ _=>trivial,ih _ _ _ h2⟩
def nX {id:Nat}{a:Act}{w:World}(S:World->Prop)(hm:P.follows .mixedOrders=true)(hQ: ¬ LetsOut Q)(hd:ops.all oK=true)(h:wpAnyH P .any ops Q S ops.size (Array.replicate ops.size false) a w.drew):(Code.region id ops true).wpIn (Fence.wide.inRound l) n P Q a w:=
 wpIn_region_any hm (Z38 hQ hd _ _ _ _<|wpAny_of_held _ _ _ _ h)
end Go.W
