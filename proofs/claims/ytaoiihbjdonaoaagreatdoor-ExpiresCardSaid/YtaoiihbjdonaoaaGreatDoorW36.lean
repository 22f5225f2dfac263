import Derived.Test.YtaoiihbjdonaoaaGreatDoorW32
import Derived.Laws.StructEq
set_option linter.defProp false
set_option maxRecDepth 100000
set_option maxHeartbeats 8000000
set_option linter.unusedSimpArgs false
open Go.Proofs Go.RowKit Go.W Tryz
namespace Go.W
variable {P:Prop}
def Vl (x:Sl):List Sl->Bool
 | []=>false
 | y::l=>decide (x=y) || Vl x l
def qU {x:Sl}: ∀ {l:List Sl},Vl x l=true↔x∈l
 | []=>by simp[Vl]
 | y::l=>by rw[Vl,Bool.or_eq_true,decide_eq_true_eq,qU,Ak]
def Ycf {x:Sl}{l:List Sl}(h:x∉l):Vl x l=false:=by
 cases hb:Vl x l with
 | false=>rfl
 | true=>exact absurd (qU.1 hb) h
def YH (P:Prop) (e:Ending):Prop:= ∃ i:Int,e= .returned (zo i)/\((decide (0<=i)=true/\P)\/(decide (0<=i)=false/\ ¬ P))
def YH.at_ (i:Nat)(h:P):YH P (.returned<|zo (i:Int)):=⟨i,rfl,.inl ⟨zw,h⟩⟩
def YH.no (h: ¬ P):YH P (.returned<|zo (-1)):=⟨-1,rfl,.inr ⟨zu,h⟩⟩
end Go.W
namespace Go.P
variable {w:World}{p1:Option Addr}{c:Nat}
def Z8q (x y:Sl)(w:World):(binOp .eql 332 (.agg #[.string x.1,zo (x.2:Int)])<|.agg #[.string y.1,zo (y.2:Int)]).run prog w= .ok (.bool<|decide<|x=y) w:=by
 rw[run_eql_struct,run_equalIn_struct w _ _ _ _ zt zt];go_simp;by_cases h1:x.1=y.1
 ·rw[if_pos (by rw[h1])];by_cases h2:x.2=y.2
  ·rw[if_pos (by rw[h2]),Nv<|Prod.ext h1 h2]
  ·rw[if_neg zx,I8 fun e=>h2 (by rw[e])]
 ·rw[if_neg fun e=>h1 (ByteArray.ext (by have:=congrArg List.toArray e;simpa[Nw]using this)),I8 fun e=>h1 (by rw[e])]
def Z6h {G:List Nat}{ss:List Sl}(hp:Ap 2 (VW w G) p1 ss)(hG: ∀ j,j∈G->j<w.heap.size)(s:Sl):Calls prog 255 #[.slice p1 ss.length c,.agg #[.string s.1,zo (s.2:Int)]] w fun e w'=>YH (s∈ss) e/\Bl w w':=by
 have HP:=AC hp;have HG:=AC hG;have he:=Z8q s;have hlen:=hp.len;have B0:=fun o=>(AR w.heap.size w).alloc lr o;obtain⟨W1,hW1⟩: ∃ W1,AF (w.alloc (.cells #[.string s.1,zo (s.2:Int)] 332)=W1):=⟨_,⟨rfl⟩⟩;have B1:AF (Bl w W1):=⟨hW1.out▸B0 _⟩;have L1:AF (AO W1 w.heap.size #[.string s.1,zo (s.2:Int)] 332):=⟨hW1.out▸AO.new w _ _⟩;clear hp hG B0;go_in
 go_wp2_with fail
 rw[hW1.out];clear hW1;go_loopw [8] (fun iv wr=> ∃ j:Nat,j<=ss.length/\iv= zo (j:Int)/\s∉ss.take j/\Bl w wr/\AO wr w.heap.size #[.string s.1,zo (s.2:Int)] 332) (fun iv _=>ss.length-(intOf iv).toNat)
 case atStart=>exact⟨0,zx,rfl,zw,B1.out,L1.out⟩
 case round=>
  obtain⟨j,hj,rfl,hn,hb,hl⟩:=hrel;have KK:=AC<|AJ hn<|AJ hb hl;by_cases hlt:j<ss.length
  ·obtain⟨b,o1,rfl,WI,s0,s1,_⟩:=HP.out.get j hlt;have hbl:=HG.out b WI;have lT:=(A9 (a:=(zm b (o1+j*2)))<|hb.block b hbl).trans s0;have lQ:=(A9 (a:=(zm b (o1+j*2+1)))<|hb.block b hbl).trans s1;have c0:=hl.two.1;have c1:=hl.two.2.1;have he':=fun w=>he ss[j] w;have Il:(j:Int)<(ss.length:Int):=zx
   have E:AF (ss.take (j+1)=ss.take j++[ss[j]]):=⟨by rw[PM,A8 hlt];rfl⟩;have M:AF (ss[j]∈ss):=⟨QO _⟩;clear hn hb hl s0 s1 he;generalize ss[j]=y at*;by_cases hy:s=y
   ·have HY:=AC hy;rw[Nv hy]at he';clear hy;go_wp2
    go_quiet (fail)
    all_goals
     go_wp2
     go_ret
     exact⟨YH.at_ j (by rw[HY.out];exact M.out),MW KK.out.2.1⟩
   ·have HY:=AC hy;rw[I8 hy]at he';clear hy;go_wp2
    go_quiet (fail)
    all_goals
     go_wp2
     go_roundw
     case rel=>exact⟨j+1,zx,by go_num,by rw[E.out,Aj,Bh,not_or];exact⟨KK.out.1,HY.out⟩,MW KK.out.2.1,KK.out.2.2.of rfl⟩
     case measure=>simp[intOf];omega
  ·obtain rfl:j=ss.length:=zx
   clear hn hb hl;go_wp2
   go_ret
   exact⟨YH.no (by have:=KK.out.1;rwa [On]at this),KK.out.2.1⟩
def Zv8 {G:List Nat}{ss:List Sl}(hp:Ap 2 (VW w G) p1 ss)(hG: ∀ j,j∈G->j<w.heap.size)(s:Sl):Calls prog 240 #[.slice p1 ss.length c,.agg #[.string s.1,zo (s.2:Int)]] w fun e w'=>e= .returned (.bool<|Vl s ss)/\Bl w w':=by
 have C:=AC fun o=>Z6h (w:=w.alloc o) (c:=c) (hp.carry fun b o' y ⟨k0,k1,k2,k3⟩=>⟨k0,(A9 (a:=(zm b o'))<|Ah _ _ _<|hG b k0).trans k1,(A9 (a:=(zm b (o'+1)))<|Ah _ _ _<|hG b k0).trans k2,k3⟩) (fun j hj=>by have:=hG j hj;simp;omega) s;have B0:=fun o=>(AR w.heap.size w).alloc lr o;clear hp hG;go_in
 go_wp2_with fail
 refine(C.out _).mono ?_;rintro e w' ⟨⟨i,rfl,hi⟩,hb⟩;have HB:=AC<|(B0 _).trans<|hb.mono zw;clear hb B0;rcases hi with⟨h1,h2⟩ | ⟨h1,h2⟩
 ·have H2:=AC<|qU.2 h2;clear h2;go_wp2
  go_ret
  exact⟨by rw[H2.out];rfl,HB.out⟩
 ·have H2:=AC<|Ycf h2;clear h2;go_wp2
  go_ret
  exact⟨by rw[H2.out];rfl,HB.out⟩
end Go.P
namespace Go.W
variable {x:ByteArray}
def Uo (x:ByteArray):List Hm->Bool
 | []=>false
 | y::l=>decide (y.1=x) || Uo x l
def qV: ∀ {l:List Hm},Uo x l=true↔x∈l.map (·.1)
 | []=>by simp[Uo]
 | y::l=>by rw[Uo,Bool.or_eq_true,decide_eq_true_eq,qV,List.map_cons,Ak,eq_comm]
def Yce {l:List Hm}(h:x∉l.map (·.1)):Uo x l=false:=by
 cases hb:Uo x l with
 | false=>rfl
 | true=>exact absurd (qV.1 hb) h
def xI (w:World) (G:List Nat) (b o:Nat) (h:Hm):Prop:=b∈G/\w.cell? (zm b o)=some (.string h.1)/\w.cell? (zm b (o+1))=some (zo (h.2.1:Int))/\w.cell? (zm b (o+2))=some (zo (h.2.2:Int))
end Go.W
namespace Go.P
variable {w:World}{sb c:Nat}{p1:Option Addr}
attribute [local go_sem] Me
def Z5s {s:Sl}(hb:AO w sb #[.string s.1,zo (s.2:Int)] 332)(h:Hm):Calls prog 239 #[.agg #[.string h.1,zo (h.2.1:Int),zo (h.2.2:Int)],zq sb 0] w fun e w'=>e= .returned (.bool<|decide<|h.1=s.1)/\Bl w w':=by
 have c0:=hb.two.1;have fB:=fun o=>(hb.alloc o).two.1;have B0:=fun o=>(AR w.heap.size w).alloc lr o;have hd:(h.1.toList==s.1.toList)=decide (h.1=s.1):=by
  by_cases e:h.1=s.1
  ·simp[e]
  ·rw[I8 e,BJ];exact fun q=>e (jy q)
 clear hb;go_in
 go_wp2
 go_ret
 exact⟨rfl,B0 _⟩
def Z5m {G:List Nat}{hs:List Hm}(hp:Ap 3 (xI w G) p1 hs)(hG: ∀ j,j∈G->j<w.heap.size){s:Sl}(hb:AO w sb #[.string s.1,zo (s.2:Int)] 332):Calls prog 256 #[.slice p1 hs.length c,.func (.func 239) #[] #[zq sb 0]] w fun e w'=>YH (s.1∈hs.map (·.1)) e/\Bl w w':=by
 have HP:=AC hp;have HG:=AC hG;have hlen:=hp.len;have hbl:=hb.lt;have CI:=AC fun u (hu:Bl w u)=>Z5s (hb.of<|hu.block sb hbl);have hen: ∀ args w,(callFunc 239 args).run prog w= .ok (.enter 239 args) w:=EH func239 zt rfl;clear hp hG hb;go_in
 go_wp2
 go_loopw [8] (fun iv wr=> ∃ j:Nat,j<=hs.length/\iv= zo (j:Int)/\s.1∉(hs.take j).map (·.1)/\Bl w wr) (fun iv _=>hs.length-(intOf iv).toNat)
 case atStart=>exact⟨0,zx,rfl,zw,AR _ w⟩
 case round=>
  obtain⟨j,hj,rfl,hn,hb⟩:=hrel;have KK:=AC<|AJ hn hb;by_cases hlt:j<hs.length
  ·obtain⟨b,o1,rfl,WI,s0,s1,s2⟩:=HP.out.get j hlt;have hbl:=HG.out b WI;have lT:=(A9 (a:=(zm b (o1+j*3)))<|hb.block b hbl).trans s0;have lQ:=(A9 (a:=(zm b (o1+j*3+1)))<|hb.block b hbl).trans s1;have s2':=(A9 (a:=(zm b (o1+j*3+2)))<|hb.block b hbl).trans s2;have Il:(j:Int)<(hs.length:Int):=zx
   have E:AF (hs.take (j+1)=hs.take j++[hs[j]]):=⟨by rw[PM,A8 hlt];rfl⟩;have M:AF (hs[j]∈hs):=⟨QO _⟩;have C1:=AC<|CI.out wr hb hs[j];clear hn hb s0 s1 s2;generalize hs[j]=y at*;go_wp2_with fail
   refine mq C1.out ?_;rintro w2 hb2;have Ey:=AC<|KK.out.2.trans<|hb2.mono KK.out.2.size;clear hb2 C1 lT lQ s2';by_cases hy:y.1=s.1
   ·have HY:=AC hy;rw[Nv hy];clear hy;go_wp2
    go_ret
    exact⟨YH.at_ j (by rw[<- HY.out];exact List.mem_map_of_mem (f:=(·.1)) M.out),Ey.out⟩
   ·have HY:=AC hy;rw[I8 hy];clear hy;go_wp2
    go_roundw
    case rel=>exact⟨j+1,zx,by go_num,by rw[E.out,List.map_append,Aj,not_or];exact⟨KK.out.1,by simpa using fun e=>HY.out e.symm⟩,Ey.out⟩
    case measure=>simp[intOf];omega
  ·obtain rfl:j=hs.length:=zx
   clear hn hb;go_wp2
   go_ret
   exact⟨YH.no (by have:=KK.out.1;rwa [On]at this),KK.out.2⟩
def Zvj {G:List Nat}{hs:List Hm}(hp:Ap 3 (xI w G) p1 hs)(hG: ∀ j,j∈G->j<w.heap.size){s:Sl}(hb:AO w sb #[.string s.1,zo (s.2:Int)] 332):Calls prog 241 #[.slice p1 hs.length c,.func (.func 239) #[] #[zq sb 0]] w fun e w'=>e= .returned (.bool<|Uo s.1 hs)/\Bl w w':=by
 have C:=AC<|Z5m (c:=c) hp hG hb;clear hp hG hb;go_in
 go_wp2_with fail
 refine C.out.mono ?_;rintro e w' ⟨⟨i,rfl,hi⟩,hb⟩;have HB:=AC hb;clear hb;rcases hi with⟨h1,h2⟩ | ⟨h1,h2⟩
 ·have H2:=AC<|qV.2 h2;clear h2;go_wp2
  go_ret
  exact⟨by rw[H2.out];rfl,HB.out⟩
 ·have H2:=AC<|Yce h2;clear h2;go_wp2
  go_ret
  exact⟨by rw[H2.out];rfl,HB.out⟩
end Go.P
namespace Go.W
variable {I K i k:Nat}{x:ByteArray}
def Xi (hd:List Sl) (i:Nat) (acc:List Hm) (k:Nat) (s:Sl):List Hm:=if s.1.size≠0/\Vl s hd=true/\Uo s.1 acc=false then acc++[(s.1,i,k)]else acc
def ah (hd:List Sl) (i:Nat):List Hm->Nat->List Sl->List Hm
 | acc,_,[]=>acc
 | acc,k,s::ss=>ah hd i (Xi hd i acc k s) (k+1) ss
def Y0 (hd:List Sl):List Hm->Nat->List Pt->List Hm
 | acc,_,[]=>acc
 | acc,i,p::ps=>Y0 hd (ah hd i acc 0 p.2) (i+1) ps
def TS (hd:List Sl) (at_:List Pt):List Hm:=Y0 hd [] 0 at_
structure TF (hd:List Sl) (I K:Nat) (at_:Nat->Nat->Sl->Prop) (hs:List Hm):Prop where
 nd:(hs.map (·.1)).Nodup
 lt: ∀ h,h∈hs->h.2.1<I/\h.2.2<K
 from_: ∀ h,h∈hs-> ∃ n,at_ h.2.1 h.2.2 (h.1,n)/\(h.1,n)∈hd/\h.1.size≠0
def TF.step {hd:List Sl}{at_:Nat->Nat->Sl->Prop}{acc:List Hm}(h:TF hd I K at_ acc){s:Sl}(hi:i<I)(hk:k<K)(hs:at_ i k s):TF hd I K at_ (Xi hd i acc k s):=by
 unfold Xi;split
 ·rename_i e;refine⟨?_,fun x hx=>?_,fun x hx=>?_⟩
  ·rw[List.map_append,Mc];refine⟨h.nd,zw,fun a ha b hb q=>?_⟩;have hb':b=s.1:=by simpa using hb
   have:Uo s.1 acc=true:=qV.2 (by rw[<- hb',<- q];exact ha)
   rw[e.2.2]at this;cases this
  ·rcases Aj.1 hx with hx | hx
   ·exact h.lt x hx
   ·rw[Bh.1 hx];exact⟨hi,hk⟩
  ·rcases Aj.1 hx with hx | hx
   ·exact h.from_ x hx
   ·rw[Bh.1 hx];exact⟨s.2,hs,qU.1 e.2.1,e.1⟩
 ·exact h
def TF.atom {hd:List Sl}{at_:Nat->Nat->Sl->Prop}(hi:i<I): ∀ (ss:List Sl) (acc:List Hm) (k:Nat),TF hd I K at_ acc->k+ss.length<=K->(∀ j s,ss[j]?=some s->at_ i (k+j) s)->TF hd I K at_ (ah hd i acc k ss)
 | [],_,_,h,_,_=>h
 | s::ss,acc,k,h,hk,ha=>by
  rw[DU]at hk;exact TF.atom hi ss _ (k+1) (h.step hi zx<|ha 0 s rfl) zx fun j s' hj=>by
   have:=ha (j+1) s' (by simpa using hj)
   rwa [show k+(j+1)=k+1+j by omega]at this
def TF.atoms {hd:List Sl}{at_:Nat->Nat->Sl->Prop}: ∀ (ps:List Pt) (acc:List Hm) (i:Nat),TF hd I K at_ acc->i+ps.length<=I->(∀ j p,ps[j]?=some p->p.2.length<=K/\ ∀ k s,p.2[k]?=some s->at_ (i+j) k s)->TF hd I K at_ (Y0 hd acc i ps)
 | [],_,_,h,_,_=>h
 | p::ps,acc,i,h,hi,ha=>by
  rw[DU]at hi;refine TF.atoms ps _ (i+1) (TF.atom zx p.2 acc 0 h (by have:=(ha 0 p rfl).1;omega) fun j s hj=>?_) zx fun j p' hj=>?_
  ·have:=(ha 0 p rfl).2 j s hj
   rwa [Gx]
  ·have:=ha (j+1) p' (by simpa using hj)
   rwa [show i+(j+1)=i+1+j by omega]at this
def qj {hd:List Sl}{at_:List Pt}(h4:at_.length<=4)(h6: ∀ p,p∈at_->p.2.length<=6):TF hd 4 6 (fun i k s=> ∃ p,at_[i]?=some p/\p.2[k]?=some s) (TS hd at_):=by
 refine TF.atoms at_ [] 0 ⟨zw,fun _ h=>(by cases h),fun _ h=>(by cases h)⟩ zx fun j p hj=>⟨h6 p<|Ej hj,fun k s hk=>⟨p,by rwa [Gx],hk⟩⟩
def Z5n {hd:List Sl}{acc:List Hm}{s:Sl}(h:x∈acc.map (·.1)):x∈(Xi hd i acc k s).map (·.1):=by
 unfold Xi;split
 ·rw[List.map_append];exact Md _ h
 ·exact h
def Z85 {hd:List Sl}{acc:List Hm}{s:Sl}(h0:s.1.size≠0)(h1:s∈hd):s.1∈(Xi hd i acc k s).map (·.1):=by
 unfold Xi;split
 ·rw[List.map_append];exact Vq _ zw
 ·rename_i e;cases hb:Uo s.1 acc with
  | true=>exact qV.1 hb
  | false=>exact absurd ⟨h0,qU.2 h1,hb⟩ e
def Zng {hd:List Sl}: ∀ (ss:List Sl) (acc:List Hm) (k:Nat),x∈acc.map (·.1)->x∈(ah hd i acc k ss).map (·.1)
 | [],_,_,h=>h
 | _::ss,_,k,h=>Zng ss _ (k+1) (Z5n h)
def Zxy {hd:List Sl}{s:Sl}(h0:s.1.size≠0)(h1:s∈hd): ∀ (ss:List Sl) (acc:List Hm) (k:Nat),s∈ss->s.1∈(ah hd i acc k ss).map (·.1)
 | [],_,_,h=>by cases h
 | t::ss,acc,k,h=>by
  rcases Ak.1 h with rfl | h
  ·exact Zng ss _ (k+1)<|Z85 h0 h1
  ·exact Zxy h0 h1 ss _ (k+1) h
def Ztp {hd:List Sl}: ∀ (ps:List Pt) (acc:List Hm) (i:Nat),x∈acc.map (·.1)->x∈(Y0 hd acc i ps).map (·.1)
 | [],_,_,h=>h
 | p::ps,acc,i,h=>Ztp ps _ (i+1) (Zng p.2 acc 0 h)
def Zxz {hd:List Sl}{s:Sl}(h0:s.1.size≠0)(h1:s∈hd): ∀ (ps:List Pt) (acc:List Hm) (i:Nat),(∃ p,p∈ps/\s∈p.2)->s.1∈(Y0 hd acc i ps).map (·.1)
 | [],_,_,⟨_,h,_⟩=>by cases h
 | q::ps,acc,i,⟨p,h,hs⟩=>by
  rcases Ak.1 h with rfl | h
  ·exact Ztp ps _ (i+1)<|Zxy h0 h1 p.2 acc 0 hs
  ·exact Zxz h0 h1 ps _ (i+1) ⟨p,h,hs⟩
end Go.W
namespace Go.W
def Zra {α:Type}: ∀ (l m:List α),l.Nodup->(∀ x,x∈l->x∈m)->l.length<=m.length
 | [],_,_,_=>Eg _
 | x::l,m,hd,h=>by
  obtain⟨s,t,rfl⟩:=List.append_of_mem<|h x zw;rw[List.nodup_cons]at hd
  have:=Zra l (s++t) hd.2 fun y hy=>by
   have h1:=h y (by simp[hy]);rw[Aj,Ak]at h1;rcases h1 with h1 | h1 | h1
   ·exact Md _ h1
   ·subst h1;exact absurd hy hd.1
   ·exact Vq _ h1
  simp only[JS,DU]at this⊢;omega
def Zqy {hd:List Sl}{at_:List Pt}(h4:at_.length<=4)(h6: ∀ p,p∈at_->p.2.length<=6):(TS hd at_).length<=hd.length:=by
 have h:=qj (hd:=hd) h4 h6
 have:=Zra ((TS hd at_).map (·.1)) (hd.map (·.1)) h.nd fun x hx=>by
  obtain⟨y,hy,rfl⟩:=List.mem_map.1 hx;obtain⟨n,_,h2,_⟩:=h.from_ y hy;exact List.mem_map.2 ⟨(y.1,n),h2,rfl⟩
 simpa using this
end Go.W
namespace Go.W
def Ut:Du Hm:=fun _ vs h F=>F=[]/\vs=[.string h.1,zo (h.2.1:Int),zo (h.2.2:Int)]
def Ut.stable:Ii Ut:=fun _ _ _ _ _ h _=>h
def Ut.one {w:World}{vs:List Value}{x:Hm}{F:List Nat}(h:Ut w vs x F): ∀ u,u∈vs->u.oneCell'=true:=by
 obtain⟨_,rfl⟩:=h;intro u hu;simp at hu;rcases hu with rfl | rfl | rfl <;> rfl
end Go.W
namespace Go.P
attribute [local go_sem] Me
def Ybv:J3 prog 306 371 3 32:=by
 obtain⟨i0,hi,hz0,hz1,hz2⟩:=info_parts (by kernel_rfl:(prog.info? 371).map (fun i=>(i.zero,i.size,i.bytes))=some (some<|.agg #[.string ⟨#[]⟩,zo 0,zo 0],3,32));exact⟨i0,_,underlying306,hi,hz0,hz1,hz2,rfl,zu,zu⟩
structure aj (w wr:World) (acc:List Hm) (hv:Value) (Fh:List Nat):Prop where
 row:AQ 371 3 Ut wr hv acc Fh
 new:Ag w.heap.size wr Fh
 bel:Bl w wr
def AQ.homes {e:TypeId}{w:World}{v:Value}{acc:List Hm}{F:List Nat}(h:AQ e 3 Ut w v acc F)(hF: ∀ k,k∈F->k<w.heap.size): ∃ p c,v= .slice p acc.length c/\Ap 3 (xI w<|List.range w.heap.size) p acc:=by
 obtain⟨p,c,hv,_,hr⟩:Qi 3 (xI w<|List.range w.heap.size) v acc:=AQ.rowOf h hF fun b o vs x G hc hb hG hq=>by
  obtain⟨_,rfl⟩:=hq;exact⟨List.mem_range.2 hb,hc 0 zw,hc 1 zw,hc 2 zw⟩
 exact⟨p,c,hv,hr⟩
end Go.P
namespace Go.W
variable {i k:Nat}
def Znh {hd:List Sl}{acc:List Hm}{s:Sl}(h: ¬ (s.1.size≠0/\Vl s hd=true/\Uo s.1 acc=false)):Xi hd i acc k s=acc:=if_neg h
def Z5o {hd:List Sl}{acc:List Hm}{s:Sl}(h:s.1.size≠0/\Vl s hd=true/\Uo s.1 acc=false):Xi hd i acc k s=acc++[(s.1,i,k)]:=if_pos h
end Go.W
namespace Go.P
variable {w:World}
attribute [local go_sem] Me
def aj.below {wr u:World}{acc:List Hm}{hv:Value}{Fh:List Nat}(h:aj w wr acc hv Fh)(hb:Bl wr u):aj w u acc hv Fh:=⟨AQ.stable Ut.stable _ _ _ _ _ h.row fun j hj=>hb.block j (h.new.lt j hj),h.new.later lr hb.size,h.bel.trans<|hb.mono h.bel.size⟩
def Z86 {ph pa:Option Addr}{ch ca:Nat}{G:List Nat}{hn:ByteArray}{hd:List Sl}{at_:List Pt}(hp:Ap 2 (VW w G) ph hd)(hA: ∀ i x,at_[i]?=some x->xF w G pa i x)(hG: ∀ j,j∈G->j<w.heap.size)(h4:at_.length<=4):
  Calls prog 212 #[.agg #[.string hn,.slice ph hd.length ch],.slice pa at_.length ca] w fun e w'=> ∃ hv Fh,e= .returned hv/\aj w w' (TS hd at_) hv Fh:=by
 have HP:=AC hp;have HA:=AC hA;have HG:=AC hG;have Ho:=fun(fn:Fn) (first cap:Array Value) (w:World)=>(rfl:(Instr.makeFunc fn first cap).run prog w= .ok (.func fn first cap) w);have CS:AF (∀ u,Bl w u-> ∀ s:Sl,Calls prog 240 #[.slice ph hd.length ch,.agg #[.string s.1,zo (s.2:Int)]] u fun e w'=>e= .returned (.bool<|Vl s hd)/\Bl u w'):=⟨fun u hu s=>Zv8 (hp.carry fun b o' y ⟨k0,k1,k2,k3⟩=>⟨k0,(A9 (a:=(zm b o'))<|hu.block b<|hG b k0).trans k1,(A9 (a:=(zm b (o'+1)))<|hu.block b<|hG b k0).trans k2,k3⟩) (fun j hj=>BK (hG j hj) hu.size) s⟩;clear hp hA hG;obtain⟨W1,hW1⟩: ∃ W1,AF (w.alloc (.cells #[.string hn,.slice ph hd.length ch] 292)=W1):=⟨_,⟨rfl⟩⟩;have B1:AF (Bl w W1):=⟨hW1.out▸(AR _ w).alloc lr _⟩;have L1:AF (AO W1 w.heap.size #[.string hn,.slice ph hd.length ch] 292):=⟨hW1.out▸AO.new w _ _⟩;have R0:AF (aj W1 W1 [] (zn) []):=⟨⟨AQ.nil,Ag.nil _ _,AR _ _⟩⟩;go_in
 go_wp2_with fail
 rw[hW1.out];clear hW1;go_loopw [13,5] (fun iv hv wr=> ∃ i acc Fh,i<=at_.length/\iv= zo ((i:Nat):Int)/\aj W1 wr acc hv Fh/\acc.length<=6*i/\Y0 hd acc i (at_.drop i)=TS hd at_) (fun iv _ _=>at_.length-(intOf iv).toNat)
 case atStart=>exact⟨0,[],[],zx,rfl,R0.out,zw,rfl⟩
 case round=>
  obtain⟨i,acc,Fh,hi,rfl,hR,KM,Ce⟩:=hrel;have RR:=AC<|AJ hR<|AJ KM Ce;by_cases hlt:i<at_.length
  ·obtain⟨x,hx⟩: ∃ x,at_[i]?=some x:=⟨_,A8 hlt⟩;have hxd:at_.drop i=x::at_.drop (i+1):=by rw[<- (DW.1 hx).2,List.drop_eq_getElem_cons hlt]
   obtain⟨ga,ps,cp,rfl,uC,a0,a1,hrow,h6⟩:=HA.out i x hx;have hB:=B1.out.trans<|hR.bel.mono B1.out.size;have NU:=HG.out ga uC;have a0':=(A9 (a:=(zm ga (i*2)))<|hB.block ga NU).trans a0;have a1':=(A9 (a:=(zm ga (i*2+1)))<|hB.block ga NU).trans a1;have Ye:(i:Int)<(at_.length:Int):=zx
   have HR:=AC hrow;rw[hxd]at Ce;have R1:=AC fun o=>hR.below ((AR _ wr).alloc lr o);have HE:=AC (show Y0 hd (ah hd i acc 0<|x.2.drop 0) (i+1) (at_.drop<|i+1)=TS hd at_ from Ce);clear hR Ce a0 a1 hB hrow hxd;obtain⟨xn,ss⟩:=x;dsimp only at HR HE h6 a1' a0';go_wp2
   go_loopw [21,5] (fun kv hv u=> ∃ k FC iN,k<=ss.length/\kv= zo ((k:Nat):Int)/\aj W1 u FC hv iN/\FC.length<=6*i+k/\Y0 hd (ah hd i FC k<|ss.drop k) (i+1) (at_.drop<|i+1)=TS hd at_) (fun kv _ _=>ss.length-(intOf kv).toNat)
   case atStart=>exact⟨0,acc,Fh,zx,rfl,R1.out _,zx,HE.out⟩
   case round=>
    obtain⟨k,FC,iN,hk,rfl,hR,zk,Ce⟩:=hrel;have KK:=AC<|AJ hR<|AJ zk Ce;by_cases QZ:k<ss.length
    ·obtain⟨b,o1,rfl,WI,s0,s1,hsz⟩:=HR.out.get k QZ;have Io:=B1.out.trans<|hR.bel.mono B1.out.size;have hbl:=HG.out b WI;have lT:=(A9 (a:=(zm b (o1+k*2)))<|Io.block b hbl).trans s0;have lQ:=(A9 (a:=(zm b (o1+k*2+1)))<|Io.block b hbl).trans s1;have zK:(k:Int)<(ss.length:Int):=zx
     have Bc:=fun o=>((L1.out.of<|hR.bel.block _ L1.out.lt).alloc o).two.2.1;rw[List.drop_eq_getElem_cons QZ]at Ce;have HQ:=AC (show Y0 hd (ah hd i (Xi hd i FC k ss[k]) (k+1)<|ss.drop<|k+1) (i+1) (at_.drop<|i+1)=TS hd at_ from Ce);obtain⟨W2,hW2⟩: ∃ W2,AF (wr.alloc (.cells #[.string ss[k].1,zo (ss[k].2:Int)] 332)=W2):=⟨_,⟨rfl⟩⟩;have lH:Bl wr W2:=hW2.out▸(AR _ wr).alloc lr _;have R2:=AC<|hR.below lH;have B2:=AC<|Io.trans<|lH.mono Io.size;have L2:=AC (show AO W2 wr.heap.size #[.string ss[k].1,zo (ss[k].2:Int)] 332 from hW2.out▸AO.new wr _ _);have z0:=L2.out.two.1;have z1:=L2.out.two.2.1;have hdW:W2.cell? (zm w.heap.size 1)=_:=hW2.out▸Bc _;clear hR Ce Io lH s0 s1 Bc;generalize ss[k]=s at*;by_cases hz:s.1.size=0
     ·have hx0:(s.1.toList==[])=true:=by rw[X4];exact Nv hz
      have HN:=AC (Znh (hd:=hd) (i:=i) (k:=k) (acc:=FC) (s:=s) fun h=>h.1 hz);clear hz;go_wp2_with fail
      rw[hW2.out];go_roundw
      case rel=>exact⟨k+1,FC,iN,zx,by go_num,R2.out,zx,by have e:=HQ.out;rw[HN.out]at e;exact e⟩
      case measure=>simp[intOf];omega
     ·have hx0:(s.1.toList==[])=false:=by rw[X4];exact I8 hz
      have HZ:=AC hz;clear hz;rw[<- hW2.out]at z0 z1 hdW;go_wp2_with fail
      rw[hW2.out];refine(CS.out _ B2.out s).mono ?_;rintro e w5 ⟨rfl,BX⟩;have R5:=AC<|R2.out.below BX;have L5:=AC<|L2.out.of<|BX.block _ L2.out.lt;clear BX;cases hS:Vl s hd with
      | false=>
       have HN:=AC (Znh (hd:=hd) (i:=i) (k:=k) (acc:=FC) (s:=s) fun h=>by rw[hS]at h;cases h.2.1);clear hS;go_wp2
       go_roundw
       case rel=>exact⟨k+1,FC,iN,zx,by go_num,R5.out,zx,by have e:=HQ.out;rw[HN.out]at e;exact e⟩
       case measure=>simp[intOf];omega
      | true=>
       obtain⟨p,c,rfl,hrow⟩:=AQ.homes R5.out.row R5.out.new.lt;have CF:=AC<|Zvj (c:=c) hrow (fun j hj=>List.mem_range.1 hj) L5.out;have HS:=AC hS;clear hrow hS;go_wp2_with fail
       refine mq CF.out ?_;rintro w6 Gp;have R6:=AC<|R5.out.below Gp;have L6:=AC<|L5.out.of<|Gp.block _ L5.out.lt;clear Gp;cases hH:Uo s.1 FC with
       | true=>
        have HN:=AC (Znh (hd:=hd) (i:=i) (k:=k) (acc:=FC) (s:=s) fun h=>by rw[hH]at h;cases h.2.2);clear hH;go_wp2
        go_roundw
        case rel=>exact⟨k+1,FC,iN,zx,by go_num,R6.out,zx,by have e:=HQ.out;rw[HN.out]at e;exact e⟩
        case measure=>simp[intOf];omega
       | false=>
        have HN:=AC<|Z5o (hd:=hd) (i:=i) (k:=k) (acc:=FC) (s:=s) ⟨HZ.out,HS.out,hH⟩;clear hH;have y0:=L6.out.two.1;have Yc:FC.length<100000000:=zx
        go_wp2_with (at_builtin;go_must (refine Nu Ybv rfl (.tmp 42) (.tmp 48) rfl Ut.stable (fun _ _ _ _ h=>Ut.one h) W1.heap.size (.slice p FC.length c) FC iN rfl (AQ.stable Ut.stable _ _ _ _ _ R6.out.row fun j hj=>Ah _ _ _ (R6.out.new.lt j hj)) w6.heap.size #[.string s.1,zo (i:Int),zo (k:Int)] 371 (0,0) (s.1,i,k) [] rfl (Hw _ _) rfl ⟨rfl,rfl⟩ Yc (by have:=R6.out.bel.size;simp;omega) (R6.out.new.later lr zw) (Ag.nil _ _) (fun _ _ h=>by cases h) ?_;intro g8 UU w8 F8 AM))
        have GV:Bl W1 w8:=by
         have b6:=R6.out.bel;have mi:=AM.size;simp at mi;refine⟨AM.os.trans b6.os,AM.tape.trans b6.tape,AM.output.trans b6.output,by have:=b6.size;omega,fun j hj=>?_⟩;have zM:j<w6.heap.size:=BK hj b6.size;exact((AM.same j (by simp;omega) fun q=>by have:=R6.out.new.ge j q;omega).trans<|Ah _ _ _ zM).trans<|b6.block j hj
        go_roundw
        case rel=>exact⟨k+1,FC++[(s.1,i,k)],F8,zx,by go_num,⟨AM.row,AM.new,GV⟩,by rw[JS];simp;omega,by have e:=HQ.out;rw[HN.out]at e;exact e⟩
        case measure=>simp[intOf];omega
    ·obtain rfl:k=ss.length:=zx
     clear hR Ce;go_wp2
     go_roundw
     case rel=>exact⟨i+1,FC,iN,zx,by go_num,KK.out.1,zx,by have e:=KK.out.2.2;rw[List.drop_length]at e;exact e⟩
     case measure=>simp[intOf];omega
  ·obtain rfl:i=at_.length:=zx
   clear hR Ce;go_wp2
   go_ret
   have e:=RR.out.2.2;rw[List.drop_length]at e;have e':acc=TS hd at_:=e;rw[<- e'];exact⟨_,Fh,rfl,RR.out.1.row,RR.out.1.new.later B1.out.size lr,B1.out.trans<|RR.out.1.bel.mono B1.out.size⟩
end Go.P
namespace Go.P
def AQ.YX {e:TypeId}{w:World}{v:Value}{acc:List Hm}{F S:List Nat}(h:AQ e 3 Ut w v acc F)(hS: ∀ k,k∈F->k∈S): ∃ pm cm,v= .slice pm acc.length cm/\ ∀ i x,acc[i]?=some x->Yj7 w S pm i x:=by
 obtain⟨p,c,rfl⟩:=AQ.form h;refine⟨p,c,rfl,fun i x hx=>?_⟩;obtain⟨g,cap,cs,G,hv,hg,⟨_,rfl⟩,key⟩:=AQ.nth h i x hx;injection hv with h1 h2 h3;subst h1;exact⟨g,rfl,hS g hg,key 0 _ rfl,key 1 _ rfl,key 2 _ rfl⟩
end Go.P
