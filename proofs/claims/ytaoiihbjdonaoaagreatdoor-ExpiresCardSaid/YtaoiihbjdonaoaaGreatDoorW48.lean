import Derived.Test.YtaoiihbjdonaoaaGreatDoorW47
set_option maxRecDepth 100000
set_option maxHeartbeats 8000000
set_option linter.unusedSimpArgs false
open Go.Proofs Go.RowKit Go.W Tryz
namespace Go.W
theorem Ym8 {P:Program}{ops:Array Oper}{Q:Exit->Act->World->Prop}{S:World->Prop}{σ:Type}(L:σ->Array Bool)(N:σ->Nat)(E:σ->Prop)(J:σ->Act->World->Prop)(fuel:Nat)(hS: ∀ s a w,J s a w->S w)
  (hend: ∀ s a w,E s->J s a w->wpAnyH P .any ops Q S (fuel+N s) (L s) a w)
  (hstep: ∀ s a w,¬ E s->J s a w-> ∃ R,Region.ready .any ops (L s)=R/\R≠[]/\ ∀ i,i∈R-> ∃ s' o,(L s).setIfInBounds i true=L s'/\ops[i]?=some o/\N s=N s'+1/\ ∀ K,(∀ a' w',J s' a' w'->K a' w')->bH P ops Q o a w K):
  ∀ n s a w,N s=n->J s a w->wpAnyH P .any ops Q S (fuel+n) (L s) a w:=by
 intro n;induction n with
 | zero=>
  intro s a w hn hJ;by_cases hE:E s
  ·exact hn▸hend s a w hE hJ
  ·obtain⟨R,hR,hne,hst⟩:=hstep s a w hE hJ;cases R with
   | nil=>exact absurd rfl hne
   | cons i r=>
    obtain⟨s',_,_,_,h,_⟩:=hst i zw;omega
 | succ n ih=>
  intro s a w hn hJ;by_cases hE:E s
  ·exact hn▸hend s a w hE hJ
  ·obtain⟨R,hR,hne,hst⟩:=hstep s a w hE hJ;refine⟨fun h0=>absurd (hR.symm.trans h0) hne,fun i hi=>?_⟩;rw[hR]at hi;obtain⟨s',o,e,ho,h,k⟩:=hst i hi;refine wpOp_step ho fun K hK=>k K fun a' w' WL=>hK a' w' ⟨hS _ _ _ WL,?_⟩;rw[e];exact ih s' a' w' zx WL
abbrev S5:=Bool×Bool×Bool×Bool×Bool
def exL (s:S5):Array Bool:=#[true,s.1,s.2.1,s.2.2.1,true,true,true,true,true,true,true,s.2.2.2.1,false,s.2.2.2.2,false]
def exN (s:S5):Nat:=(if s.1 then 0 else 1)+(if s.2.1 then 0 else 1)+(if s.2.2.1 then 0 else 1)+(if s.2.2.2.1 then 0 else 1)+(if s.2.2.2.2 then 0 else 1)
end Go.W
namespace Go.P
variable {Lb Lt Lg:Nat}{Aa:Int}
def ExJ (W0:World) (Aa:Int) (F:Value->Value->Value->Value->Value->Act) (s:S5) (a:Act) (u:World):Prop:= ∃ Lt Lb Lg Lr:Nat,
 a=F (if s.2.2.2.2 then zq Lr 0 else undef) (if s.1 then .slice (Qb Lt 0) 1 1 else undef) (if s.2.1 then .agg #[.string CZ,.slice (Qb Lt 0) 1 1]else undef) (if s.2.2.1 then .slice (Qb Lb 0) 1 1 else undef) (if s.2.2.2.1 then .slice (Qb Lg 0) 1 1 else undef)/\
 (s.1=true->AO u Lt #[zo 1,zo 0,.string ⟨#[116]⟩,zn] 46/\W0.heap.size<=Lt)/\(s.2.2.1=true->AO u Lb #[.string CZ,.slice (Qb Lt 0) 1 1] 41/\W0.heap.size<=Lb)/\(s.2.2.2.1=true->AO u Lg #[zo 4,zo 1,zo 0,.string ⟨#[116]⟩,zn,zo 5,zo Aa,.string ⟨#[]⟩,zn] 48/\W0.heap.size<=Lg)/\(s.2.2.2.2=true->AO u Lr #[.string ⟨#[]⟩,zn,zn,zn] 44/\W0.heap.size<=Lr)/\
 (s.2.2.2.2=true->(s.1=true->Lt≠Lr)/\(s.2.2.1=true->Lb≠Lr)/\(s.2.2.2.1=true->Lg≠Lr))/\Bl W0 u/\(s.2.1=true->s.1=true)/\(s.2.2.1=true->s.2.1=true)
theorem Ym6 {B D b o:Nat}{u:World}{k i:Int}{t:ByteArray}(hb:b<B)(hk:Gq k)(hi:Gq i)(ht:t.size<1000000000)(h0:u.cell? (zm b o)=some (zo k))(h1:u.cell? (zm b (o+1))=some (zo i))(h2:u.cell? (zm b (o+2))=some (.string t))(h3:u.cell? (zm b (o+3))=some (zn)):He B u (D+1) b o (.mk k i t []):=⟨hb,_,h0,h1,h2,h3,rfl,rfl,rfl,hk,hi,ht,_,_,rfl,EO _,ak⟩
theorem Ynj {v:World}{Lk Lc Lu:Nat}(hc:Gq Aa)(hk:AO v Lk #[zn,zn,.slice (Qb Lc 0) 1 1] 33)(hh:AO v Lc #[.slice (Qb Lu 0) 1 1] 52)(hu:AO v Lu #[.string ⟨#[]⟩,zn,.slice (Qb Lb 0) 1 1,.slice (Qb Lg 0) 1 1] 44)(hb:AO v Lb #[.string CZ,.slice (Qb Lt 0) 1 1] 41)(ht:AO v Lt #[zo 1,zo 0,.string ⟨#[116]⟩,zn] 46)(hg:AO v Lg #[zo 4,zo 1,zo 0,.string ⟨#[116]⟩,zn,zo 5,zo Aa,.string ⟨#[]⟩,zn] 48):Ap 3 (Iz v.heap.size v 4) (Qb Lk 0) [C9 Aa]:=by
 have i1:Gq 1:=⟨zu,zu⟩;have i0:Gq 0:=⟨zu,zu⟩;have i5:Gq 5:=⟨zu,zu⟩;have i4:Gq 4:=⟨zu,zu⟩;have z1:(⟨#[116]⟩:ByteArray).size<1000000000:=zu
 have z0:(⟨#[]⟩:ByteArray).size<1000000000:=zu
 have z4:CZ.size<1000000000:=zu
 have a:Ep v.heap.size v 4 Lb 0 ⟨CZ,[exV]⟩:=⟨hb.lt,hb.cell 0,z4,_,hb.cell 1,_,_,rfl,EO _,wW<|Ym6 ht.lt i1 i0 z1 (ht.cell 0) (ht.cell 1) (ht.cell 2)<|ht.cell 3⟩;have g:QK v.heap.size v 4 Lg 0 ⟨4,exV,.mk 5 Aa ⟨#[]⟩ []⟩:=⟨hg.lt,hg.cell 0,i4,Ym6 hg.lt i1 i0 z1 (hg.cell 1) (hg.cell 2) (hg.cell 3)<|hg.cell 4,Ym6 hg.lt i5 hc z0 (hg.cell 5) (hg.cell 6) (hg.cell 7)<|hg.cell 8⟩;have r:FJ v.heap.size v 4 Lu 0 (bA Aa):=⟨hu.lt,⟨hu.lt,hu.cell 0,z0,_,hu.cell 1,_,_,rfl,EO _,ak⟩,⟨_,hu.cell 2,_,_,rfl,EO _,wW a⟩,_,hu.cell 3,_,_,rfl,EO _,wW g⟩;exact wW ⟨hk.lt,⟨_,hk.cell 0,_,_,rfl,EO _,ak⟩,⟨_,hk.cell 1,_,_,rfl,EO _,ak⟩,_,hk.cell 2,_,_,rfl,EO _,wW ⟨hh.lt,_,hh.cell 0,_,_,rfl,EO _,wW r⟩⟩
theorem Ynh {W:World}(hc:Gq Aa)(hb:AO W Lb #[.string CZ,.slice (Qb Lt 0) 1 1] 41)(ht:AO W Lt #[zo 1,zo 0,.string ⟨#[116]⟩,zn] 46)(hg:AO W Lg #[zo 4,zo 1,zo 0,.string ⟨#[116]⟩,zn,zo 5,zo Aa,.string ⟨#[]⟩,zn] 48): ∃ v,v=((W.alloc<|.cells #[.string ⟨#[]⟩,zn,.slice (Qb Lb 0) 1 1,.slice (Qb Lg 0) 1 1] 44).alloc<|.cells #[.slice (Qb W.heap.size 0) 1 1] 52).alloc (.cells #[zn,zn,.slice (Qb (W.heap.size+1) 0) 1 1] 33)/\Ap 3 (Iz v.heap.size v 4) (Qb (W.heap.size+1+1) 0) [C9 Aa]/\Bl W v:=by
 have h1:=AO.new W #[.string ⟨#[]⟩,zn,.slice (Qb Lb 0) 1 1,.slice (Qb Lg 0) 1 1] 44;have b1:=(AR W.heap.size W).alloc lr<|.cells #[.string ⟨#[]⟩,zn,.slice (Qb Lb 0) 1 1,.slice (Qb Lg 0) 1 1] 44;have s1:(W.alloc<|.cells #[.string ⟨#[]⟩,zn,.slice (Qb Lb 0) 1 1,.slice (Qb Lg 0) 1 1] 44).heap.size=W.heap.size+1:=zw
 have e1:=hb.alloc<|.cells #[.string ⟨#[]⟩,zn,.slice (Qb Lb 0) 1 1,.slice (Qb Lg 0) 1 1] 44;have e2:=ht.alloc<|.cells #[.string ⟨#[]⟩,zn,.slice (Qb Lb 0) 1 1,.slice (Qb Lg 0) 1 1] 44;have e3:=hg.alloc<|.cells #[.string ⟨#[]⟩,zn,.slice (Qb Lb 0) 1 1,.slice (Qb Lg 0) 1 1] 44;generalize W.alloc (.cells #[.string ⟨#[]⟩,zn,.slice (Qb Lb 0) 1 1,.slice (Qb Lg 0) 1 1] 44)=W1 at*;have h2:=AO.new W1 #[.slice (Qb W.heap.size 0) 1 1] 52;have b2:=b1.alloc b1.size<|.cells #[.slice (Qb W.heap.size 0) 1 1] 52;have s2:(W1.alloc<|.cells #[.slice (Qb W.heap.size 0) 1 1] 52).heap.size=W.heap.size+1+1:=by simp[s1]
 have h1:=h1.alloc<|.cells #[.slice (Qb W.heap.size 0) 1 1] 52;have e1:=e1.alloc<|.cells #[.slice (Qb W.heap.size 0) 1 1] 52;have e2:=e2.alloc<|.cells #[.slice (Qb W.heap.size 0) 1 1] 52;have e3:=e3.alloc<|.cells #[.slice (Qb W.heap.size 0) 1 1] 52;rw[s1]at h2;generalize W1.alloc (.cells #[.slice (Qb W.heap.size 0) 1 1] 52)=W2 at*;have h3:=AO.new W2 #[zn,zn,.slice (Qb (W.heap.size+1) 0) 1 1] 33;rw[s2]at h3;exact⟨_,rfl,Ynj hc h3 (h2.alloc _) (h1.alloc _) (e1.alloc _) (e2.alloc _)<|e3.alloc _,b2.alloc b2.size _⟩
def ExC (L:Nat) (pb:Option Addr) (nb cb:Nat) (pp:Option Addr) (np cp:Nat) (key:ByteArray) (Aa:Int) (u:World):Prop:=u.cell? (zm L 0)=some (.slice pb nb cb)/\u.cell? (zm L 1)=some (.slice pp np cp)/\u.cell? (zm L 2)=some (.string key)/\u.cell? (zm L 3)=some (zo Aa)
def ExP (w w3:World) (t1:ByteArray):Prop:= ∃ (b o nb cb:Nat) (pp:Option Addr) (np cp:Nat) (key:ByteArray) (Aa:Int) (x:Bk) (t3:ByteArray) (va vb:Int->Int),0<nb/\Gq Aa/\ExC w.heap.size (Qb b o) nb cb pp np cp key Aa w3/\Iz w3.heap.size w3 4 b o x/\
 (∀ v,Bl w v-> ∀ p c,Ap 3 (Iz v.heap.size v 4) p [C9 Aa]->Calls prog 7 #[.string t1,.slice p 1 c] v fun e w'=>e= .returned (.tuple #[.string t3,zo 0])/\Bl v w')/\
 (∀ v,Bl w3 v-> ∀ c,Gq c->Calls prog 8 #[.string key,.string t3,.agg #[zo c,zn,zn],.slice pp np cp] v fun e w'=>e= .returned (.tuple #[.int .i64<|va c,zo 0])/\Bl v w')/\
 (∀ v,Bl w3 v-> ∀ c,Gq c->Calls prog 8 #[.string key,.string t1,.agg #[zo c,zn,zn],.slice pp np cp] v fun e w'=>e= .returned (.tuple #[.int .i64<|vb c,zo 0])/\Bl v w')/\
 ((∀ a,a∈x.facts->a.name≠CZ)->(∀ r,r∈x.rules->r.head.name≠CZ)-> ∀ c,Gq c->(Aa<c->va c≠6)/\(c<=Aa->va c=vb c))
theorem Ym7 {w:World}{p:Option Addr}{c n:Nat}{R:World->Prop}
  (CT:AF (Calls prog 4 #[.slice p n c] w fun e w1=>(e= .returned (.tuple #[.pointer none,.bool false])/\w1=w)\/(e= .returned (.tuple #[zq w.heap.size 0,.bool true])/\R w1/\Bl w w1)))
  (CA:AF (∀ u,Bl w u->Calls prog 5 #[] u fun e w'=>e= .returned (.bool true)/\Bl u w'))
  (CX:AF (∀ w1,R w1->Bl w w1-> ∀ u,Bl w1 u->Calls prog 6 #[zq w.heap.size 0] u fun e w3=>Bl u w3/\((∃ t t',e= .returned (.tuple #[.string t,.string t',.bool false]))\/ ∃ t t',e= .returned (.tuple #[.string t,.string t',.bool true])/\ExP w w3 t))):
  Calls prog 3 #[.slice p n c] w fun e w'=>e= .returned (.bool true)/\Bl w w':=by
 go_in
 go_wp2_with fail
 refine CT.out.mono ?_;rintro e w1 (⟨rfl,rfl⟩ | ⟨rfl,hR,hb1⟩)
 ·clear CT CA CX;go_wp2
  go_ret
  exact⟨rfl,AR _ _⟩
 have B1:=AC hb1;have HR:=AC hR;clear CT hb1 hR;go_wp2_with fail
 refine(CA.out _ B1.out).mono ?_;rintro e w2 ⟨rfl,hb2⟩;have B2:=tr B1 hb2;have CY:=AC<|CX.out w1 HR.out B1.out w2 hb2;clear CA B1 hb2 HR CX;go_wp2_with fail
 refine CY.out.mono ?_;rintro e w3 ⟨hb3,⟨t,t',rfl⟩ | ⟨t1,t2,rfl,hP⟩⟩
 ·have B3:=tr B2 hb3;clear CY hb3;go_wp2
  go_ret
  exact⟨rfl,B3.out⟩
 have B3:=tr B2 hb3;obtain⟨b,o,nb,cb,pp,np,cp,key,Aa,x,t3,va,vb,QY,hc,hC,hx,cq,cb',cc',hv⟩:=hP;have CQ:=AC cq;have CB:=AC cb';have CC:=AC cc';have HV0:=AC hv;have hc6:=AC hc;clear CY hb3 B2 cq cb' cc' hv hc;obtain⟨_,x0,p1,c1,rfl,hc1,rf⟩:=hx.facts;obtain⟨_,x1,p2,c2,rfl,hc2,rr⟩:=hx.rules;obtain⟨k0,k1,k2,k3⟩:=id hC;have HC:=AC hC;have RF:=AC rf;have RR:=AC rr;clear hC hx rf rr hc1 hc2;obtain⟨nf,hnf⟩: ∃ nf,AF (x.facts.length=nf):=⟨_,⟨rfl⟩⟩;rw[hnf.out]at x0;obtain⟨nu,hnu⟩: ∃ nu,AF (x.rules.length=nu):=⟨_,⟨rfl⟩⟩;rw[hnu.out]at x1;have LF:AF (nf<1000000000/\nu<1000000000):=⟨by rw[<- hnf.out];exact RF.out.len,by rw[<- hnu.out];exact RR.out.len⟩;go_wp2
 go_loopw [7] (fun iv wr=> ∃ k:Nat,k<=nf/\iv= zo (k:Int)/\wr=w3/\ ∀ a,a∈x.facts.take k->a.name≠CZ) (fun iv _=>nf-(intOf iv).toNat)
 case atStart=>exact⟨0,Eg _,rfl,rfl,fun a h=>by cases h⟩
 case round=>
  obtain⟨k,hk,rfl,hw,hall⟩:=hrel;obtain rfl:=hw.symm;have HA:=AC hall;clear hall;by_cases hlt:k<nf
  ·have g:(k:Int)<(nf:Int):=zx
   obtain⟨a,ha⟩: ∃ a,x.facts[k]?=some a:=⟨_,A8 (by have:=hnf.out;omega)⟩;obtain⟨bf,of,rfl,hat⟩:=RF.out.at_ k a ha;have z0:=hat.name;have HX:=AC ha;clear ha hat
   cases H7:a.name.toList==[116,105,109,101]with
   | true=>
    generalize a.name=s at*;clear HA HX RF RR HC;go_wp2
    go_ret
    exact⟨rfl,B3.out⟩
   | false=>
    have HA':AF (∀ a,a∈x.facts.take (k+1)->a.name≠CZ):=⟨fun y hy=>by
     rw[PM,HX.out]at hy;rcases Aj.1 hy with hy | hy
     ·exact HA.out y hy
     ·obtain rfl:y=a:=by simpa using hy
      exact fun e=>by rw[e,Nw]at H7;exact absurd H7 zu⟩
    generalize a.name=s at*;clear HA HX RR HC;have hl:=LF.out.1;go_wp2
    exact⟨⟨k+1,zx,by go_num,by trivial,HA'.out⟩,by simp[intOf];omega⟩
  ·obtain rfl:k=nf:=zx
   have HF:AF (∀ a,a∈x.facts->a.name≠CZ):=⟨fun y hy=>HA.out y (by rw[U0 (by have:=hnf.out;omega)];exact hy)⟩;clear HA hlt RF;go_wp2
   go_loopw [8] (fun iv wr=> ∃ k:Nat,k<=nu/\iv= zo (k:Int)/\wr=w3/\ ∀ r,r∈x.rules.take k->r.head.name≠CZ) (fun iv _=>nu-(intOf iv).toNat)
   case atStart=>exact⟨0,Eg _,rfl,rfl,fun a h=>by cases h⟩
   case round=>
    obtain⟨k,hk,rfl,hw,hall⟩:=hrel;obtain rfl:=hw.symm;have HA:=AC hall;clear hall;by_cases hlt:k<nu
    ·have g:(k:Int)<(nu:Int):=zx
     obtain⟨r,hr⟩: ∃ r,x.rules[k]?=some r:=⟨_,A8 (by have:=hnu.out;omega)⟩;obtain⟨bf,of,rfl,hat⟩:=RR.out.at_ k r hr;have z0:=hat.head.name;have HX:=AC hr;clear hr hat
     cases H7:r.head.name.toList==[116,105,109,101]with
     | true=>
      generalize r.head.name=s at*;clear HA HX RR HC HF;go_wp2
      go_ret
      exact⟨rfl,B3.out⟩
     | false=>
      have HA':AF (∀ r,r∈x.rules.take (k+1)->r.head.name≠CZ):=⟨fun y hy=>by
       rw[PM,HX.out]at hy;rcases Aj.1 hy with hy | hy
       ·exact HA.out y hy
       ·obtain rfl:y=r:=by simpa using hy
        exact fun e=>by rw[e,Nw]at H7;exact absurd H7 zu⟩
      generalize r.head.name=s at*;clear HA HX HC HF;have hl:=LF.out.2;go_wp2
      exact⟨⟨k+1,zx,by go_num,by trivial,HA'.out⟩,by simp[intOf];omega⟩
    ·obtain rfl:k=nu:=zx
     have HU:AF (∀ r,r∈x.rules->r.head.name≠CZ):=⟨fun y hy=>HA.out y (by rw[U0 (by have:=hnu.out;omega)];exact hy)⟩;have HV:=AC<|HV0.out HF.out HU.out;clear HA hlt RR HV0 HF HU;go_wp2_with fail
     have b0:=(AR w3.heap.size w3).alloc lr<|.cells #[zo 1,zo 0,.string ⟨#[116]⟩,zn] 46;have kv:AO _ w3.heap.size #[zo 1,zo 0,.string ⟨#[116]⟩,zn] 46:=AO.new w3 _ _;have B0:=tr B3 b0;have HK:AF (∀ u,Bl w3 u->ExC w.heap.size (Qb b o) nb cb pp np cp key Aa u):=⟨fun u hu=>⟨Cb k0 hu,Cb k1 hu,Cb k2 hu,Cb k3 hu⟩⟩;have B03:=AC b0;clear k0 k1 k2 k3 x0 x1 b0 HC;generalize w3.alloc (.cells #[zo 1,zo 0,.string ⟨#[116]⟩,zn] 46)=W0 at*;generalize w3.heap.size=gv at kv⊢;have KV:=AC kv;obtain⟨S,hSd⟩: ∃ S:World->Prop,S=fun u=>u.cell? (zm gv 0)=some (zo 1)/\u.cell? (zm gv 1)=some (zo 0)/\u.cell? (zm gv 2)=some (.string ⟨#[116]⟩)/\u.cell? (zm gv 3)=some (zn)/\u.cell? (zm w.heap.size 3)=some (zo Aa):=⟨_,rfl⟩;have HS:AF (∀ u,Bl W0 u->S u):=⟨fun u hu=>by
      have k:=(KV.out.of<|hu.block _ KV.out.lt).four;rw[hSd];exact⟨k.1,k.2.1,k.2.2.1,k.2.2.2.1,Cb (HK.out W0 B03.out).2.2.2 hu⟩⟩
     clear kv;refine Zwh ?_;refine Zh (S:=S) zt ?_;change wpAnyH _ _ _ _ _ _ _ _ (World.drew _);have AY:=HS.out W0.drew (AR _ W0).drew;refine tk 0 (.agg #[zo 1,zo 0,.string ⟨#[116]⟩,zn]) AY (hy:=fun u q=>by rw[hSd]at q;obtain⟨s0,s1,s2,s3,s4⟩:=q;go_simp) ?_;try simp only[zz]
     refine tk 4 (.agg #[zo 1,zo 0,.string ⟨#[116]⟩,zn]) AY (hy:=fun u q=>by rw[hSd]at q;obtain⟨s0,s1,s2,s3,s4⟩:=q;go_simp) ?_;try simp only[zz]
     refine tk 5 (zq w.heap.size 0) AY (hy:=fun u _=>by go_simp) ?_;try simp only[zz]
     refine tk 6 (zq w.heap.size 0) AY (hy:=fun u _=>by go_simp) ?_;try simp only[zz]
     refine tk 7 (zq w.heap.size 3) AY (hy:=fun u _=>by go_simp) ?_;try simp only[zz]
     refine tk 8 (zo Aa) AY (hy:=fun u q=>by rw[hSd]at q;obtain⟨s0,s1,s2,s3,s4⟩:=q;go_simp) ?_;try simp only[zz]
     refine tk 9 (.agg #[zo 5,zo Aa,.string ⟨#[]⟩,zn]) AY (hy:=fun u _=>by go_simp) ?_;try simp only[zz]
     refine tk 10 (.agg #[zo 4,zo 1,zo 0,.string ⟨#[116]⟩,zn,zo 5,zo Aa,.string ⟨#[]⟩,zn]) AY (hy:=fun u _=>by go_simp) ?_;try simp only[zz]
     generalize ha0:Act.mk _ _=a0;obtain⟨F,hF⟩: ∃ F:Value->Value->Value->Value->Value->Act,F=fun t10 t88 t89 t90 t98=>((((a0.put (some 10) t10).put (some 88) t88).put (some 89) t89).put (some 90) t90).put (some 98) t98:=⟨_,rfl⟩;have f0:a0=F undef undef undef undef undef:=by rw[hF,<- ha0];rfl
     have f87: ∀ p q r s t,(F p q r s t).tmps[87]?.getD undef= .agg #[zo 1,zo 0,.string ⟨#[116]⟩,zn]:=fun _ _ _ _ _=>by rw[hF,<- ha0];rfl
     have f97: ∀ p q r s t,(F p q r s t).tmps[97]?.getD undef= .agg #[zo 4,zo 1,zo 0,.string ⟨#[116]⟩,zn,zo 5,zo Aa,.string ⟨#[]⟩,zn]:=fun _ _ _ _ _=>by rw[hF,<- ha0];rfl
     have f88: ∀ p q r s t,(F p q r s t).tmps[88]?.getD undef=q:=fun _ _ _ _ _=>by rw[hF,<- ha0];rfl
     have f89: ∀ p q r s t,(F p q r s t).tmps[89]?.getD undef=r:=fun _ _ _ _ _=>by rw[hF,<- ha0];rfl
     have g10: ∀ p q r s t v,(F p q r s t).put (some 10) v=F v q r s t:=fun _ _ _ _ _ _=>by rw[hF,<- ha0];rfl
     have g88: ∀ p q r s t v,(F p q r s t).put (some 88) v=F p v r s t:=fun _ _ _ _ _ _=>by rw[hF,<- ha0];rfl
     have g89: ∀ p q r s t v,(F p q r s t).put (some 89) v=F p q v s t:=fun _ _ _ _ _ _=>by rw[hF,<- ha0];rfl
     have g90: ∀ p q r s t v,(F p q r s t).put (some 90) v=F p q r v t:=fun _ _ _ _ _ _=>by rw[hF,<- ha0];rfl
     have g98: ∀ p q r s t v,(F p q r s t).put (some 98) v=F p q r s v:=fun _ _ _ _ _ _=>by rw[hF,<- ha0];rfl
     have HF0:=AC<|AJ hF ha0;change wpAnyH _ _ _ _ _ (2+5) (exL (false,false,false,false,false)) a0 _;rw[f0];clear ha0 f0 hF AY;refine Ym8 exL exN (fun s=>s.2.2.1=true/\s.2.2.2.1=true) (ExJ W0 Aa F) 2 (fun s a u hJ=>HS.out u (by obtain⟨_,_,_,_,_,_,_,_,_,_,hb,_⟩:=hJ;exact hb)) (fun s a u hE hJ=>?_) (fun s a u hE hJ=>?_) 5 _ _ _ rfl ⟨0,0,0,0,rfl,fun h=>(by cases h),fun h=>(by cases h),fun h=>(by cases h),fun h=>(by cases h),fun h=>(by cases h),(AR _ W0).drew,fun h=>h,fun h=>h⟩;rotate_left
     ·obtain⟨d1,d2,d3,d4,d5⟩:=s;obtain⟨Lt,Lb,Lg,Lr,rfl,h1,h3,h4,h5,hn,hb,q2,q3⟩:=hJ;dsimp only at h1 h3 h4 h5 hn q2 q3 hE;refine⟨(if d3 then []else if d2 then [3]else if d1 then [2]else [1])++((if d4 then []else [11])++(if d5 then []else [13])),?_,?_,fun i hi=>?_⟩
      ·clear f87 f97 f88 f89 g10 g88 g89 g90 g98 h1 h3 h4 h5 hn;cases d1 <;> cases d2 <;> cases d3 <;> cases d4 <;> cases d5 <;> first | (exact absurd (q2 rfl) zu) | (exact absurd (q3 rfl) zu) | (exact absurd ⟨rfl,rfl⟩ hE) | kernel_rfl
      ·cases d1 <;> cases d2 <;> cases d3 <;> cases d4 <;> first | (exact absurd ⟨rfl,rfl⟩ hE) | simp
      ·rcases Aj.1 hi with hi | hi
       ·cases d3 with
        | true=>cases hi
        | false=>
         cases d2 with
         | true=>
          obtain rfl:=q2 rfl;obtain rfl:i=3:=by simpa using hi
          refine⟨(true,true,true,d4,d5),_,rfl,rfl,by cases d4 <;> cases d5 <;> rfl,fun K hK=>?_⟩;unfold bH;rw[if_pos (by rfl)];go_simp;exact hK _ _ ⟨Lt,u.heap.size,Lg,Lr,g90 _ _ _ _ _ _,fun h=>⟨(h1 h).1.alloc _,(h1 h).2⟩,fun _=>⟨AO.new u _ _,hb.size⟩,fun h=>⟨(h4 h).1.alloc _,(h4 h).2⟩,fun h=>⟨(h5 h).1.alloc _,(h5 h).2⟩,fun h=>⟨(hn h).1,(fun _=>by have:=(h5 h).1.lt;omega),(hn h).2.2⟩,hb.alloc hb.size _,fun _=>rfl,fun _=>rfl⟩
         | false=>
          cases d1 with
          | true=>
           obtain rfl:i=2:=by simpa using hi
           refine⟨(true,true,false,d4,d5),_,rfl,rfl,by cases d4 <;> cases d5 <;> rfl,fun K hK=>?_⟩;unfold bH;rw[if_pos (by rfl)];go_simp;exact hK _ _ ⟨Lt,Lb,Lg,Lr,g89 _ _ _ _ _ _,h1,h3,h4,h5,hn,hb,fun _=>rfl,fun h=>(by cases h)⟩
          | false=>
           obtain rfl:i=1:=by simpa using hi
           refine⟨(true,false,false,d4,d5),_,rfl,rfl,by cases d4 <;> cases d5 <;> rfl,fun K hK=>?_⟩;unfold bH;rw[if_pos (by rfl)];go_simp;exact hK _ _ ⟨u.heap.size,Lb,Lg,Lr,g88 _ _ _ _ _ _,fun _=>⟨AO.new u _ _,hb.size⟩,fun h=>(by cases h),fun h=>⟨(h4 h).1.alloc _,(h4 h).2⟩,fun h=>⟨(h5 h).1.alloc _,(h5 h).2⟩,fun h=>⟨(fun _=>by have:=(h5 h).1.lt;omega),fun q=>(by cases q),(hn h).2.2⟩,hb.alloc hb.size _,fun h=>(by cases h),fun h=>(by cases h)⟩
       ·rcases Aj.1 hi with hi | hi
        ·cases d4 with
         | true=>cases hi
         | false=>
          obtain rfl:i=11:=by simpa using hi
          refine⟨(d1,d2,d3,true,d5),_,rfl,rfl,by cases d1 <;> cases d2 <;> cases d3 <;> cases d5 <;> rfl,fun K hK=>?_⟩;unfold bH;rw[if_pos (by rfl)];go_simp;exact hK _ _ ⟨Lt,Lb,u.heap.size,Lr,g98 _ _ _ _ _ _,fun h=>⟨(h1 h).1.alloc _,(h1 h).2⟩,fun h=>⟨(h3 h).1.alloc _,(h3 h).2⟩,fun _=>⟨AO.new u _ _,hb.size⟩,fun h=>⟨(h5 h).1.alloc _,(h5 h).2⟩,fun h=>⟨(hn h).1,(hn h).2.1,fun _=>by have:=(h5 h).1.lt;omega⟩,hb.alloc hb.size _,q2,q3⟩
        ·cases d5 with
         | true=>cases hi
         | false=>
          obtain rfl:i=13:=by simpa using hi
          refine⟨(d1,d2,d3,d4,true),_,rfl,rfl,by cases d1 <;> cases d2 <;> cases d3 <;> cases d4 <;> rfl,fun K hK=>?_⟩;unfold bH;rw[if_pos (by rfl)];go_simp;exact hK _ _ ⟨Lt,Lb,Lg,u.heap.size,g10 _ _ _ _ _ _,fun h=>⟨(h1 h).1.alloc _,(h1 h).2⟩,fun h=>⟨(h3 h).1.alloc _,(h3 h).2⟩,fun h=>⟨(h4 h).1.alloc _,(h4 h).2⟩,fun _=>⟨AO.new u _ _,hb.size⟩,fun _=>⟨fun h=>(by have:=(h1 h).1.lt;omega),fun h=>(by have:=(h3 h).1.lt;omega),fun h=>by have:=(h4 h).1.lt;omega⟩,hb.alloc hb.size _,q2,q3⟩
     ·obtain⟨d1,d2,d3,d4,d5⟩:=s;obtain⟨Lt,Lb,Lg,Lr,rfl,h1,h3,h4,h5,hn,hb,q2,q3⟩:=hJ;dsimp only at h1 h3 h4 h5 hn q2 q3 hE;obtain⟨rfl,rfl⟩:=hE;obtain rfl:=q3 rfl;obtain rfl:=q2 rfl;have m1:=h1 rfl;have m3:=h3 rfl;have m4:=h4 rfl;obtain⟨hF,ha0⟩:=HF0.out;clear h1 h3 h4 q2 q3 f87 f97 f88 f89 g10 g88 g89 g90 g98 HF0;have hSu:=HS.out u hb;rw[hF,<- ha0];clear hF ha0;cases d5
      case' false=>
       change wpAnyH _ _ _ _ _ 3 _ _ _;simp only[zz];refine tk 12 (.agg #[.string ⟨#[]⟩,zn,.slice (Qb Lb 0) 1 1,.slice (Qb Lg 0) 1 1]) hSu (hy:=fun u _=>by go_simp) ?_;simp only[zz];refine MZ (rs:=[13]) zt zw<|ND rfl (fun K' hK'=>?_) M8;go_simp;have m5:AO _ u.heap.size #[.string ⟨#[]⟩,zn,zn,zn] 44:=AO.new u _ _;have l5:=hb.size;have n1:Lt≠u.heap.size:=by have:=m1.1.lt;omega
       have n3:Lb≠u.heap.size:=by have:=m3.1.lt;omega
       have n4:Lg≠u.heap.size:=by have:=m4.1.lt;omega
       have hb':=hb.alloc hb.size<|.cells #[.string ⟨#[]⟩,zn,zn,zn] 44;have m1':=m1.1.alloc<|.cells #[.string ⟨#[]⟩,zn,zn,zn] 44;have m3':=m3.1.alloc<|.cells #[.string ⟨#[]⟩,zn,zn,zn] 44;have m4':=m4.1.alloc<|.cells #[.string ⟨#[]⟩,zn,zn,zn] 44;refine hK'.out _ _ (HS.out _ hb') fun _=>?_;clear hK' K' hSu hb m1 m3 m4 h5 hn;generalize u.heap.size=LR at*;change wpAnyH _ _ _ _ _ _ _ _ (u.alloc<|.cells #[.string ⟨#[]⟩,zn,zn,zn] 44);generalize u.alloc (.cells #[.string ⟨#[]⟩,zn,zn,zn] 44)=U at*
      case' true=>
       change wpAnyH _ _ _ _ _ 2 _ _ _;simp only[zz];refine tk 12 (.agg #[.string ⟨#[]⟩,zn,.slice (Qb Lb 0) 1 1,.slice (Qb Lg 0) 1 1]) hSu (hy:=fun u _=>by go_simp) ?_;simp only[zz];have m5:=(h5 rfl).1;have l5:=(h5 rfl).2;obtain⟨n1,n3,n4⟩:=hn rfl;have n1:=n1 rfl;have n3:=n3 rfl;have n4:=n4 rfl;have hb':=hb;have m1':=m1.1;have m3':=m3.1;have m4':=m4.1;clear hSu hb m1 m3 m4 h5 hn;generalize Lr=LR at*;generalize u=U at*
      all_goals
       obtain⟨y0,y1,y2,y3,ys⟩:=m5.four;refine MZ (rs:=[14]) zt zw<|ND rfl (fun K' hK'=>?_) M8;go_simp;have k9:=(((m5.set 0<|.string ⟨#[]⟩).set 1<|zn).set 2<|.slice (Qb Lb 0) 1 1).set 3<|.slice (Qb Lg 0) 1 1;have k9:AO ((((U.setCell (zm LR 0)<|.string ⟨#[]⟩).setCell (zm LR 1)<|zn).setCell (zm LR 2)<|.slice (Qb Lb 0) 1 1).setCell (zm LR 3)<|.slice (Qb Lg 0) 1 1) LR #[.string ⟨#[]⟩,zn,.slice (Qb Lb 0) 1 1,.slice (Qb Lg 0) 1 1] 44:=by simpa using k9
       have b9:=SA LR (SA LR (SA LR (SA LR hb' l5 0<|.string ⟨#[]⟩) l5 1<|zn) l5 2<|.slice (Qb Lb 0) 1 1) l5 3<|.slice (Qb Lg 0) 1 1;have e9: ∀ {L:Nat} {cs:Array Value} {t:TypeId},AO U L cs t->L≠LR->AO ((((U.setCell (zm LR 0)<|.string ⟨#[]⟩).setCell (zm LR 1)<|zn).setCell (zm LR 2)<|.slice (Qb Lb 0) 1 1).setCell (zm LR 3)<|.slice (Qb Lg 0) 1 1) L cs t:=fun h q=>(((h.away _ _ q _).away _ _ q _).away _ _ q _).away _ _ q _;have m1:=e9 m1' n1;have m3:=e9 m3' n3;have m4:=e9 m4' n4;refine hK'.out _ _ (HS.out _ b9) fun _=>?_;clear hK' K' e9 m1' m3' m4' m5 hb' y0 y1 y2 y3 ys n1 n3 n4;change wpAnyH _ _ _ _ _ _ _ _ ((((U.setCell (zm LR 0)<|.string ⟨#[]⟩).setCell (zm LR 1)<|zn).setCell (zm LR 2)<|.slice (Qb Lb 0) 1 1).setCell (zm LR 3)<|.slice (Qb Lg 0) 1 1);generalize (((U.setCell (zm LR 0)<|.string ⟨#[]⟩).setCell (zm LR 1)<|zn).setCell (zm LR 2)<|.slice (Qb Lb 0) 1 1).setCell (zm LR 3) (.slice (Qb Lg 0) 1 1)=W at*;refine Uy zt ?_ _;have BW:=tr B0 b9;have BX:=tr B03 b9;have HW:AF (∀ u,Bl W u->ExC w.heap.size (Qb b o) nb cb pp np cp key Aa u):=⟨fun u hu=>HK.out u (B03.out.trans<|(b9.trans<|hu.mono b9.size).mono B03.out.size)⟩;obtain⟨r0,r1,r2,r3,_⟩:=k9.four;clear HK B03 B0 B3 HS hSd l5 b9 KV;have M:=AC<|AJ m1<|AJ m3 m4;clear m1 m3 m4 k9;go_wp2_with fail
       obtain⟨V,hV,hR,bV⟩:=Ynh hc6.out M.out.2.1 M.out.1 M.out.2.2;rw[<- hV];have BV:=tr BW bV;refine(CQ.out V BV.out _ _ hR).mono ?_;rintro e w6 ⟨rfl,Gp⟩;have B6:=tr BV Gp;have C6:=AC<|BX.out.trans<|(bV.trans<|Gp.mono bV.size).mono BX.out.size;have H6:AF (∀ u,Bl w6 u->ExC w.heap.size (Qb b o) nb cb pp np cp key Aa u):=⟨fun u hu=>HW.out u (bV.trans<|(Gp.trans<|hu.mono Gp.size).mono bV.size)⟩;clear hV hR bV Gp BV BW BX HW M CQ r0 r1 r2 r3 hnf hnu;go_wp2
       go_loopw [13] (fun iv wr=> ∃ d:Int,-2<=d/\d<=3/\iv= zo d/\Bl w6 wr) (fun iv _=>(3-intOf iv).toNat)
       case atStart=>exact⟨-2,zx,zx,rfl,AR _ _⟩
       case round=>
        obtain⟨d,h1,h2,rfl,G6⟩:=hrel;have B7:=AC G6;clear G6;by_cases hd:d<=2
        ·obtain⟨k0,k1,k2,k3⟩:=H6.out wr B7.out;go_wp2_with fail
         obtain⟨cc,hcc⟩: ∃ cc,wrap64 (Aa+d)=cc:=⟨_,rfl⟩;rw[hcc];have hci:Gq cc:=by
          rw[<- hcc];unfold wrap64;constructor <;> omega
         have CB':=AC fun v hv=>CB.out v hv cc hci;have CC':=AC fun v hv=>CC.out v hv cc hci;have HV':=AC<|HV.out cc hci;generalize va cc=vac at*;generalize vb cc=vbc at*;clear hcc hci;have S0:=AJ k1 k2;go_region_held3 (fun u=>u.cell? (zm w.heap.size 1)=some (.slice pp np cp)/\u.cell? (zm w.heap.size 2)=some (.string key)) (first | exact S2 | exact S0) (first
          | (go_at_call 8;refine(CB'.out _ (C6.out.trans<|B7.out.mono C6.out.size).drew).mono ?_;rintro e w8 ⟨rfl,hb0⟩;have GV:=B7.out.drew.trans<|hb0.mono B7.out.drew.size;have S2:_:=AJ (H6.out w8 GV).2.1 (H6.out w8 GV).2.2.1))
         have B8:=AC GV;clear S0 S2 hb0 GV CB' k0 k1 k2 k3 B7;obtain⟨k0,k1,k2,k3⟩:=H6.out w8 B8.out;go_wp2_with fail
         have S0:=AJ k1 k2;go_region_held3 (fun u=>u.cell? (zm w.heap.size 1)=some (.slice pp np cp)/\u.cell? (zm w.heap.size 2)=some (.string key)) (first | exact S2 | exact S0) (first
          | (go_at_call 8;refine(CC'.out _ (C6.out.trans<|B8.out.mono C6.out.size).drew).mono ?_;rintro e w9 ⟨rfl,hb0⟩;have WJ:=B8.out.drew.trans<|hb0.mono B8.out.drew.size;have S2:_:=AJ (H6.out w9 WJ).2.1 (H6.out w9 WJ).2.2.1))
         have B9:=AC WJ;clear S0 S2 hb0 WJ CC' k0 k1 k2 k3 B8;obtain⟨k0,k1,k2,k3⟩:=H6.out w9 B9.out;by_cases hle:cc<=Aa
         ·obtain rfl:=HV'.out.2 hle;go_wp2_with fail
          all_goals exact⟨⟨d+1,zx,zx,rfl,B9.out⟩,by simp[intOf];omega⟩
         ·have hne:=HV'.out.1 zx;go_wp2_with fail
          all_goals exact⟨⟨d+1,zx,zx,rfl,B9.out⟩,by simp[intOf];omega⟩
        ·go_wp2
         go_ret
         exact⟨rfl,B6.out.trans<|B7.out.mono B6.out.size⟩
end Go.P
