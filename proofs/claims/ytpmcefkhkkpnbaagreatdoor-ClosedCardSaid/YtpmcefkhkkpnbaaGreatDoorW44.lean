import Derived.Test.YtpmcefkhkkpnbaaGreatDoorW43
set_option linter.all false
set_option maxRecDepth 100000
set_option maxHeartbeats 8000000
open Go.Proofs Go.RowKit Go.W Tryz
namespace Go.W
theorem Ypj {α:Type}{s:Nat}{Q:Nat->Nat->α->Prop}{p:Bp}{xs:List α}(h:Ap s Q p xs)(k:Nat):Ap s Q p (xs.take k):=⟨Nat.lt_of_le_of_lt (List.length_take_le' _ _) h.len,fun i x hx=>h.at_ i x (by
 rw[List.getElem?_take]at hx;split at hx
 ·exact hx
 ·cases hx)⟩
def Yqq:Value->Nat
 | .slice _ n _=>n
 | _=>0
theorem Ypg {d bb ob:Nat}{w:Bb}{pl:Bp}{cl:Nat}{l:List A}{x:Bk}(hl:Ap 2 (Ep w.heap.size w<|d+1) pl l)(hlc:l.length<=cl)(hx:Iz w.heap.size w (d+1) bb ob x)(Fq:l.length<=60)(QW:l.Nodup)(hL:Yno x.fa x.ru l)(hgr: ∀ a,a∈l-> ∀ t,t∈a.te->t.k≠1)(hro: ∀ r,r∈x.ru->Jj r)(h24:x.fa.length<=24):Calls prog 7 #[zq bb ob,sP pl l.length cl] w fun e w'=>e=uY (.bool true)/\Bl w w':=by
 obtain⟨_,⟨_,x0,pf,cf,rfl,hfc,yP⟩,⟨_,x1,pr,cr,rfl,l9,hxr⟩,_⟩:=hx;have HL:=AC hl;have HF:=AC yP;have HR:=AC hxr;have HS:=AC<|AJ QW<|AJ hL<|AJ hgr hro;have XY:=hxr.len;have X1:AF (w.cell? (zm bb (ob+1))=some (sP pr x.ru.length cr)):=⟨x1⟩;clear hl yP hxr QW hL hgr hro;obtain⟨n,hn⟩:=cK (l.length);obtain⟨nf,hnf⟩:=cK (x.fa.length);obtain⟨nr,tN⟩:=cK (x.ru.length);rw[hn.o]at Fq hlc⊢;rw[hnf.o]at x0 h24 hfc;rw[tN.o]at x1 XY l9 X1;go_in
 go_wp2
 go_loopw [5] (fun iv wr=> ∃ k:Nat,k<=n/\iv= zo (k:Int)/\Bl w wr) (fun iv _=>n-(intOf iv).toNat)
 .exact⟨0,Eg _,rfl,AR _ _⟩
 .obtain⟨k,hk,rfl,Af⟩:=hrel;have HB:=AC Af;by_cases hlt:k<n
  .have QZ:k<l.length:=by rw[hn.o];exact hlt
   obtain⟨b1,o1,rfl,ha⟩:=HL.o.get k QZ;obtain⟨_,p1,c1,a0,a1,has⟩:=ha.vals;have CA:AF (∀ u,Bl w u->Calls prog 17 #[sP (Qb b1 o1) k cl,.agg #[um l[k].name,sP p1 l[k].te.length c1]] u fun e w'=>e=uY (.bool false)/\Bl u w'):=⟨fun u hu=>by
    have:=Yne (w:=u) (B:=w.heap.size) (c:=cl) (xs:=l.take k) hu.size ((Ypj HL.o k).cy fun _ _ _ q=>q.cy (Bq hu lr) lr)<|Jz.cy has<|Bq hu lr
    rw[wt,Nat.min_eq_left zx]at this;refine this.mono fun e w' ⟨r,h1,h2,h3⟩=>⟨?_,h3⟩;have YZ:l[k]∉l.take k:=fun hm=>by
     obtain⟨i,hi⟩:=List.mem_iff_getElem?.1 hm;rw[List.getElem?_take]at hi;split at hi
     .rename_i hik
      have:=(List.getElem?_inj zx HS.o.1).1<|hi.trans (A8 QZ).symm
      omega
     .cases hi
    cases r with
    | false=>exact h1
    | true=>exact absurd (h2.1 rfl) YZ⟩
   have HC:AF (∀ u,Bl w u->u.cell? (zm b1 (o1+k*2))=some (um l[k].name)/\u.cell? (zm b1 (o1+k*2+1))=some (sP p1 l[k].te.length c1)):=⟨fun u hu=>⟨Cb a0 hu,Cb a1 hu⟩⟩;clear ha has Af a0 a1;generalize l[k]=y at*;have hkc:k<=cl:=zx
   go_wp2_with fail
   have AY:=HC.o _ HB.o.drew;refine Zwh ?_;refine Vj 8 (fun u=>u.cell? (zm b1 (o1+k*2))=some (um y.name)/\u.cell? (zm b1 (o1+k*2+1))=some (sP p1 y.te.length c1)) zt ?_;refine z9 0 (sP (Qb b1 o1) n cl) AY ?_
   refine z9 1 (zo (k:Int)) AY ?_
   refine z9 2 (sP (Qb b1 o1) k cl) AY ?_
   refine z9 3 (sP (Qb b1 o1) n cl) AY ?_
   refine z9 4 (zo (k:Int)) AY ?_
   refine z9 5 (zq b1<|o1+k*2) AY ?_
   refine z9 6 (.agg #[um y.name,sP p1 y.te.length c1]) AY ?_
   refine rz 7 (h:=fun K' hK'=>?_);go_simp;apply(CA.o _ HB.o.drew).mono;rintro e w2 ⟨rfl,hb2⟩;have Ey:=AC<|HB.o.drew.trans<|hb2.mono HB.o.drew.size;refine hK'.o _ _ (HC.o _ Ey.o) ?_;try simp only[zz]
   refine yq ?_;clear AY hK' hb2 CA HC;go_wp2
   exact⟨⟨k+1,zx,by go_num,Ey.o⟩,zd⟩
  .obtain rfl:k=n:=zx
   have x0:=Cb x0 Af;obtain⟨zs,z1,z2,z3,z4⟩:=FaQ.lie HF.o Af;have HZ:=AC<|AJ z1<|AJ z2<|AJ z3 z4;clear Af z1 z2 z3 z4;go_wp2_with (at_builtin;go_must (refine Ym3 Zxi rfl (.tmp 32) (.tmp 36) rfl FaQ.sb w.heap.size (zn) [] [] rfl AQ.nil pf nf cf zs rfl (HZ.o.2.2.1.trans hnf.o) HZ.o.2.2.2 zc HB.o.size (Ag.nil _ _) (by rw[HZ.o.2.1];exact Ag.nil _ _) (fun _ h=>by cases h) ?_);intro p1 c1 w1 F1 hc1 hg1)
   have hr1:=hg1.row;rw[HZ.o.1,JU,JC,Gx]at hr1;have B1:=AC<|HB.o.trans (hg1.be HB.o.size fun _ h=>by cases h);have K1:=AC<|FaQ.kn hr1 hg1.new B1.o;clear hr1 hg1 hc1 HZ;clear HF x0 HB hfc;go_loopw [7] (fun kv wr=> ∃ ks,Yon w.heap.size wr d kv ks/\KnS x.fa l ks/\Bl w wr) (fun kv _=>200-Yqq kv)
   .exact⟨x.fa,K1.o,KnS.start HS.o.2.1.has,B1.o⟩
   .obtain⟨ks0,hk0,hs0,hb0⟩:=hrel;clear K1 B1;have h84:ks0.length<=84:=by have:=hs0.len;rw[hnf.o,hn.o]at this;omega
    have HB0:=AC hb0;have HS0:=AC hs0;have lC:=AC hk0;obtain⟨p0,c0,rfl,hc0⟩:=hk0.form;generalize hm0:ks0.length=m0 at*;have HM0:=AC hm0;clear hm0 hk0 hs0;have x1':=Cb x1 hb0;clear hb0;go_wp2
    go_loopw [7,9] (fun kv iv wr=> ∃ (i:Nat) (ks:List A),i<=nr/\iv= zo (i:Int)/\Yon w.heap.size wr d kv ks/\KnS x.fa l ks/\ks0 <+:ks/\Bl w wr/\ ∀ r,r∈x.ru.take i-> ∀ y,Ynd r ks0 y->y∈ks) (fun _ iv _=>nr-(intOf iv).toNat)
    .exact⟨0,ks0,Eg _,rfl,lC.o,HS0.o,List.prefix_refl _,HB0.o,fun _ h=>by simp at h⟩
    .obtain⟨i,ks,hi,rfl,uA,Ph,hpre,Af,Ox⟩:=hrel;have HKN:=AC uA;have HKS:=AC<|AJ Ph<|AJ hpre Ox;have HB:=AC Af;have h84':ks.length<=84:=by have:=Ph.len;rw[hnf.o,hn.o]at this;omega
     have VL:m0<=ks.length:=by rw[<- HM0.o];exact hpre.length_le
     obtain⟨p2,c2,rfl,hc2,IA⟩:=uA.rows zx;have hrow0:Ap 2 (Ynl w.heap.size wr d) p2 ks0:=by
      have:=Ypj IA ks0.length
      rwa [<- List.prefix_iff_eq_take.1 hpre]at this
     have HRW:=AC<|AJ IA hrow0;generalize aI:ks.length=mk at*;have HMK:=AC aI;have x1:=Cb x1 Af;clear uA Ph hpre Ox Af IA hrow0 aI;by_cases OP:i<nr
     .have hir:i<x.ru.length:=by rw[tN.o];exact OP
      obtain⟨b3,o3,rfl,hrule⟩:=HR.o.get i hir;have hrok:=HS.o.2.2.2 _<|QO hir;have CH:AF (∀ u,Bl wr u->Calls prog 18 #[sP p2 m0 c2,zq b3<|o3+i*4,zo 0,zn] u fun e w'=>Yqa w.heap.size w d u (Ynq ks0 x.ru[i] x.ru[i].body []) e w'):=⟨fun u hu=>by
       have hwu:=HB.o.trans<|hu.mono HB.o.size
       have:=Yof (B:=w.heap.size) (d:=d) (w0:=w) (cf:=c2) (pf:=p2) (K:=ks0) hrok (by rw[HM0.o];omega) x.ru[i].body 0 u [] none 0 hwu.size (Yo5 hwu lr) (hrule.cy (Bq hwu lr) lr) (HRW.o.2.cy fun _ _ _ q=>q.la HB.o.size hu) rfl (Eg _) (by have:=hrok.b4;simp;omega) ⟨zw,fun _ _ h=>by simp at h⟩
       rw[HM0.o]at this;exact this⟩
      have EY:AF (∀ y,y∈Ynq ks0 x.ru[i] x.ru[i].body []↔Ynd x.ru[i] ks0 y):=⟨fun y=>hrok.heads (fun f hf=>HS.o.2.2.1 f (HS0.o.sub f hf)) y⟩;have EL:AF (∀ y,Ynd x.ru[i] ks0 y->y∈l):=⟨fun y hy=>HS.o.2.1.closed _ (QO hir) y (hy.mono HS0.o.sub)⟩;have ER:AF (∀ r,r∈x.ru.take (i+1)->r∈x.ru.take i\/r=x.ru[i]):=⟨fun r hr=>by
       rw[wa hir]at hr;exact(Aj.1 hr).imp id Bh.1⟩
      clear hrule hrok;generalize x.ru[i]=r at*;generalize Ynq ks0 r r.body []=hs at*;go_wp2_with fail
      have HC:AF (∀ u,Bl w u->u.cell? (zm bb (ob+1))=some (sP (Qb b3 o3) nr cr)):=⟨fun u hu=>Cb X1.o hu⟩;have AY:=HC.o _ HB.o.drew;have hmc:m0<=c2:=zx
      refine Zwh ?_;refine Vj 10 (fun u=>u.cell? (zm bb (ob+1))=some (sP (Qb b3 o3) nr cr)) zt ?_;refine z9 0 (sP p2 mk c2) AY ?_
      refine z9 1 (zo (m0:Int)) AY ?_
      refine z9 2 (sP p2 m0 c2) AY ?_
      refine z9 3 (zq bb ob) AY ?_
      refine z9 4 (zq bb ob) AY ?_
      refine z9 5 (zq bb<|ob+1) AY ?_
      refine z9 6 (sP (Qb b3 o3) nr cr) AY (hy:=fun _ s0=>by go_simp) ?_
      refine z9 7 (zo (i:Int)) AY ?_
      refine z9 8 (zq b3<|o3+i*4) AY ?_
      refine rz 9 (h:=fun K' hK'=>?_);go_simp;apply(CH.o _ (AR _ wr).drew).mono;rintro e w3 ⟨v3,G3,rfl,hr3,dV,hb3⟩;have hb3:Bl wr w3:=((AR wr.heap.size wr).drew).trans hb3;have dV:Ag wr.heap.size w3 G3:=dV;have UA:=tr HB hb3;obtain⟨p5,c5,rfl,YU⟩:=Ypu hr3 dV<|Bq UA.o lr;have HW:=AC YU;have KN3:=AC<|HKN.o.la HB.o.size hb3;have OW:=AC HKN.o.own;have hlh:=YU.len;have N12:=AC hb3.size;generalize hmh:hs.length=mh at*;have HMH:=AC hmh;clear YU hr3 dV hb3 hmh HRW;generalize wr.heap.size=n1 at*;refine hK'.o _ _ (HC.o _ UA.o) ?_;try simp only[zz]
      refine yq ?_;clear AY hK' CH HC x1;go_wp2
      go_loopw [7,11] (fun kv iv w5=> ∃ (j:Nat) (kt:List A),j<=mh/\iv= zo (j:Int)/\Yon w.heap.size w5 d kv kt/\KnS x.fa l kt/\ks <+:kt/\Bl w w5/\w3.heap.size<=w5.heap.size/\(∀ b,n1<=b->b<w3.heap.size->w5.heap[b]?=w3.heap[b]?)/\(∀ g,kv.ownBlock=some g->g<n1\/w3.heap.size<=g)/\ ∀ y,y∈hs.take j->y∈kt) (fun _ iv _=>mh-(intOf iv).toNat)
      .exact⟨0,ks,Eg _,rfl,KN3.o,HKS.o.1,List.prefix_refl _,UA.o,EO _,fun _ _ _=>rfl,fun g hg=> .inl (OW.o g hg),fun _ h=>by simp at h⟩
      .obtain⟨j,kt,hj,rfl,uA,hkt,hpre,Af,hsz,hblk,hown,dW⟩:=hrel;have bE:=AC Af;have HKN5:=AC uA;have H5:=AC<|AJ hkt<|AJ hpre<|AJ hblk<|AJ hown dW;have h84t:kt.length<=84:=by have:=hkt.len;rw[hnf.o,hn.o]at this;omega
       obtain⟨p6,c6,rfl,hc6,IA⟩:=uA.rows zx;generalize hmt:kt.length=mt at*;have HMT:=AC hmt;clear hmt hkt hpre hown dW;by_cases hltj:j<mh
       .have hjh:j<hs.length:=by rw[HMH.o];exact hltj
        obtain⟨b7,o7,rfl,G6,vs,hac,hcell⟩:=HW.o.get j hjh;have hyh:=QO hjh;have ET:AF (∀ y,y∈hs.take (j+1)->y∈hs.take j\/y=hs[j]):=⟨fun r hr=>by
         rw[wa hjh]at hr;exact(Aj.1 hr).imp id Bh.1⟩
        generalize hs[j]=y at*;have hyl:=EL.o y<|(EY.o y).1 hyh;have hac5:Ym1 (fun b=>n1<=b/\b<w3.heap.size) w.heap.size _ d vs y:=hac.imp fun b o t q1 q2=>⟨⟨q1,q2.lt⟩,q2.block ⟨EO _,fun b o hb=>(Af.cell (p:=(zm b o)) hb).trans (UA.o.cell (p:=(zm b o)) hb).symm⟩<|hblk b q1 q2.lt⟩;have hc7:=hcell 0;have hc8:=hcell 1;have UI:=hac5;obtain⟨p7,c7,rfl,_⟩:=UI;have l7:=Wx<|hc7 _ rfl;have a0:=(A9 (a:=(zm b7 (o7+j*2+0)))<|hblk b7 G6 l7).trans<|hc7 _ rfl;have a1:=(A9 (a:=(zm b7 (o7+j*2+1)))<|hblk b7 G6 l7).trans<|hc8 _ rfl;rw[Qs]at a0;have AC5:=AC hac5;have CA:=AC fun c=>Yne (c:=c) lr (IA.cy fun _ _ _ q=>q.at Af.size) (hac5.s Af.size);rw[HMT.o]at CA;have HY:=AC hyl;clear hac hcell hc7 hc8 hblk Af uA IA hyl hyh hac5;go_wp2_with fail
        apply(CA.o c6).mono;rintro e w6 ⟨rr,rfl,hrr,Gp⟩;have HB6:=tr bE Gp;have KN6:=AC<|HKN5.o.la bE.o.size Gp;have BK6:AF (∀ b,n1<=b->b<w3.heap.size->w6.heap[b]?=w3.heap[b]?):=⟨fun b h1 h2=>(Gp.block b zx).trans (H5.o.2.2.1 b h1 h2)⟩;have hz6:=Gp.size;have AC6:=AC<|AC5.o.la bE.o.size Gp;have a0:=Cb a0 Gp;have a1:=Cb a1 Gp;clear CA Gp HKN5 AC5;cases rr with
        | true=>
         have hyk:=AC<|hrr.1 rfl;clear hrr;go_wp2
         exact⟨⟨j+1,kt,zx,by go_num,KN6.o,H5.o.1,H5.o.2.1,HB6.o,zx,BK6.o,H5.o.2.2.2.1,fun q hq=>(ET.o q hq).elim (H5.o.2.2.2.2 q) fun e=>e▸hyk.o⟩,zd⟩
        | false=>
         have hyk:AF (y∉kt):=⟨fun q=>by have:=hrr.2 q;cases this⟩;clear hrr;have b7':=zv w6<|.cells #[um y.name,sP p7 y.te.length c7] 64;obtain⟨zs,ho,Ph,hzz⟩:=KN6.o.la HB6.o.size b7';have AC7:Ym1 (fun b=>(Value.slice p6 mt c6).ownBlock≠some b) w.heap.size _ d [um y.name,sP p7 y.te.length c7] y:=(AC6.o.la HB6.o.size b7').imp fun b o t q1 q2=>⟨fun e=>fw (H5.o.2.2.2.1 b e),q2⟩;have Zw:=HB6.o.trans<|b7'.mono HB6.o.size;have hzl:zs.length=mt:=by rw[<- HMT.o,Ph,Dj]
         have HZ:=AC<|AJ ho<|AJ Ph<|AJ hzz<|AJ AC7<|AJ Zw hzl;clear ho Ph hzz AC7 Zw b7';go_wp2_with (at_builtin;go_must (refine Z1w Zxi rfl (.tmp 73) (.tmp 78) rfl w.heap.size (sP p6 mt c6) mt _ rfl (hzl▸HZ.o.1) w6.heap.size #[um y.name,sP p7 y.te.length c7] 64 (0,0) rfl (Hw _ _) rfl (fun u hu=>by simp at hu;rcases hu with rfl | rfl <;> rfl) zx HZ.o.2.2.2.2.1.size ?_);intro g8 UU w8 AM)
         have ho:=HZ.o.1;obtain⟨_,Ph,hzz,hyy,hb7',_⟩:=HZ.o;have GV:=AM.be (hzl▸ho) (AR _ _) hb7'.size;have KN8:=Yon.more (ys:=[([um y.name,sP p7 y.te.length c7],y)]) hzz (Go.W.Below.cy GV lr) (fun z hz=>by rw[Bh.1 hz];exact hyy) (by rw[hzl];simpa using AM);rw[hzl,<- Ph]at KN8;have hz8:=GV.size;simp at hz8;refine⟨⟨j+1,kt++[y],zx,by go_num,KN8,H5.o.1.add HY.o hyk.o,H5.o.2.1.trans<|List.prefix_append _ _,hb7'.trans GV,zx,fun b h1 h2=>?_,fun g hg=>?_,fun q hq=>?_⟩,zd⟩
         .refine(AM.grown.block b zc fun e=>?_).trans<|(Ah _ _ _ zx).trans<|BK6.o b h1 h2
          have:=H5.o.2.2.2.1 b e.symm
          omega
         .have hg:g8=g:=Gw hg;rw[<- hg];rcases AM.spot with h | h
          .exact H5.o.2.2.2.1 g8 h
          .exact .inr (by simp at h;omega)
         .rcases ET.o q hq with h | h
          .exact Md _<|H5.o.2.2.2.2 q h
          .rw[h];exact Vq _<|Bh.2 rfl
       .obtain rfl:j=mh:=zx
        clear hblk Af uA IA;go_wp2
        exact⟨⟨i+1,kt,zx,by go_num,HKN5.o,H5.o.1,HKS.o.2.1.trans H5.o.2.1,bE.o,fun r' hr' y hy=>by
         rcases ER.o r' hr' with h | h
         .exact H5.o.2.1.subset<|HKS.o.2.2 r' h y hy
         .refine H5.o.2.2.2.2 y ?_;rw[U0 (by rw[HMH.o];omega)];rw[h]at hy;exact(EY.o y).2 hy⟩,zd⟩
     .obtain rfl:i=nr:=zx
      have HCL:AF (∀ r,r∈x.ru-> ∀ y,Ynd r ks0 y->y∈ks):=⟨by
       have:=HKS.o.2.2
       rwa [U0 (by rw[tN.o];omega)]at this⟩
      obtain⟨W9,rfl⟩: ∃ W9,W9=wr:=⟨_,rfl⟩;go_wp2
      go_loopw [13] (fun iv w5=> ∃ j:Nat,j<=mk/\iv= zo (j:Int)/\Bl W9 w5) (fun iv _=>mk-(intOf iv).toNat)
      .exact⟨0,Eg _,rfl,AR _ _⟩
      .obtain⟨j,hj,rfl,Af⟩:=hrel;have bE:=AC Af;by_cases hltj:j<mk
       .have hjk:j<ks.length:=by rw[HMK.o];exact hltj
        obtain⟨b7,o7,rfl,hat⟩:=HRW.o.1.get j hjk;obtain⟨_,p7,c7,a0,a1,has⟩:=(hat.at HB.o.size).vals;have CA:AF (∀ u,Bl W9 u->Calls prog 17 #[sP pl k cl,.agg #[um ks[j].name,sP p7 ks[j].te.length c7]] u fun e w'=>e=uY (.bool true)/\Bl u w'):=⟨fun u hu=>by
         have bu:=HB.o.trans<|hu.mono HB.o.size
         have:=Yne (w:=u) (B:=W9.heap.size) (c:=cl) hu.size (HL.o.cy fun _ _ _ q=>q.cy (Go.W.Below.cy bu HB.o.size) lr)<|Jz.cy has<|Bq hu lr
         rw[hn.o]at this;refine this.mono fun e w' ⟨r,h1,h2,h3⟩=>⟨?_,h3⟩;rw[h1,h2.2<|HKS.o.1.sub _<|QO hjk]⟩
        have a0:=Cb a0 Af;have a1:=Cb a1 Af;clear hat has Af;generalize ks[j]=y at*;go_wp2_with fail
        apply(CA.o _ bE.o).mono;rintro e w6 ⟨rfl,Gp⟩;have HB6:=tr bE Gp;clear CA Gp;go_wp2
        exact⟨⟨j+1,zx,by go_num,HB6.o⟩,zd⟩
       .obtain rfl:j=mk:=zx
        by_cases hjm:j=m0
        rotate_left
        .have gm:((j:Int)==(m0:Int))=false:=zj
         clear Af;go_wp2
         exact⟨⟨ks,HKN.o.la HB.o.size bE.o,HKS.o.1,HB.o.trans<|bE.o.mono HB.o.size⟩,by simp[Yqq];omega⟩
        have gm:((j:Int)==(m0:Int))=true:=by rw[hjm];simp
        have EK:AF (∀ a,a∈l->a∈ks):=⟨by
         have e:ks0=ks:=HKS.o.2.1.eq_of_length (by rw[HM0.o,HMK.o];omega);subst e;exact HS.o.2.1.Yjy ks0 HS0.o.has HCL.o⟩
        have RW:AF (Ap 2 (Ynl w.heap.size wr d) p2 ks):=⟨HRW.o.1.cy fun _ _ _ q=>q.la HB.o.size Af⟩;have xY:=tr HB Af;clear Af hjm;go_wp2_with fail
        clear gm;obtain⟨WA,rfl⟩: ∃ WA,WA=wr:=⟨_,rfl⟩;go_loopw [15] (fun iv w5=> ∃ q:Nat,q<=k/\iv= zo (q:Int)/\Bl WA w5) (fun iv _=>k-(intOf iv).toNat)
        .exact⟨0,Eg _,rfl,AR _ _⟩
        .obtain⟨q,hq,rfl,Af⟩:=hrel;have Zw:=AC Af;by_cases hltq:q<k
         .have Ea:q<l.length:=by rw[hn.o];exact hltq
          obtain⟨b7,o7,rfl,hat⟩:=HL.o.get q Ea;obtain⟨_,p7,c7,a0,a1,has⟩:=hat.vals;have bw:=xY.o.trans<|Af.mono xY.o.size;have CA:AF (Calls prog 17 #[sP p2 j c2,.agg #[um l[q].name,sP p7 l[q].te.length c7]] wr fun e w'=>e=uY (.bool true)/\Bl wr w'):=⟨by
           have:=Yne (w:=wr) (B:=wr.heap.size) (c:=c2) lr (RW.o.cy fun _ _ _ q=>(q.la xY.o.size Af).at bw.size)<|Jz.cy has<|Go.W.Below.cy bw bw.size
           rw[HMK.o]at this;refine this.mono fun e w' ⟨r,h1,h2,h3⟩=>⟨?_,h3⟩;rw[h1,h2.2<|EK.o _<|QO Ea]⟩
          have a0:=Cb a0 bw;have a1:=Cb a1 bw;clear hat has Af bw;generalize l[q]=y at*;go_wp2_with fail
          apply mq CA.o;rintro w6 Gp;have HB8:=tr Zw Gp;clear CA Gp;go_wp2
          exact⟨⟨q+1,zx,by go_num,HB8.o⟩,zd⟩
         .obtain rfl:q=k:=zx
          clear Af;go_wp2
          go_ret
          exact⟨rfl,xY.o.trans<|Zw.o.mono xY.o.size⟩
end Go.W
