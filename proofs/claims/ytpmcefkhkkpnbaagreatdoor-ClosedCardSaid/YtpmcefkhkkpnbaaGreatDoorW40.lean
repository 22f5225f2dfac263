import Derived.Test.YtpmcefkhkkpnbaaGreatDoorW28
import Derived.Test.YtpmcefkhkkpnbaaGreatDoorW35
import Derived.Deep.Upon
set_option linter.all false
set_option maxRecDepth 100000
set_option maxHeartbeats 8000000
open Go.Proofs Go.RowKit Go.W Tryz
namespace Go.W
section
attribute [local go_sem] Me
end
def _root_.Go.RowKit.Below.CY {B:Nat}{a w:Bb}(h:Below B a w)(n:Nat):Below B a (w.drewN n):=⟨h.os,h.tape,h.output,h.size,h.block⟩
def Yqm (d:Nat):Prop:= ∀ {B:Nat} {w:Bb} {p q:Bp} {c c':Nat} {xs ys:List T},B<=w.heap.size->Ap 4 (He B w d) p xs->Ap 4 (He B w d) q ys->Calls prog 68 #[sP p xs.length c,sP q ys.length c'] w fun e w'=> ∃ r:Bool,e=uY (.bool r)/\(r=true↔xs=ys)/\Bl w w'
def T.ext {x y:T}(hk:x.k=y.k)(hi:x.i=y.i)(ht:x.t=y.t)(hl:x.l=y.l):x=y:=by
 cases x;cases y;cases hk;cases hi;cases ht;cases hl;rfl
def Yn7 {d:Nat}(ih: ∀ e,e<d->Yqm e):Yqm d:=by
 intro B w p q c c' xs ys hB hp hq;have hl:=hp.len;have hl':=hq.len;have HP:=AC hp;have HQ:=AC hq;clear hp hq;by_cases hne:xs.length=ys.length
 rotate_left
 .have HN:AF (xs≠ys):=⟨fun e=>hne (by rw[e])⟩;obtain⟨n,hn⟩:=cK (xs.length);obtain⟨m,hm⟩:=cK (ys.length);rw[hn.o]at hl hne⊢;rw[hm.o]at hl' hne⊢;have g:((n:Int)==(m:Int))=false:=zj
  go_in
  go_wp2
  go_ret
  exact⟨false,rfl,⟨fun h=>(by cases h),fun h=>absurd h HN.o⟩,AR _ _⟩
 have IH:=AC @ih;clear ih hl';have HE:=AC hne;rw[<- hne];clear hne;obtain⟨n,hn⟩:=cK (xs.length);rw[hn.o]at hl⊢;go_in
 go_wp2
 go_loopw [5] (fun iv wr=> ∃ k:Nat,k<=n/\iv= zo (k:Int)/\Bl w wr/\xs.take k=ys.take k) (fun iv _=>n-(intOf iv).toNat)
 .exact⟨0,zx,rfl,AR _ _,rfl⟩
 .obtain⟨k,hk,rfl,Af,Kv⟩:=hrel;have HB:=AC Af;have HT:=AC Kv;clear Kv;by_cases hlt:k<n
  .have OP:k<xs.length:=by rw[hn.o];exact hlt
   have hlt'':k<ys.length:=by rw[<- HE.o];exact OP
   obtain⟨b1,o1,rfl,hx⟩:=HP.o.get k OP;obtain⟨b2,o2,rfl,hy⟩:=HQ.o.get k hlt'';obtain⟨d,rfl⟩: ∃ e,d=e+1:=by
    cases d with
    | zero=>exact absurd hx id
    | succ d=>exact⟨d,rfl⟩
   obtain⟨l1,p1,c1,k0,k1,k2,k3,_,_,e1,_,_,_,_,r1⟩:=(hx.cy (Bq Af hB) lr).vals;cases e1;obtain⟨l2,p2,c2,j0,j1,j2,j3,_,_,e2,_,_,_,_,r2⟩:=(hy.cy (Bq Af hB) lr).vals;cases e2;have CC:=AC fun u (hu:Bl wr u)=>IH.o d (Nat.lt_succ_self d) (B:=B) (w:=u) (c:=c1) (c':=c2) (Ab hB<|Ab Af.size hu.size) (r1.cy fun _ _ _ t=>t.cy (Bq hu<|Ab hB Af.size) lr) (r2.cy fun _ _ _ t=>t.cy (Bq hu<|Ab hB Af.size) lr);have HX:=AC fun u (hu:Bl wr u)=>AJ (AJ (Cb k0 hu)<|AJ (Cb k1 hu)<|AJ (Cb k2 hu)<|Cb k3 hu) (AJ (Cb j0 hu)<|AJ (Cb j1 hu)<|AJ (Cb j2 hu)<|Cb j3 hu);have HN:AF (xs[k]=ys[k]->xs.take (k+1)=ys.take (k+1)):=⟨fun e=>by
    rw[wa OP,wa hlt'',HT.o,e]⟩
   have HD:AF (xs[k]≠ys[k]->xs≠ys):=⟨fun e q=>e (by subst q;rfl)⟩;clear r1 r2 hx hy Af k0 k1 k2 j0 j1 j2;generalize xs[k]=x at*;generalize ys[k]=y at*;go_wp2_with fail
   have S0:=AJ k3 j3;go_region_held3 (fun u=>u.cell? (zm b1 (o1+k*4+3))=some (sP p1 x.l.length c1)/\u.cell? (zm b2 (o2+k*4+3))=some (sP p2 y.l.length c2)) (first | exact S2 | exact S0) (first
    | (go_at_call 68;apply(CC.o _<|(AR _ wr).drew).mono;rintro e w2 ⟨r,rfl,hr,hb2⟩;have G4:=(AR _ wr).drew.trans hb2;have S2:_:=AJ (HX.o w2 G4).1.2.2.2 (HX.o w2 G4).2.2.2.2))
   have B2:AF (Bl wr w2):=⟨G4⟩;obtain⟨⟨k0,k1,k2,k3⟩,j0,j1,j2,j3⟩:=HX.o w2 B2.o;have B3:=tr HB B2.o;clear S0 S2 hb2 G4 CC HX B2 HB k3 j3;have hs: ∀ s t:Ay,(s.toList==t.toList)=decide (s=t):=vo;by_cases dD:x=y
   .obtain rfl:=dD;obtain rfl:=hr.2 rfl;have N8:=AC<|HN.o rfl;clear hr HD HN hs;go_wp2
    go_quiet (fail)
    clear k0 k1 k2 j0 j1 j2;go_wp2
    exact⟨⟨k+1,zx,by go_num,B3.o.CY _,N8.o⟩,zd⟩
   .have iK:=AC<|HD.o dD;have hc:r=false\/(r=true/\x.k≠y.k)\/(r=true/\x.k=y.k/\x.i≠y.i)\/(r=true/\x.k=y.k/\x.i=y.i/\x.t≠y.t):=by
     cases hr':r with
     | false=>exact .inl rfl
     | true=>
      by_cases h1:x.k=y.k
      .by_cases h2:x.i=y.i
       .by_cases h3:x.t=y.t
        .exact absurd (T.ext h1 h2 h3<|hr.1 hr') dD
        .exact .inr<|.inr<|.inr ⟨rfl,h1,h2,h3⟩
       .exact .inr<|.inr<|.inl ⟨rfl,h1,h2⟩
      .exact .inr<|.inl ⟨rfl,h1⟩
    clear hr dD HN HP HQ IH HT HD;generalize x.k=xk at*;generalize y.k=yk at*;generalize x.i=xi at*;generalize y.i=yi at*;generalize x.t=xt at*;generalize y.t=yt at*;rcases hc with rfl | ⟨rfl,g1⟩ | ⟨rfl,rfl,g2⟩ | ⟨rfl,rfl,rfl,g3⟩
    case' inr.inl=>
     have g1':(xk != yk)=true:=by simpa using g1
     clear g1
    case' inr.inr.inl=>
     have g2':(xi != yi)=true:=by simpa using g2
     clear g2
    case' inr.inr.inr=>
     have g3':(xt.toList==yt.toList)=false:=by rw[hs];simpa using g3
     have g4':(xt.toList != yt.toList)=true:=by rw[bne,g3'];rfl
     clear g3
    all_goals
     clear hs;go_wp2
     go_quiet (fail)
     go_wp2
     go_ret
     exact⟨false,rfl,⟨fun h=>(by cases h),fun h=>absurd h iK.o⟩,B3.o.CY _⟩
  .obtain rfl:k=n:=zx
   have E:AF (xs=ys):=⟨by
    have:=HT.o
    rwa [U0 (by rw[hn.o];omega),U0 (by rw[<- HE.o,hn.o];omega)]at this⟩
   go_wp2
   go_ret
   exact⟨true,rfl,⟨fun _=>E.o,fun _=>rfl⟩,HB.o⟩
def Ym6 (d:Nat):Yqm d:=by
 induction d using Nat.strongRecOn with
 | _ d ih=>exact Yn7 @ih
def Yol {B D:Nat}{w:Bb}{p q:Bp}{c c':Nat}{xs ys:List A}(hB:B<=w.heap.size)(hp:Ap 2 (Ep B w<|D+1) p xs)(hq:Ap 2 (Ep B w<|D+1) q ys):Calls prog 29 #[sP p xs.length c,sP q ys.length c'] w fun e w'=> ∃ r:Bool,e=uY (.bool r)/\(r=true↔xs=ys)/\Bl w w':=by
 have hl:=hp.len;have hl':=hq.len;have HP:=AC hp;have HQ:=AC hq;clear hp hq;by_cases hne:xs.length=ys.length
 rotate_left
 .have HN:AF (xs≠ys):=⟨fun e=>hne (by rw[e])⟩;obtain⟨n,hn⟩:=cK (xs.length);obtain⟨m,hm⟩:=cK (ys.length);rw[hn.o]at hl hne⊢;rw[hm.o]at hl' hne⊢;have g:((n:Int)==(m:Int))=false:=zj
  go_in
  go_wp2
  go_ret
  exact⟨false,rfl,⟨fun h=>(by cases h),fun h=>absurd h HN.o⟩,AR _ _⟩
 clear hl';have HE:=AC hne;rw[<- hne];clear hne;obtain⟨n,hn⟩:=cK (xs.length);rw[hn.o]at hl⊢;go_in
 go_wp2
 go_loopw [5] (fun iv wr=> ∃ k:Nat,k<=n/\iv= zo (k:Int)/\Bl w wr/\xs.take k=ys.take k) (fun iv _=>n-(intOf iv).toNat)
 .exact⟨0,zx,rfl,AR _ _,rfl⟩
 .obtain⟨k,hk,rfl,Af,Kv⟩:=hrel;have HB:=AC Af;have HT:=AC Kv;clear Kv;by_cases hlt:k<n
  .have OP:k<xs.length:=by rw[hn.o];exact hlt
   have hlt'':k<ys.length:=by rw[<- HE.o];exact OP
   obtain⟨b1,o1,rfl,hx⟩:=HP.o.get k OP;obtain⟨b2,o2,rfl,hy⟩:=HQ.o.get k hlt'';obtain⟨l1,p1,c1,k0,k1,_,_,e1,_,_,r1⟩:=(hx.cy (Bq Af hB) lr).vals;cases e1;obtain⟨l2,p2,c2,j0,j1,_,_,e2,_,_,r2⟩:=(hy.cy (Bq Af hB) lr).vals;cases e2;have CC:=AC fun u (hu:Bl wr u)=>Ym6 (D+1) (B:=B) (w:=u) (c:=c1) (c':=c2) (Ab hB<|Ab Af.size hu.size) (r1.cy fun _ _ _ t=>t.cy (Bq hu<|Ab hB Af.size) lr) (r2.cy fun _ _ _ t=>t.cy (Bq hu<|Ab hB Af.size) lr);have HX:=AC fun u (hu:Bl wr u)=>AJ (AJ (Cb k0 hu)<|Cb k1 hu) (AJ (Cb j0 hu)<|Cb j1 hu);have HN:AF (xs[k]=ys[k]->xs.take (k+1)=ys.take (k+1)):=⟨fun e=>by
    rw[wa OP,wa hlt'',HT.o,e]⟩
   have HD:AF (xs[k]≠ys[k]->xs≠ys):=⟨fun e q=>e (by subst q;rfl)⟩;clear r1 r2 hx hy Af k0 j0;generalize xs[k]=x at*;generalize ys[k]=y at*;go_wp2_with fail
   have S0:=AJ k1 j1;go_region_held3 (fun u=>u.cell? (zm b1 (o1+k*2+1))=some (sP p1 x.te.length c1)/\u.cell? (zm b2 (o2+k*2+1))=some (sP p2 y.te.length c2)) (first | exact S2 | exact S0) (first
    | (go_at_call 68;apply(CC.o _<|(AR _ wr).drew).mono;rintro e w2 ⟨r,rfl,hr,hb2⟩;have G4:=(AR _ wr).drew.trans hb2;have S2:_:=AJ (HX.o w2 G4).1.2 (HX.o w2 G4).2.2))
   have B2:AF (Bl wr w2):=⟨G4⟩;obtain⟨⟨k0,k1⟩,j0,j1⟩:=HX.o w2 B2.o;have B3:=tr HB B2.o;clear S0 S2 hb2 G4 CC HX B2 HB k1 j1;have hs: ∀ s t:Ay,(s.toList==t.toList)=decide (s=t):=vo;by_cases dD:x=y
   .obtain rfl:=dD;obtain rfl:=hr.2 rfl;have N8:=AC<|HN.o rfl;clear hr HD HN hs;go_wp2
    go_quiet (fail)
    clear k0 j0;go_wp2
    exact⟨⟨k+1,zx,by go_num,B3.o.CY _,N8.o⟩,zd⟩
   .have iK:=AC<|HD.o dD;have hc:r=false\/(r=true/\x.name≠y.name):=by
     cases hr':r with
     | false=>exact .inl rfl
     | true=>
      refine .inr ⟨rfl,fun h=>dD ?_⟩
      have:=hr.1 hr'
      cases x;cases y;cases h;cases this;rfl
    clear hr dD HN HP HQ HT HD;generalize x.name=xt at*;generalize y.name=yt at*;rcases hc with rfl | ⟨rfl,g3⟩
    case' inr=>
     have g3':(xt.toList==yt.toList)=false:=by rw[hs];simpa using g3
     have g4':(xt.toList != yt.toList)=true:=by rw[bne,g3'];rfl
     clear g3
    all_goals
     clear hs;go_wp2
     go_quiet (fail)
     go_wp2
     go_ret
     exact⟨false,rfl,⟨fun h=>(by cases h),fun h=>absurd h iK.o⟩,B3.o.CY _⟩
  .obtain rfl:k=n:=zx
   have E:AF (xs=ys):=⟨by
    have:=HT.o
    rwa [U0 (by rw[hn.o];omega),U0 (by rw[<- HE.o,hn.o];omega)]at this⟩
   go_wp2
   go_ret
   exact⟨true,rfl,⟨fun _=>E.o,fun _=>rfl⟩,HB.o⟩
def Ynz {α:Type}{s:Nat}{Q:Nat->Nat->α->Prop}{b o:Nat}{x:α}(h:Q b o x):Ap s Q (Qb b o) [x]:=⟨zw,fun i y hy=>by
 cases i with
 | zero=>
  injection hy with hy;subst hy;exact⟨b,o,rfl,by simpa using h⟩
 | succ i=>simp at hy⟩
def Yne {B D:Nat}{w:Bb}{p:Bp}{c:Nat}{xs:List A}{va:Bu}{y:A}(hB:B<=w.heap.size)(hp:Ap 2 (Ep B w<|D+1) p xs)(hy:Jz B w D va y):Calls prog 17 #[sP p xs.length c,.agg va.toArray] w fun e w'=> ∃ r:Bool,e=uY (.bool r)/\(r=true↔y∈xs)/\Bl w w':=by
 have hl:=hp.len;have HP:=AC hp;have HY:=AC hy;obtain⟨q,cq,rfl,Z8,hyc,hyr⟩:=hy;clear hp hyr;obtain⟨n,hn⟩:=cK (xs.length);rw[hn.o]at hl⊢;go_in
 go_wp2_with fail
 have b1:=zv w<|.cells #[um y.name,sP q y.te.length cq] 64;have m1:AO _ w.heap.size #[um y.name,sP q y.te.length cq] 64:=AO.new w _ _;generalize w.alloc (.cells #[um y.name,sP q y.te.length cq] 64)=W1 at*;generalize w.heap.size=L at m1⊢;have B1:=AC b1;have M1:=AC m1;clear b1 m1;go_loopw [5] (fun iv wr=> ∃ k:Nat,k<=n/\iv= zo (k:Int)/\Bl W1 wr/\y∉xs.take k) (fun iv _=>n-(intOf iv).toNat)
 .exact⟨0,Eg _,rfl,AR _ _,zw⟩
 .obtain⟨k,hk,rfl,Af,Kv⟩:=hrel;have HB:=AC Af;have HT:=AC Kv;clear Kv;by_cases hlt:k<n
  .have OP:k<xs.length:=by rw[hn.o];exact hlt
   obtain⟨b1,o1,rfl,hx⟩:=HP.o.get k OP;have bw:=B1.o.trans<|Af.mono B1.o.size;obtain⟨l1,p1,c1,k0,k1,hS⟩:=(hx.cy (Bq bw hB) lr).vals;obtain⟨y0,y1,_⟩:=(M1.o.of<|Af.block _ M1.o.lt).two;have HN:AF (xs[k]≠y->y∉xs.take (k+1)):=⟨fun e q=>by
    rw[wa OP]at q;rcases Aj.1 q with q | q
    .exact HT.o q
    .exact e (Bh.1 q).symm⟩
   have HM:AF (xs[k]=y->y∈xs):=⟨fun e=>e▸QO OP⟩;have CC:AF (∀ u g1 g2,Bl wr u->AO u g1 #[um xs[k].name,sP p1 xs[k].te.length c1] 64->AO u g2 #[um y.name,sP q y.te.length cq] 64->Calls prog 29 #[sP (Qb g1 0) 1 1,sP (Qb g2 0) 1 1] u fun e w'=> ∃ r:Bool,e=uY (.bool r)/\(r=true↔xs[k]=y)/\Bl u w'):=⟨fun u g1 g2 hu h1 h2=>by
    have bu:=bw.trans<|hu.mono bw.size;have a1:Ep u.heap.size u (D+1) g1 0 xs[k]:=Jz.at hS (Go.W.Below.cy (hu.mono<|Ab hB bw.size)<|Ab hB bu.size) h1.lt fun j v hj=>by rw[Gx,h1.cell];simpa using hj
    have a2:Ep u.heap.size u (D+1) g2 0 y:=Jz.at HY.o (Go.W.Below.cy (bu.mono hB)<|Ab hB bu.size) h2.lt fun j v hj=>by rw[Gx,h2.cell];simpa using hj
    refine(Yol (c:=1) (c':=1) lr (Ynz a1)<|Ynz a2).mono fun e w' ⟨r,h3,h4,h5⟩=>⟨r,h3,h4.trans ⟨fun e=>(List.cons.inj e).1,fun e=>by rw[e]⟩,h5⟩⟩
   have HS:AF (∀ u,Bl wr u->u.cell? (zm b1 (o1+k*2))=some (um xs[k].name)/\u.cell? (zm b1 (o1+k*2+1))=some (sP p1 xs[k].te.length c1)/\u.cell? (zm L 0)=some (um y.name)/\u.cell? (zm L 1)=some (sP q y.te.length cq)):=⟨fun u hu=>⟨Cb k0 hu,Cb k1 hu,Cb y0 hu,Cb y1 hu⟩⟩;clear hS hx Af bw;generalize xs[k]=x at*;go_wp2_with fail
   refine Z1y (fun a' u=> ∃ (r:Bool) (v17 v19:Value),a'={tmps:=#[sP (Qb b1 o1) n c,.agg #[um y.name,sP q y.te.length cq],undef,zq L 0,u4,zo (k:Int),.bool r,zo (k:Int),sP (Qb b1 o1) n c,zo (n:Int),.bool true,u11,u12,sP (Qb b1 o1) n c,zo (k:Int),zq b1<|o1+k*2,.agg #[um x.name,sP p1 x.te.length c1],v17,.agg #[um y.name,sP q y.te.length cq],v19,.bool r,u21],defers:=[]}/\(r=true↔x=y)/\Bl wr u) ?_ ?_
   .have B0:Bl wr wr.drew:=(AR _ wr).drew;have AY:=HS.o _ B0;refine Zh (S:=fun u=>u.cell? (zm b1 (o1+k*2))=some (um x.name)/\u.cell? (zm b1 (o1+k*2+1))=some (sP p1 x.te.length c1)/\u.cell? (zm L 0)=some (um y.name)/\u.cell? (zm L 1)=some (sP q y.te.length cq)) zt ?_;change wpAnyH _ _ _ _ _ _ _ _ (World.drew _);refine zE 0 (sP (Qb b1 o1) n c) AY ?_
    refine zE 1 (zo (k:Int)) AY ?_
    refine zE 2 (zq b1<|o1+k*2) AY ?_
    refine zE 3 (.agg #[um x.name,sP p1 x.te.length c1]) AY ?_
    refine zE 5 (.agg #[um y.name,sP q y.te.length cq]) AY ?_
    clear AY;obtain⟨W0,hW0⟩:=cK (wr.drew);rw[hW0.o]at B0⊢;refine MZ (rs:=[4,6]) zt zw<|ND rfl (fun K' hK'=>?_)<|ND rfl (fun K' hK'=>?_) M8
    .go_simp;have b2:=B0.alloc B0.size<|.cells #[um x.name,sP p1 x.te.length c1] 64;have m2:=AO.new W0 #[um x.name,sP p1 x.te.length c1] 64;refine hK'.o _ _ (HS.o _ b2) fun _=>?_;try simp only[zz]
     refine yr 6 fun K' hK'=>?_;go_simp;have b3:=b2.alloc b2.size<|.cells #[um y.name,sP q y.te.length cq] 64;have m3:=AO.new (W0.alloc<|.cells #[um x.name,sP p1 x.te.length c1] 64) #[um y.name,sP q y.te.length cq] 64;have m2:=m2.alloc<|.cells #[um y.name,sP q y.te.length cq] 64;refine hK'.o _ _ (HS.o _ b3) fun _=>?_;try simp only[zz]
     refine yr 7 fun K' hK'=>?_;go_simp;rw[show(W0.alloc<|.cells #[um x.name,sP p1 x.te.length c1] 64).heap.size=W0.heap.size+1 by simp]at m3;apply(CC.o ((W0.alloc<|.cells #[um x.name,sP p1 x.te.length c1] 64).alloc<|.cells #[um y.name,sP q y.te.length cq] 64) W0.heap.size (W0.heap.size+1) b3 m2 m3).mono;rintro e w2 ⟨r,rfl,hr,hb2⟩;have b4:=b3.trans<|hb2.mono b3.size;refine hK'.o _ _ (HS.o _ b4) fun _=>?_;try simp only[zz]
     refine yr 8 fun K' hK'=>?_;go_simp;refine hK'.o _ _ (HS.o _ b4) fun _=>?_;try simp only[zz]
     refine Uy zt ?_ _;exact⟨r,_,_,rfl,hr,b4⟩
    .go_simp;have b2:=B0.alloc B0.size<|.cells #[um y.name,sP q y.te.length cq] 64;have m2:=AO.new W0 #[um y.name,sP q y.te.length cq] 64;refine hK'.o _ _ (HS.o _ b2) fun _=>?_;try simp only[zz]
     refine yr 4 fun K' hK'=>?_;go_simp;have b3:=b2.alloc b2.size<|.cells #[um x.name,sP p1 x.te.length c1] 64;have m3:=AO.new (W0.alloc<|.cells #[um y.name,sP q y.te.length cq] 64) #[um x.name,sP p1 x.te.length c1] 64;have m2:=m2.alloc<|.cells #[um x.name,sP p1 x.te.length c1] 64;refine hK'.o _ _ (HS.o _ b3) fun _=>?_;try simp only[zz]
     refine yr 7 fun K' hK'=>?_;go_simp;rw[show(W0.alloc<|.cells #[um y.name,sP q y.te.length cq] 64).heap.size=W0.heap.size+1 by simp]at m3;apply(CC.o ((W0.alloc<|.cells #[um y.name,sP q y.te.length cq] 64).alloc<|.cells #[um x.name,sP p1 x.te.length c1] 64) (W0.heap.size+1) W0.heap.size b3 m3 m2).mono;rintro e w2 ⟨r,rfl,hr,hb2⟩;have b4:=b3.trans<|hb2.mono b3.size;refine hK'.o _ _ (HS.o _ b4) fun _=>?_;try simp only[zz]
     refine yr 8 fun K' hK'=>?_;go_simp;refine hK'.o _ _ (HS.o _ b4) fun _=>?_;try simp only[zz]
     refine Uy zt ?_ _;exact⟨r,_,_,rfl,hr,b4⟩
   .rintro a' w2 ⟨r,v17,v19,rfl,hr,hb2⟩;have B2:=tr HB hb2;clear hb2 HS CC k0 k1 y0 y1;cases r with
    | true=>
     have E:=AC<|HM.o<|hr.1 rfl;clear hr HN HM;go_wp2
     go_ret
     exact⟨true,rfl,⟨fun _=>E.o,fun _=>rfl⟩,B1.o.trans<|B2.o.mono B1.o.size⟩
    | false=>
     have E:=AC (HN.o fun e=>by have:=hr.2 e;cases this);clear hr HN HM;go_wp2
     exact⟨⟨_,_,_,_,_,_,_,_,_,_,_,_,_,_,_,_,_,_,⟨k+1,zx,by go_num,B2.o,E.o⟩,rfl⟩,zd⟩
  .obtain rfl:k=n:=zx
   have E:AF (y∉xs):=⟨by
    have:=HT.o
    rwa [U0 (by rw[hn.o];omega)]at this⟩
   go_wp2
   go_ret
   exact⟨false,rfl,⟨fun h=>(by cases h),fun h=>absurd h E.o⟩,B1.o.trans<|HB.o.mono B1.o.size⟩
variable {x:T}
def kC (B:Nat) (w:Bb) (d b o:Nat) (x:T):Prop:= ∃ vs,Ed B w d vs x/\ ∀ j u,vs[j]?=some u->w.cell? (zm b (o+j))=some u
structure Ynl (B:Nat) (w:Bb) (d b o:Nat) (x:A):Prop where
 name:w.cell? (zm b o)=some (um x.name)
 size:x.name.size<1000000000
 te: ∃ p c,w.cell? (zm b (o+1))=some (sP p x.te.length c)/\x.te.length<=c/\Ap 4 (kC B w d) p x.te
section
variable {B d b o:Nat} {w u:Bb}
def kC.vals (h:kC B w d b o x): ∃ p c,w.cell? (zm b o)=some (zo x.k)/\w.cell? (zm b (o+1))=some (zo x.i)/\w.cell? (zm b (o+2))=some (um x.t)/\w.cell? (zm b (o+3))=some (sP p x.l.length c)/\Ed B w d [zo x.k,zo x.i,um x.t,sP p x.l.length c] x:=by
 obtain⟨vs,hs,hc⟩:=h;have hs':=hs;obtain⟨p,c,rfl,_⟩:=hs;exact⟨p,c,hc 0 _ rfl,hc 1 _ rfl,hc 2 _ rfl,hc 3 _ rfl,hs'⟩
def kC.at (hB:B<=w.heap.size)(h:kC B w d b o x):He w.heap.size w (d+1) b o x:=by
 obtain⟨p,c,c0,c1,c2,c3,hs⟩:=h.vals;obtain⟨p',c',e,h1,h2,h3,h4,h5⟩:=hs;have e:=(List.cons.inj (List.cons.inj (List.cons.inj (List.cons.inj e).2).2).2).1;injection e with e1 _ e2;subst e1 e2;exact⟨⟨Wx c0,trivial⟩,_,c0,c1,c2,c3,rfl,rfl,rfl,h2,h3,h1,p,c,rfl,h4,h5.cy fun _ _ _ q=>q.cy (EG.up hB) lr⟩
def kC.la (hB:B<=w.heap.size)(hu:Bl w u)(h:kC B w d b o x):kC B u d b o x:=h.imp fun _ ⟨hs,hc⟩=>⟨Ed.cy hs<|Go.W.Bq hu hB,fun j v hj=>Cb (hc j v hj) hu⟩
def Ynl.at (hB:B<=w.heap.size){x:A}(h:Ynl B w d b o x):Ep w.heap.size w (d+1) b o x:=by
 obtain⟨h0,h1,p,c,h2,h3,h4⟩:=h;exact⟨Wx h0,h0,h1,_,h2,p,c,rfl,h3,h4.cy fun _ _ _ q=>q.at hB⟩
def Ynl.la (hB:B<=w.heap.size)(hu:Bl w u){x:A}(h:Ynl B w d b o x):Ynl B u d b o x:=by
 obtain⟨h0,h1,p,c,h2,h3,h4⟩:=h;exact⟨Cb h0 hu,h1,p,c,Cb h2 hu,h3,h4.cy fun _ _ _ q=>q.la hB hu⟩
end
abbrev bA:=List<|Ay×T
def Ym5 (s:Ay):bA->Option T
 | []=>none
 | x::l=>if x.1=s then some x.2 else Ym5 s l
def BF (b:bA) (t:T):T:=if t.k=1 then(Ym5 t.t b).getD t else t
structure Yo9 (B:Nat) (w:Bb) (d b o:Nat) (x:Ay×T):Prop where
 name:w.cell? (zm b o)=some (um x.1)
 size:x.1.size<1000000000
 term:kC B w d b (o+1) x.2
def Yo9.la {B d b o:Nat}{w u:Bb}(hB:B<=w.heap.size)(hu:Bl w u){x:Ay×T}(h:Yo9 B w d b o x):Yo9 B u d b o x:=⟨Cb h.name hu,h.size,h.term.la hB hu⟩
def Yqi {W:Bb}{l:Nat}{x0 x1 x2 x3:Value}{ty:TypeId}(h:AO W l #[x0,x1,x2,x3] ty)(a b c e:Value):AO ((((W.setCell (zm l 0) a).setCell (zm l 1) b).setCell (zm l 2) c).setCell (zm l 3) e) l #[a,b,c,e] ty:=by simpa using (((h.set 0 a).set 1 b).set 2 c).set 3 e
def Ynh {B d:Nat}{w:Bb}{p:Bp}{c:Nat}{env:bA}{vs:Bu}{t:T}(hl:env.length<1000000000)(hp:Ap 5 (Yo9 B w d) p env)(ht:Ed B w d vs t):Calls prog 31 #[sP p env.length c,.agg vs.toArray] w fun e w'=> ∃ us,e=uY (.agg us.toArray)/\Ed B w d us (BF env t)/\Bl w w':=by
 have HP:=AC hp;have HT:=AC ht;obtain⟨q,cq,rfl,VE,E5,RF,ht4,mX⟩:=ht;clear hp mX;obtain⟨n,hn⟩:=cK (env.length);rw[hn.o]at hl⊢;go_in
 go_wp2_with fail
 have b1:=(zv w<|.cells #[zo t.k,zo t.i,um t.t,sP q t.l.length cq] 95);have m1:AO _ w.heap.size #[zo t.k,zo t.i,um t.t,sP q t.l.length cq] 95:=AO.new w _ _;have s1:(w.alloc<|.cells #[zo t.k,zo t.i,um t.t,sP q t.l.length cq] 95).heap.size=w.heap.size+1:=zw
 generalize w.alloc (.cells #[zo t.k,zo t.i,um t.t,sP q t.l.length cq] 95)=W0 at*;have b2:=b1.alloc b1.size<|.cells #[zo 0,zo 0,sE,zn] 95;have m2:AO _ W0.heap.size #[zo 0,zo 0,sE,zn] 95:=AO.new W0 _ _;have m1:=m1.alloc<|.cells #[zo 0,zo 0,sE,zn] 95;rw[s1]at m2;generalize W0.alloc (.cells #[zo 0,zo 0,sE,zn] 95)=W1 at*;obtain⟨x0,x1,x2,x3,xs⟩:=m1.four;obtain⟨r0,r1,r2,r3,rs⟩:=m2.four;have B2:=AC b2;have M2:=AC m2;have M1:=AC m1;have HL:AF (w.heap.size<=w.heap.size+1):=⟨Ny _⟩;clear b1 s1 m1 m2 b2;by_cases hk:t.k=1
 rotate_left
 .have E:AF (BF env t=t):=⟨xd hk⟩;have g:(t.k==1)=false:=by simpa using hk
  refine YA 1 ?_;rw[Tt];go_wp2_with fail
  all_goals
   obtain⟨z0,z1,z2,z3,_⟩:=(Yqi M2.o (zo t.k) (zo t.i) (um t.t)<|sP q t.l.length cq).four;refine Bg (by simp[results,results31,go_sem,z0,z1,z2,z3];try rfl) rfl ?_;exact⟨_,rfl,by rw[E.o];exact HT.o,SA _ (SA _ (SA _ (SA _ B2.o HL.o 0 _) HL.o 1 _) HL.o 2 _) HL.o 3 _⟩
 have g:(t.k==1)=true:=by rw[hk];rfl
 have HK:=AC hk;clear hk;go_loopw [5] (fun iv wr=> ∃ k:Nat,k<=n/\iv= zo (k:Int)/\Bl W1 wr/\Ym5 t.t env=Ym5 t.t (env.drop k)) (fun iv _=>n-(intOf iv).toNat)
 .exact⟨0,Eg _,rfl,AR _ _,rfl⟩
 .obtain⟨k,uA,rfl,Af,Ce⟩:=hrel;have HB:=AC Af;have B3:=tr B2 Af;have M3:=AC<|M2.o.of<|Af.block _ M2.o.lt;obtain⟨x0,x1,x2,x3,xs⟩:=(M1.o.of<|Af.block _ M1.o.lt).four;obtain⟨r0,r1,r2,r3,rs⟩:=M3.o.four;clear Af;have HE:=AC Ce;clear Ce;by_cases hlt:k<n
  .have OP:k<env.length:=by rw[hn.o];exact hlt
   obtain⟨b1,o1,rfl,hx⟩:=HP.o.get k OP;obtain⟨p1,c1,y0,y1,y2,y3,hS⟩:=hx.term.vals;have n0:=Cb hx.name B3.o;have y0:=Cb y0 B3.o;have y1:=Cb y1 B3.o;have y2:=Cb y2 B3.o;have y3:=Cb y3 B3.o;have hdr:env.drop k=env[k]::env.drop (k+1):=xH OP;have HS:=AC hS;clear hS hx;rw[hdr,Ym5]at HE;clear hdr;generalize env[k]=x at*;by_cases H7:x.1=t.t
   .have E:AF (BF env t=x.2):=⟨by
     unfold BF;rw[xj HK.o,HE.o,xj H7]
     rfl⟩
    have g3:(x.1.toList==t.t.toList)=true:=by rw[H7];simp
    have g4:(t.t.toList==x.1.toList)=true:=by rw[H7];simp
    clear H7 HE HP;go_wp2
    go_quiet (fail)
    go_wp2_with fail
    obtain⟨z0,z1,z2,z3,_⟩:=(Yqi (W:=wr.drewN nq) M3.o (zo x.2.k) (zo x.2.i) (um x.2.t)<|sP p1 x.2.l.length c1).four;refine Bg (by simp[results,results31,go_sem,z0,z1,z2,z3];try rfl) rfl ?_;exact⟨_,rfl,by rw[E.o];exact HS.o,SA _ (SA _ (SA _ (SA _ (B3.o.CY nq) HL.o 0 _) HL.o 1 _) HL.o 2 _) HL.o 3 _⟩
   .have E:AF (Ym5 t.t env=Ym5 t.t (env.drop<|k+1)):=⟨by rw[HE.o,xd H7]⟩;have g3:(x.1.toList==t.t.toList)=false:=by rw[vo];simpa using H7
    have g4:(t.t.toList==x.1.toList)=false:=by rw[vo];simpa using fun e=>H7 e.symm
    clear H7 HE HS;go_wp2
    go_quiet (fail)
    go_wp2
    exact⟨⟨k+1,zx,by go_num,HB.o.CY _,E.o⟩,zd⟩
  .obtain rfl:k=n:=zx
   have E:AF (BF env t=t):=⟨by
    unfold BF;rw[xj HK.o,HE.o,List.drop_eq_nil_of_le (by rw[hn.o];omega)]
    rfl⟩
   go_wp2_with fail
   obtain⟨z0,z1,z2,z3,_⟩:=(Yqi M3.o (zo t.k) (zo t.i) (um t.t)<|sP q t.l.length cq).four;refine Bg (by simp[results,results31,go_sem,z0,z1,z2,z3];try rfl) rfl ?_;exact⟨_,rfl,by rw[E.o];exact HT.o,SA _ (SA _ (SA _ (SA _ B3.o HL.o 0 _) HL.o 1 _) HL.o 2 _) HL.o 3 _⟩
noncomputable def Ynm (op:Int) (x y:T):Bool:=gZ op.toNat (@decide (x=y)<|Classical.propDecidable _) x y
open Classical in
noncomputable def Yoo:bA->List T->List T->Option bA
 | c,t::ts,f::fs=>if(BF c t).k=1 then Yoo (c++[((BF c t).t,f)]) ts fs else if BF c t=f then Yoo c ts fs else none
 | c,_,_=>some c
open Classical in
noncomputable def Yny (a f:A) (c:bA):Option bA:=if a.name=f.name/\a.te.length=f.te.length then Yoo c a.te f.te else none
noncomputable def Ype (r:R) (b:bA):Bool:=r.gu.all fun g=>Ynm g.op (BF b g.a) (BF b g.b)
def hdE (r:R) (b:bA):A:=⟨r.head.name,r.head.te.map<|BF b⟩
noncomputable def Ynq (K:List A) (r:R):List A->bA->List A
 | [],b=>if Ype r b=true then [hdE r b]else []
 | a::l,b=>K.flatMap fun f=>match Yny a f b with
  | none=>[]
  | some c=>Ynq K r l c
variable {e:TypeId}{s B g cap:Nat}{w w1:Bb}{F F':Cg}{v:Value}
def Lie {α:Type} (s:Nat) (Q:Du α) (w:Bb) (p:Bp) (zs:List (List Value×α×Cg)):Prop:= ∀ i z,zs[i]?=some z->z.1.length=s/\(∀ u,u∈z.1->u.oneCell'=true)/\Q w z.1 z.2.1 z.2.2/\ ∃ b o,p=some (zm b o)/\ ∀ j u,z.1[j]?=some u->w.cell? (zm b (o+i*s+j))=some u
def YI.be {α:Type}{Q:Du α}{G:Cg}{ys:List α}(h:YI e s Q B w w1 F G v ys F')(hB:B<=w.heap.size)(hF: ∀ k,k∈F->B<=k):Below B w w1:=
 ⟨h.os,h.tape,h.output,h.size,fun k hk=>h.same k (BK hk hB) fun q=>by have:=hF k q;omega⟩
def O7.be {α:Type}{Q:Du α}{xs:List α}{G:Cg}{y:α}(h:O7 e s Q B w w1 xs F G y g cap F')(hB:B<=w.heap.size)(hF: ∀ k,k∈F->B<=k):Below B w w1:=⟨h.os,h.tape,h.output,h.size,fun k hk=>h.same k (BK hk hB) fun q=>by have:=hF k q;omega⟩
def Yo5 {u:Bb}(h:Bl w u)(hB:B<=w.heap.size):EG B B u w:=⟨EO _,fun b o hb=>(h.cell (p:=(zm b o))<|BK hb hB).symm⟩
def Yod {α:Type}: ∀ (zs:List (List Value×α×Cg)) (_: ∀ z,z∈zs->z.1.length=s) (k:Nat) (u:Value),((zs.map (·.1)).flatten)[k]?=some u-> ∃ i j z,zs[i]?=some z/\z.1[j]?=some u/\k=i*s+j
 | [],_,k,u,h=>by simp at h
 | y::zs,hl,k,u,h=>by
  have hy:=hl y List.mem_cons_self;rw[xp,List.flatten_cons]at h;by_cases hk:k<s
  ·rw[PK zx]at h;exact⟨0,k,y,rfl,h,zx⟩
  ·rw[PL zx,hy]at h;obtain⟨i,j,z,h1,h2,h3⟩:=Yod zs (fun z hz=>hl z (wj _ hz)) _ u h;exact⟨i+1,j,z,by simpa using h1,h2,by rw[Nat.succ_mul];omega⟩
def Yoe {α:Type}: ∀ (zs:List (List Value×α×Cg)) (_: ∀ z,z∈zs->z.1.length=s),((zs.map (·.1)).flatten).length=zs.length*s
 | [],_=>zw
 | y::zs,hl=>by
  rw[xp,List.flatten_cons,JS,hl y List.mem_cons_self,Yoe zs fun z hz=>hl z (wj _ hz),DU,Nat.succ_mul];omega
def Ap.lie {α:Type}{Q0:Nat->Nat->α->Prop}{Q:Du α}{p:Bp}{xs:List α}(h:Ap s Q0 p xs)(f: ∀ b o x,Q0 b o x-> ∃ vs:Bu,vs.length=s/\(∀ u,u∈vs->u.oneCell'=true)/\Q w vs x []/\ ∀ j u,vs[j]?=some u->w.cell? (zm b (o+j))=some u): ∃ zs:List (List Value×α×Cg),zs.map (·.2.1)=xs/\(zs.map (·.2.2)).flatten=[]/\zs.length=xs.length/\Lie s Q w p zs:=by
 have key: ∀ i,∃ vs:Bu,∀ x,xs[i]?=some x->vs.length=s/\(∀ u,u∈vs->u.oneCell'=true)/\Q w vs x []/\ ∃ b o,p=some (zm b o)/\ ∀ j u,vs[j]?=some u->w.cell? (zm b (o+i*s+j))=some u:=fun i=>by
  cases hx:xs[i]? with
  | none=>exact⟨[],fun x hx=>by cases hx⟩
  | some x=>
   obtain⟨b,o,rfl,hq⟩:=h.at_ i x hx;obtain⟨vs,h1,h2,h3,h4⟩:=f _ _ _ hq;exact⟨vs,fun y hy=>by cases hy;exact⟨h1,h2,h3,b,o,rfl,h4⟩⟩
 obtain⟨g,hg⟩:=Classical.axiomOfChoice key;refine⟨xs.mapIdx fun i x=>(g i,x,[]),?_,?_,zw,fun i z hz=>?_⟩
 .refine List.ext_getElem? fun i=>?_;rw[FK,List.getElem?_mapIdx];cases xs[i]? <;> rfl
 .rw[List.flatten_eq_nil_iff];intro l hl;obtain⟨z,hz,rfl⟩:=List.mem_map.1 hl;obtain⟨i,hi,rfl⟩:=List.mem_mapIdx.1 hz;rfl
 .rw[List.getElem?_mapIdx]at hz;obtain⟨x,hx,rfl⟩:=QP.1 hz;exact hg i x hx
def AQ.lie {α:Type}{Q:Du α}(Bw: ∀ w vs x F,Q w vs x F-> ∀ u,u∈vs->u.oneCell'=true){xs:List α}(h:AQ e s Q w v xs F): ∃ p c zs,v= sP p xs.length c/\zs.map (·.2.1)=xs/\(∀ k,k∈(zs.map (·.2.2)).flatten->k∈F)/\(F.Nodup->(zs.map (·.2.2)).flatten.Nodup)/\zs.length=xs.length/\Lie s Q w p zs:=by
 obtain⟨p,c,hv⟩:=h.form;obtain⟨zs,ho,hz,rfl,rfl,hl⟩:=h;refine⟨p,c,zs,hv,rfl,fun k hk=>Vq _ hk,fun q=>(Mc.1 q).2.1,zw,fun i z hi=>?_⟩;have hm:=Ej hi;have hlt:=(DW.1 hi).1;refine⟨(hz z hm).1,Bw _ _ _ _ (hz z hm).2,(hz z hm).2,?_⟩;rcases ho.2 with⟨_,h0⟩ | ⟨g,cap,cur,h1,_⟩
 .omega
 .have hp:p=some (zm g 0):=by
   rw[h1]at hv;injection hv with q;exact q.symm
  subst h1;refine⟨g,0,hp,fun j u hu=>?_⟩;have hj:j<s:=by rw[<- (hz z hm).1];exact(DW.1 hu).1
  have hb:i*s+j<zs.length*s:=by
   have:(i+1)*s<=zs.length*s:=Nat.mul_le_mul_right s zx
   rw[Nat.succ_mul]at this;omega
  rw[Gx,ho.cellAt (i*s+j) hb,Yf0 s zs (fun z J9=>(hz z J9).1) i z hi j hj];exact hu
def Yp7 {α:Type}{Q:Du α}{zs ys:List (List Value×α×Cg)}(hQ:Ii Q)
  (hz: ∀ z,z∈zs->z.1.length=s/\Q w z.1 z.2.1 z.2.2) (hy: ∀ z,z∈ys->z.1.length=s/\Q w z.1 z.2.1 z.2.2) (hl:zs.length+ys.length<1000000000)
  (nF:Ag B w (v.ownBlock.toList++(zs.map (·.2.2)).flatten)) (nG:Ag B w (ys.map (·.2.2)).flatten) (hd: ∀ k,k∈v.ownBlock.toList++(zs.map (·.2.2)).flatten->k∉(ys.map (·.2.2)).flatten) (hB:B<=w.heap.size)
  (ha:qQ w w1 0 e s v g cap (zs.length+ys.length) ((zs.map (·.1)).flatten++(ys.map (·.1)).flatten)):
  YI e s Q B w w1 (v.ownBlock.toList++(zs.map (·.2.2)).flatten) (ys.map (·.2.2)).flatten (sP (Qb g 0) (zs.length+ys.length) cap) (zs.map (·.2.1)++ys.map (·.2.1)) (g::((zs.map (·.2.2)).flatten++(ys.map (·.2.2)).flatten)):=by
 have H8: ∀ k,k<w.heap.size->some k≠v.ownBlock->w1.heap[k]?=w.heap[k]?:=fun k hk hn=>ha.grown.block k hk hn;have nd:=Mc.1 nF.once;have hspot: ∀ k,k<w.heap.size->some k≠v.ownBlock->k≠g:=fun k h1 h2=>by
  rcases ha.spot with hs | hs
  .rintro rfl;exact h2 hs.symm
  .omega
 have yN: ∀ k,k∈(zs.map (·.2.2)).flatten->k<w.heap.size/\some k≠v.ownBlock:=fun k hk=>
  ⟨nF.lt k<|Vq _ hk,fun q=>nd.2.2 k (by simp[<- q]) k hk rfl⟩
 have iV: ∀ k,k∈(ys.map (·.2.2)).flatten->k<w.heap.size/\some k≠v.ownBlock:=fun k hk=>
  ⟨nG.lt k hk,fun q=>hd k (Md _ (by simp[<- q])) hk⟩
 have mH: ∀ k,k∈(zs.map (·.2.2)).flatten++(ys.map (·.2.2)).flatten->k<w.heap.size/\some k≠v.ownBlock:=fun k hk=>(Aj.1 hk).elim (yN k) (iV k);refine⟨⟨zs++ys,?_,fun z hm=>?_,zw,by simp[Value.ownBlock],by simpa using hl⟩,⟨?_,fun k hk=>?_,fun k hk=>?_⟩,fun k hk=>?_,ha.grown.os,ha.grown.tape,ha.grown.output,ha.grown.size,fun k hk hn=>H8 k hk fun q=>hn (Md _ (by simp[<- q]))⟩
 .have:=ha.own
  rw[JS,wb,List.flatten_append];exact this
 .rcases Aj.1 hm with hm | hm
  .exact⟨(hz z hm).1,hQ _ _ _ _ _ (hz z hm).2 fun k hk=>by
    have:=yN k<|List.mem_flatten.2 ⟨z.2.2,List.mem_map.2 ⟨z,hm,rfl⟩,hk⟩
    exact H8 k this.1 this.2⟩
  .exact⟨(hy z hm).1,hQ _ _ _ _ _ (hy z hm).2 fun k hk=>by
    have:=iV k<|List.mem_flatten.2 ⟨z.2.2,List.mem_map.2 ⟨z,hm,rfl⟩,hk⟩
    exact H8 k this.1 this.2⟩
 .exact List.nodup_cons.2 ⟨fun hm=>hspot g (mH g hm).1 (mH g hm).2 rfl,Mc.2 ⟨nd.2.1,nG.once,fun a ha' b hb q=>hd a (Vq _ ha') (q▸hb)⟩⟩
 .rcases Ak.1 hk with rfl | hk
  .rcases ha.spot with hs | hs
   .exact nF.ge k<|Md _ (by simp[hs])
   .omega
  .exact(Aj.1 hk).elim (fun q=>nF.ge k (Vq _ q))<|nG.ge k
 .rcases Ak.1 hk with rfl | hk
  .exact ha.lt
  .exact BK (mH k hk).1 ha.grown.size
 .rcases Ak.1 hk with rfl | hk
  .rcases ha.spot with hs | hs
   .exact .inl<|Md _ (by simp[hs])
   .exact .inr<|.inr zx
  .exact(Aj.1 hk).elim (fun q=> .inl (Vq _ q)) fun q=> .inr (.inl q)
def Ym3 {α:Type}{P:Program}{t:TypeId}{bytes:Nat}(E:J3 P t e s bytes){ops:Array Oper}{rest:List Oper}{o:Oper}{a:Act}{K:Exit->Act->Bb->Prop}(hgd:o.guard=none)(sl x:Operand)
  (ho:o.op= .call {callee:= .builtin .append,args:=#[sl,x],argTypes:=#[t,t]}) {Q:Du α} (hQ:Ii Q) (B:Nat) (v:Value) (xs:List α) (F:Cg) (hs:a.eval sl=v) (hrow:AQ e s Q w v xs F)
  (p:Bp) (m c:Nat) (ys:List (List Value×α×Cg)) (hx:a.eval x= sP p m c) (hm:ys.length=m) (hy:Lie s Q w p ys)
  (hn:xs.length+m<1000000000) (hB:B<=w.heap.size) (nF:Ag B w F) (nG:Ag B w (ys.map (·.2.2)).flatten) (hd: ∀ k,k∈F->k∉(ys.map (·.2.2)).flatten)
  (h: ∀ p' c' w1 F',xs.length+m<=c'->YI e s Q B w w1 F (ys.map (·.2.2)).flatten (sP p' (xs.length+m) c') (xs++ys.map (·.2.1)) F'->wpList P ops K rest (a.put o.dst<|sP p' (xs.length+m) c') w1):wpList P ops K (o::rest) a w:=by
 subst hm;have hyl: ∀ z,z∈ys->z.1.length=s:=fun z hz=>by
  obtain⟨i,hi⟩:=List.mem_iff_getElem?.1 hz;exact(hy i z hi).1
 have hyq: ∀ z,z∈ys->z.1.length=s/\Q w z.1 z.2.1 z.2.2:=fun z hz=>by
  obtain⟨i,hi⟩:=List.mem_iff_getElem?.1 hz;exact⟨(hy i z hi).1,(hy i z hi).2.2.1⟩
 rcases Nat.eq_zero_or_pos ys.length with h0 | h0
 .obtain rfl:ys=[]:=M9 h0;obtain⟨zs,hown,hz,rfl,rfl,hl⟩:=hrow;obtain⟨i,z,ht,hi,hz1,hsize,hby,hzs,hsz,G4⟩:=E;have hv: ∃ p' c',v= sP p' zs.length c'/\zs.length<=c':=by
   rcases hown.2 with⟨h1,h2⟩ | ⟨g,cap,cur,h1,_,_,h2,_⟩
   .exact⟨none,0,by rw[h1,h2],zx⟩
   .exact⟨_,_,h1,h2⟩
  obtain⟨p',c',rfl,hc'⟩:=hv;have yZ:Src P i.size t (sP p 0 c) 0 [] w:=by
   cases p with
   | none=>exact Src.ofNil w ht c
   | some ad=>exact Src.ofSlice w ht ad 0 c [] zw (fun j u hu=>by simp at hu) (fun u hu=>by simp at hu)
  have hrun:=run_append_nothing (P:=P) w t t o.type e i ht hi p' zs.length c' hc' _ yZ;refine Ynk hgd sl x ho _ _ hs hx _ w hrun ?_;have hg:YI e s Q B w w ((Value.slice p' zs.length c').ownBlock.toList++(zs.map (·.2.2)).flatten) [] (sP p' zs.length c') (zs.map (·.2.1)) _:=⟨⟨zs,hown,hz,rfl,rfl,hl⟩,nF,fun k hk=> .inl hk,rfl,rfl,rfl,EO _,fun _ _ _=>rfl⟩
  have:=h p' c' w _ (by simpa using hc') (by simpa using hg)
  simpa using this
 .obtain⟨y0,mJ⟩: ∃ y0,ys[0]?=some y0:=⟨_,A8 h0⟩;obtain⟨_,_,_,b,of,rfl,_⟩:=hy 0 y0 mJ;obtain⟨zs,hown,hz,rfl,rfl,hl⟩:=hrow;refine Yov E hgd sl x ho 0 v zs.length _ hs hown (zm b of) ys.length c (ys.map (·.1)).flatten hx (Yoe ys hyl) (fun k u hk=>?_) (fun u hu=>?_) h0 (by simpa using hn) (Eg _) fun g cap w1 ha=>?_
  .obtain⟨i,j,z,h1,h2,h3⟩:=Yod ys hyl k u hk;obtain⟨_,_,_,b',o',e,h4⟩:=hy i z h1;cases e;rw[Addr.add_lit,h3,<- Nat.add_assoc];exact h4 j u h2
  .obtain⟨l,h1,h2⟩:=List.mem_flatten.1 hu;obtain⟨z,h3,rfl⟩:=List.mem_map.1 h1;obtain⟨i,hi⟩:=List.mem_iff_getElem?.1 h3;exact(hy i z hi).2.1 u h2
  .have hg:=Yp7 (ys:=ys) hQ hz hyq (by simpa using hn) nF nG hd hB ha;have RV:zs.length+ys.length<=cap:=by
    rcases ha.own.2 with⟨h1,_⟩ | ⟨g',cap',cur,h1,_,_,h2,_⟩
    .cases h1
    .cases h1;exact h2
   have:=h _ _ w1 _ (by simpa using RV) (by simpa using hg)
   simpa using this
variable {x y:Ay}
def Yqf (h:y.size<=x.size):((x.extract 0 y.size).toList==y.toList)=Lib.hasPrefix x.data.toList y.data.toList:=by
 rw[Nw,Nw,<- Lib.hasPrefix_of_take];have e:(x.extract 0 y.size).data.toList=x.data.toList.take y.data.toList.length:=by
  rw[ByteArray.data_extract];simp
 have l:decide (y.data.toList.length<=x.data.toList.length)=true:=Nv (by simpa using h);rw[e,l,Bool.true_and]
def Yqg (h: ¬ y.size<=x.size):Lib.hasPrefix x.data.toList y.data.toList=false:=by
 rw[<- Lib.hasPrefix_of_take,I8 (by simpa using h),Bool.false_and]
def Ypw {B d:Nat}{w:Bb}{p:Bp}{c:Nat}{env:bA}{vs:Bu}{g:G}(hB:B<=w.heap.size)(hl:env.length<1000000000)(hp:Ap 5 (Yo9 B w d) p env)(hg:TQ B w d vs g)(h7:1<=g.op/\g.op<=7):Calls prog 30 #[sP p env.length c,.agg vs.toArray] w fun e w'=>e=uY (.bool<|Ynm g.op (BF env g.a)<|BF env g.b)/\Bl w w':=by
 obtain⟨va,vb,rfl,ho,ha,hb⟩:=hg;have CA:=AC fun u (hu:Bl w u)=>Ynh (w:=u) (c:=c) hl (hp.cy fun b o x q=>q.la hB hu) (Ed.cy ha<|Bq hu hB);have CB:=AC fun u (hu:Bl w u)=>Ynh (w:=u) (c:=c) hl (hp.cy fun b o x q=>q.la hB hu) (Ed.cy hb<|Bq hu hB);have HA:=AC ha;have HB:=AC hb;obtain⟨pa,ca,rfl,_⟩:=ha;obtain⟨pb,cb,rfl,_⟩:=hb;obtain⟨n,hn⟩:=cK (env.length);obtain⟨z,hz⟩:=cK (Ynm g.op (BF env g.a) (BF env g.b));rw[hz.o];go_in
 go_wp2_with fail
 have b1:=zv w<|.cells #[zo g.op,zo g.a.k,zo g.a.i,um g.a.t,sP pa g.a.l.length ca,zo g.b.k,zo g.b.i,um g.b.t,sP pb g.b.l.length cb] 97;have m1:AO _ w.heap.size #[zo g.op,zo g.a.k,zo g.a.i,um g.a.t,sP pa g.a.l.length ca,zo g.b.k,zo g.b.i,um g.b.t,sP pb g.b.l.length cb] 97:=AO.new w _ _;generalize w.alloc (.cells #[zo g.op,zo g.a.k,zo g.a.i,um g.a.t,sP pa g.a.l.length ca,zo g.b.k,zo g.b.i,um g.b.t,sP pb g.b.l.length cb] 97)=W1 at*;generalize w.heap.size=L at m1⊢;apply(CA.o _ b1).mono;rintro e w2 ⟨us,rfl,hx,hb2⟩;have B2:=AC<|b1.trans<|hb2.mono b1.size;have M2:=AC<|m1.of<|hb2.block _ m1.lt;have g5:=fun ob=>(M2.o.alloc ob).cell 5;have g6:=fun ob=>(M2.o.alloc ob).cell 6;have g7:=fun ob=>(M2.o.alloc ob).cell 7;have g8:=fun ob=>(M2.o.alloc ob).cell 8;simp only[Tu,List.getElem?_cons_succ,List.getElem?_cons_zero]at g5 g6 g7 g8;have HX:=AC<|Ed.cy hx<|Yo5 b1 hB;obtain⟨px,cx,rfl,_⟩:=hx;generalize BF env g.a=x at*;clear CA m1 hb2 b1;go_wp2_with fail
 have b3:=zv w2<|.cells #[zo x.k,zo x.i,um x.t,sP px x.l.length cx] 95;have m3:AO _ w2.heap.size #[zo x.k,zo x.i,um x.t,sP px x.l.length cx] 95:=AO.new w2 _ _;have M3:=M2.o.alloc<|.cells #[zo x.k,zo x.i,um x.t,sP px x.l.length cx] 95;generalize w2.alloc (.cells #[zo x.k,zo x.i,um x.t,sP px x.l.length cx] 95)=W3 at*;generalize w2.heap.size=LX at m3⊢;have c3:=B2.o.trans<|b3.mono B2.o.size;apply(CB.o _ c3).mono;rintro e w4 ⟨us,rfl,hy,hb4⟩;have B4:=AC<|c3.trans<|hb4.mono c3.size;have M4:=AC<|M3.of<|hb4.block _ M3.lt;have N4:=AC<|m3.of<|hb4.block _ m3.lt;have HY:=AC<|Ed.cy hy<|Yo5 c3 hB;obtain⟨py,cy,rfl,_⟩:=hy;generalize BF env g.b=y at*;clear CB b3 m3 M3 c3 hb4 M2 B2 g5 g6 g7 g8;have n5:=fun ob=>(N4.o.alloc ob).four;go_wp2_with fail
 have hV: ∃ V,V=((w4.alloc<|.cells #[zo y.k,zo y.i,um y.t,sP py y.l.length cy] 95).alloc<|.cells #[zo x.k,zo x.i,um x.t,sP px x.l.length cx] 95).alloc (.cells #[zo y.k,zo y.i,um y.t,sP py y.l.length cy] 95)/\Bl w4 V/\AO V w4.heap.size #[zo y.k,zo y.i,um y.t,sP py y.l.length cy] 95/\AO V (w4.heap.size+1) #[zo x.k,zo x.i,um x.t,sP px x.l.length cx] 95/\AO V (w4.heap.size+1+1) #[zo y.k,zo y.i,um y.t,sP py y.l.length cy] 95:=by
  have e1:=AO.new w4 #[zo y.k,zo y.i,um y.t,sP py y.l.length cy] 95;have f1:=zv w4<|.cells #[zo y.k,zo y.i,um y.t,sP py y.l.length cy] 95;have s1:(w4.alloc<|.cells #[zo y.k,zo y.i,um y.t,sP py y.l.length cy] 95).heap.size=w4.heap.size+1:=zw
  generalize w4.alloc (.cells #[zo y.k,zo y.i,um y.t,sP py y.l.length cy] 95)=U1 at*;have e2:=AO.new U1 #[zo x.k,zo x.i,um x.t,sP px x.l.length cx] 95;have f2:=f1.alloc f1.size<|.cells #[zo x.k,zo x.i,um x.t,sP px x.l.length cx] 95;have s2:(U1.alloc<|.cells #[zo x.k,zo x.i,um x.t,sP px x.l.length cx] 95).heap.size=w4.heap.size+1+1:=by simp[s1]
  have e1:=e1.alloc<|.cells #[zo x.k,zo x.i,um x.t,sP px x.l.length cx] 95;rw[s1]at e2;generalize U1.alloc (.cells #[zo x.k,zo x.i,um x.t,sP px x.l.length cx] 95)=U2 at*;have e3:=AO.new U2 #[zo y.k,zo y.i,um y.t,sP py y.l.length cy] 95;rw[s2]at e3;exact⟨_,rfl,f2.alloc f2.size _,e1.alloc _,e2.alloc _,e3⟩
 obtain⟨V,eV,bV,v1,v2,v3⟩:=hV;rw[<- eV];have CS:AF (Calls prog 68 #[sP (Qb (w4.heap.size+1) 0) 1 1,sP (Qb (w4.heap.size+1+1) 0) 1 1] V fun e w'=> ∃ r:Bool,e=uY (.bool r)/\(r=true↔x=y)/\Bl V w'):=⟨by
  have bv:=B4.o.trans<|bV.mono B4.o.size;have tx:He V.heap.size V (d+1) (w4.heap.size+1) 0 x:=kC.at (Ab hB bv.size) ⟨_,Ed.cy HX.o<|Go.W.Bq bv hB,fun j u hj=>by rw[Gx,v2.cell];simpa using hj⟩;have ty:He V.heap.size V (d+1) (w4.heap.size+1+1) 0 y:=kC.at (Ab hB bv.size) ⟨_,Ed.cy HY.o<|Go.W.Bq bv hB,fun j u hj=>by rw[Gx,v3.cell];simpa using hj⟩;exact(Ym6 (d+1) (c:=1) (c':=1) lr (Ynz tx)<|Ynz ty).mono fun e w' ⟨r,h3,h4,h5⟩=>⟨r,h3,h4.trans ⟨fun e=>(List.cons.inj e).1,fun e=>by rw[e]⟩,h5⟩⟩
 apply CS.o.mono;rintro e w6 ⟨r,rfl,hr,Gp⟩;have B6:=AC<|B4.o.trans<|(bV.trans<|Gp.mono bV.size).mono B4.o.size;have b6:=bV.trans<|Gp.mono bV.size;obtain⟨y0,y1,y2,y3,_⟩:=(v1.of<|Gp.block _ v1.lt).four;obtain⟨x0,x1,x2,x3,_⟩:=(N4.o.of<|b6.block _ N4.o.lt).four;have o0:=(M4.o.of<|b6.block _ M4.o.lt).nine.1;generalize w4.heap.size=LY at*;clear eV v1 v2 v3 CS n5 Gp bV b6;have R7:AF (g.op=1\/g.op=2\/g.op=3\/g.op=4\/g.op=5\/g.op=6\/g.op=7):=⟨zx⟩;have RC:AF (x.k≠y.k\/(x.k=y.k/\(x.k=2\/x.k=5\/x.k=3\/x.k=4\/(x.k≠2/\x.k≠5/\x.k≠3/\x.k≠4)))):=⟨zx⟩;have E:AF (z=gZ g.op.toNat r x y):=⟨by
  rw[<- hz.o];unfold Ynm;congr 1
  cases r with
  | true=>exact @Nv _ (Classical.propDecidable _) (hr.1 rfl)
  | false=>exact @I8 _ (Classical.propDecidable _) fun q=>by have:=hr.2 q;cases this⟩
 clear hz hr HX HY HA HB M4 N4 ho hp hB B4 h7;unfold gZ at E;generalize g.op=op at*;generalize x.k=kx at*;generalize y.k=ky at*;generalize x.i=xi at*;generalize y.i=yi at*;have g0:kx≠ky->(kx==ky)=false:=fun h=>by simpa using h
 have g1: ∀ j:Int,kx≠j->(kx==j)=false:=fun j h=>by simpa using h
 have X2:=AC x2;have Y2:=AC y2;have KX:=AC<|AJ g0<|AJ (g1 2)<|AJ (g1 5)<|AJ (g1 3)<|g1 4;clear g0 g1;rcases RC.o with hk | ⟨rfl,rfl | rfl | rfl | rfl | ⟨h2,h5,h3,h4⟩⟩
 case' inl=>have g0:=KX.o.1 hk
 case' inr.inr.inr.inr.inr=>
  have g2:=KX.o.2.1 h2;have g5:=KX.o.2.2.1 h5;have g3:=KX.o.2.2.2.1 h3;have g4:=KX.o.2.2.2.2 h4
 all_goals
  try clear hk
  try clear h2 h5 h3 h4
  clear KX RC;rcases R7.o with rfl | rfl | rfl | rfl | rfl | rfl | rfl
 all_goals
  clear R7;go_wp2_with fail
  try (go_quiet (fail);go_wp2_with fail)
 all_goals try (go_ret;exact⟨by rw[E.o];simp[*],by first | exact B6.o | exact B6.o.CY _⟩)
 all_goals
  by_cases hs:y.t.size<=x.t.size
  .have g1:decide (y.t.size<=x.t.size)=true:=Nv hs;have HS:=AC hs;go_quiet (fail)
   go_wp2
   go_ret
   exact⟨(show _=Ending.returned (.bool z)by rw[E.o];show Ending.returned (.bool<|(x.t.extract 0 y.t.size).toList==y.t.toList)=_;rw[Yqf hs];rfl),B6.o.CY _⟩
  .have g1:decide (y.t.size<=x.t.size)=false:=I8 hs;have HS:=AC hs;clear hs;go_quiet (fail)
   go_wp2
   go_ret
   exact⟨(show _=Ending.returned (.bool z)by rw[E.o];show Ending.returned (.bool false)=Ending.returned (.bool _);rw[Yqg HS.o];rfl),B6.o.CY _⟩
end Go.W
