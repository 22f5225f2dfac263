import Derived.Test.YtpmcefkhkkpnbaaGreatDoorW31
set_option linter.all false
set_option maxRecDepth 100000
set_option maxHeartbeats 8000000
open Go.Proofs Go.RowKit Go.W Tryz
namespace Go.W
section
variable {vs:List T}{now i:Nat}{B:Nat->Nat->Nat->Nat}
variable [Mem]
def Hq (b:BD) (k:Nat):Pt:=b.at_.getD k (⟨#[]⟩,[])
def G8 (fs:List Fc) (n:Nat):Fc:=fs.getD n (⟨#[]⟩,[])
def Ku (b:BD) (vs:List T) (fs:List Fc) (A:Nat->Nat) (seen now m:Nat):Nat->Nat:=fun k=>if k<m then A k ||| F9 b vs fs [] (Hq b k) (DZ<|LJ (2 ^ now-1) seen)else A k
def UF (b:BD) (vs:List T) (fs:List Fc) (A:Nat->Nat) (B:Nat->Nat->Nat->Nat) (seen:Nat) (P:Nat->Nat->Bool):Nat->Nat->Nat->Nat:=fun i n k=>if P i n=true/\i<k/\k<b.at_.length then B i n k ||| F9 b vs fs (D8 [] (Hq b i)<|G8 fs n).2 (Hq b k) (DZ<|Oj A n seen k)else B i n k
def LW (i0:Nat) (pre:Cg) (A:Nat->Nat):Nat->Nat->Bool:=fun i n=>decide (i<i0/\n∈DZ (A i)) || decide (i=i0/\n∈pre)
def Ycp {b:BD}{fs:List Fc}{A:Nat->Nat}{seen m:Nat}:YD (Ku b vs fs A seen now m) m (Ku b vs fs A seen now m m ||| F9 b vs fs [] (Hq b m) (DZ<|LJ (2 ^ now-1) seen))=Ku b vs fs A seen now (m+1):=by
 funext k
 unfold YD Ku;by_cases e:k=m
 .subst e;rw[xj rfl,xd zx,xj zx]
 .rw[xd e];by_cases h:k<m
  .rw[xj h,xj zx]
  .rw[xd h,xd zx]
def Ycq {b:BD}{fs:List Fc}{A:Nat->Nat}{seen n:Nat}{pre:Cg}(hn:n∉pre):Ro b vs fs A (UF b vs fs A B seen<|LW i pre A) (D8 [] (Hq b i)<|G8 fs n).2 i n seen b.at_.length=UF b vs fs A B seen (LW i (pre++[n]) A):=by
 funext i' n' k'
 unfold Ro;have hd:LW i pre A i n=false:=by simp[LW,hn]
 by_cases e:i'=i/\n'=n/\i<k'/\k'<b.at_.length
 .obtain⟨rfl,rfl,h1,h2⟩:=e;have Cj:LW i' (pre++[n']) A i' n'=true:=by simp[LW]
  rw[xj ⟨rfl,rfl,h1,h2⟩];unfold UF;rw[hd,Cj,xd zw,xj ⟨rfl,h1,h2⟩];rfl
 .rw[xd e];unfold UF
  have:(LW i pre A i' n'=true/\i'<k'/\k'<b.at_.length)↔(LW i (pre++[n]) A i' n'=true/\i'<k'/\k'<b.at_.length):=by
   simp only[LW,Bool.or_eq_true,wA,Aj,Bh];constructor
   .rintro⟨h | h,h1⟩
    .exact⟨.inl h,h1⟩
    .exact⟨.inr ⟨h.1,.inl h.2⟩,h1⟩
   .rintro⟨h | ⟨h,h' | h'⟩,h1⟩
    .exact⟨.inl h,h1⟩
    .exact⟨.inr ⟨h,h'⟩,h1⟩
    .exact absurd ⟨h,h',zx,zx⟩ e
  simp only[this]
def Z48 {A:Nat->Nat}:LW i (DZ<|A i) A=LW (i+1) [] A:=by
 funext j n
 unfold LW;rw[Bool.eq_iff_iff];simp only[Bool.or_eq_true,wA,Lj,and_false,or_false];constructor
 .rintro(⟨h,h1⟩ | ⟨rfl,h1⟩)
  .exact⟨zx,h1⟩
  .exact⟨zx,h1⟩
 .rintro⟨h,h1⟩;by_cases e:j=i
  .subst e;exact .inr ⟨rfl,h1⟩
  .exact .inl ⟨zx,h1⟩
def Ycr {b:BD}{fs:List Fc}{A:Nat->Nat}{seen:Nat}:UF b vs fs A B seen (LW 0 [] A)=B:=by
 funext i n k
 unfold UF;rw[xd (by simp[LW])]
def Z4j (s:Nat):(DZ s).Nodup:=List.Pairwise.filter _ List.nodup_range
def Z23 {seen:Nat}(h:now<=60)(hs:seen<=60):LJ (2 ^ now-1) seen<2 ^ 60/\ ∀ n,n∈DZ (LJ (2 ^ now-1) seen)↔seen<=n/\n<now:=by
 have h1:(2:Nat) ^ now<=2 ^ 60:=wi zx h;have hp:0<(2:Nat) ^ now:=Nat.two_pow_pos now;have DK:(2:Nat) ^ 60<2 ^ 64:=zu
 refine⟨ug zx,fun n=>?_⟩;rw[Ol<|Nat.lt_trans (ug zx) DK,uy zx hs,Nat.testBit_two_pow_sub_one];simp;omega
end
section
open Go.Shelf
variable [Mem]
attribute [local go_sem] Me
def Yhs (a:Nat->Addr) (c:Cx) (fs:List Fc) (vs:List T) (F:Cg) (Fo:Cg) (seen b0:Nat) (W:Bb) (Q:Nat->(Nat->Nat)->(Nat->Nat->Nat->Nat)->Prop) (iv:Value) (wr:Bb):Prop:= ∃ (k:Nat) (cs:Ca) (ov:Value) (Au:Cg) (A:Nat->Nat) (B:Nat->Nat->Nat->Nat),k<=c.b.at_.length/\iv= zo (k:Int)/\Ctx a c cs fs vs F [] ov Au wr/\Hy cs A B/\Q k A B/\Stp c Fo Au W wr/\AO wr b0 #[zq c.q 0] 232/\AO wr (b0+1) #[zo (seen:Int)] 3
def Yhr (a:Nat->Addr) (c:Cx) (fs:List Fc) (vs:List T) (F:Cg) (Fo:Cg) (seen b0:Nat) (W:Bb) (A:Nat->Nat) (B:Nat->Nat->Nat->Nat) (k:Nat) (ms:Cg) (wr:Bb):Prop:= ∃ (cs:Ca) (ov:Value) (Au:Cg),Ctx a c cs fs vs F [] ov Au wr/\Hy cs A (UF c.b vs fs A B seen<|LW k [] A)/\Stp c Fo Au W wr/\AO wr b0 #[zq c.q 0] 232/\AO wr (b0+1) #[zo (seen:Int)] 3/\ms.Nodup/\ ∀ m,m∈ms->wr.heap[m]?=some (.deferred<|some [])/\W.heap.size<=m/\m∉Au
def Zx5 {a:Nat->Addr}{c:Cx}{cs:Ca}{fs:List Fc}{vs:List T}{F:Cg}{ov:Value}{Fo:Cg}{w:Bb}(h:Ctx a c cs fs vs F [] ov Fo w)(hN:Zp c.b fs vs []){A:Nat->Nat}{B:Nat->Nat->Nat->Nat}(hT:Hy cs A B){seen now:Nat}(QV:seen<=60)(hno:now<=fs.length)(Fq:fs.length<=60)(hA: ∀ k j,k<c.b.at_.length->j∈DZ (A k)->j<fs.length):
  Calls prog 114 #[zq c.q 0,zo (seen:Int),zo (now:Int)] w fun e w'=>e=uY (.tuple #[])/\ ∃ cs' Br Au,Ctx a c cs' fs vs F [] Br Au w'/\Hy cs' (Ku c.b vs fs A seen now c.b.at_.length) (UF c.b vs fs (Ku c.b vs fs A seen now c.b.at_.length) B seen<|LW c.b.at_.length []<|Ku c.b vs fs A seen now c.b.at_.length)/\Stp c Fo Au w w':=by
 obtain⟨c3,Yn,_⟩:=h.rd.atoms;have q3:=(h.cell 3 zx).trans c3;have Ea:=h.bd.blk.lt;have CN:=AC<|vU now zx;have CS:=AC<|vU seen QV;have H:=AC h;have HT:=AC hT;have HN:=AC hN;have HA:=AC hA;obtain⟨nb1,nb2⟩:=Z23 (seen:=seen) (now:=now) zx QV;have NB:=AC<|AJ nb1 nb2;clear h hT hA hN nb1 nb2;refine(callsIn_wide (n:=5)).1 ?_;refine callsIn_of_wp_marks func114 rfl trivial ?_ rfl;simp only[ntmps114,GN,DU,JC,Nat.reduceAdd,Nat.reduceSub,Qu,Qv,Qr,Qt,JU,EC];refine wpIn_wide.2 ?_;obtain⟨W2,hW2⟩:=cK ((w.alloc<|.cells #[zq c.q 0] 232).alloc (.cells #[zo (seen:Int)] 3));have B2:AF (Bl w W2):=⟨hW2.o▸((AR _ w).alloc lr _).alloc zw _⟩;have S2:AF (W2.heap.size=w.heap.size+2):=⟨by rw[<- hW2.o];simp⟩;have L0:AF (AO W2 w.heap.size #[zq c.q 0] 232):=⟨hW2.o▸(AO.new w _ _).alloc _⟩;have L1:AF (AO W2 (w.heap.size+1) #[zo (seen:Int)] 3):=⟨hW2.o▸Ur w _ _ _⟩;have lW:=fun o o'=>(A9 (a:=(zm c.q 3))<|((zv w o).alloc zw o').block c.q Ea).trans q3;go_wp2_with fail
 rw[hW2.o];clear hW2 lW;have hz:=S2.o;have Rj:=H.o.bd.lt;have yE: ∀ j,w.heap.size<=j->j<w.heap.size+2->j∉c.q::c.m::Fo:=fun j h1 _ h=>fw (Rj j h)
 go_loopw [15] (fun iv wr=>Yhs a c fs vs F Fo seen w.heap.size W2 (fun k A' B'=>A'=Ku c.b vs fs A seen now k/\B'=B) iv wr) (fun iv _=>c.b.at_.length-(intOf iv).toNat)
 .exact⟨0,cs,ov,Fo,A,B,zx,rfl,H.o.be B2.o,HT.o,⟨by funext k;unfold Ku;rw[xd zx],rfl⟩,Stp.be<|AR _ _,L0.o,L1.o⟩
 .obtain⟨k,cs1,Ot,F1,A1,B1,hk,rfl,hc1,VE,⟨hA1,Na⟩,KF,hb0,hb1⟩:=hrel;subst hA1;obtain rfl:=Na.symm;have lz: ∀ j,w.heap.size<=j->j<w.heap.size+2->j∉c.q::c.m::F1:=fun j h1 h2 h=>by
   simp only[Ak]at h;rcases h with h | h | h
   .omega
   .have:=Rj c.m zw;omega
   .rcases KF.2 j h with h | h
    .exact yE j h1 h2 (by simp[h])
    .omega
  have XW:=KF.1.size;by_cases hlt:k<c.b.at_.length
  .obtain⟨d3,_,UT⟩:=hc1.rd.atoms;obtain⟨y,hy⟩: ∃ y,c.b.at_[k]?=some y:=⟨_,A8 hlt⟩;obtain⟨gb,iT,aX,hpa,zR,b0,b1,V4,dM⟩:=UT k y hy;rw[hpa];have hk4:k<4:=zx
   have nR:(k:Int)<4:=zx
   obtain⟨c8,WO⟩:=VE.a k hk4;have tC:Hq c.b k=y:=by unfold Hq;rw[xr,hy];rfl
   obtain⟨W3,hW3⟩:=fu (wr.alloc (.cells #[um y.1,sP iT y.2.length aX] 226));have BW:AF (Bl wr W3):=⟨hW3▸(AR _ wr).alloc lr _⟩;have SW:AF (W3.heap.size=wr.heap.size+1):=⟨by rw[<- hW3];simp⟩;have PW:AF (AO W3 wr.heap.size #[um y.1,sP iT y.2.length aX] 226):=⟨hW3▸AO.new wr _ _⟩;have CW:=AC<|hc1.be BW.o;have FW:=AC (Zqo (CW.o.be (AR _ W3).drew) ax zw HN.o (cp:=aX) (pt:=y) (V4.cy fun b o z ⟨k0,k1,k2,k3⟩=>⟨k0,(A9 (a:=(zm b o))<|BW.o.block b<|hc1.rd.lS b k0).trans k1,(A9 (a:=(zm b (o+1)))<|BW.o.block b<|hc1.rd.lS b k0).trans k2,k3⟩) dM (LJ (2 ^ now-1) seen) NB.o.1 fun n hn=>fw ((NB.o.2 n).1 hn));have FL:=Z0j c.b vs fs [] y (l:=DZ<|LJ (2 ^ now-1) seen) (m:=60) fun n hn=>fw ((NB.o.2 n).1 hn)
   have hsn:bits BinOp.andNot IntKind.u64 ((2 ^ now-1:Nat):Int) ((2 ^ seen-1:Nat):Int)=(LJ (2 ^ now-1) seen:Int):=by
    have h1:(2:Nat) ^ seen<=2 ^ 60:=wi zx QV;have h2:(2:Nat) ^ now<=2 ^ 60:=wi zx zx;have DK:(2:Nat) ^ 60<18446744073709551616:=zu
    exact u64_andNot_nat _ _ zx zx
   have SU:=AC<|Ycp (b:=c.b) (vs:=vs) (fs:=fs) (A:=A) (seen:=seen) (now:=now) (m:=k);rw[tC]at SU;have DK:(2:Nat) ^ 60<18446744073709551616:=zu
   have yu:bits BinOp.or IntKind.u64 (Ku c.b vs fs A seen now k k:Int) (F9 c.b vs fs [] y (DZ<|LJ (2 ^ now-1) seen):Int)=((Ku c.b vs fs A seen now k k ||| F9 c.b vs fs [] y (DZ<|LJ (2 ^ now-1) seen):Nat):Int):=u64_or_nat _ _ zx zx;have iw:=Nat.or_lt_two_pow WO FL;have R1:=AC<|AJ hc1<|AJ VE<|AJ KF<|AJ hb0<|AJ hb1 lz;have b0':=b0;have fD:=b1;clear FL V4 UT;generalize Ku c.b vs fs A seen now k k=Av at*;generalize F9 c.b vs fs [] y (DZ<|LJ (2 ^ now-1) seen)=fit at*;generalize Av ||| fit=af at*;generalize LJ (2 ^ now-1) seen=sN at*;have KW:AF (∀ u Br Au,Off (c.q::c.m::F1) W3 u->Ctx a c cs1 fs vs F [] Br Au u->u.cell? (zm w.heap.size 0)=some (zq c.q 0)/\u.cell? (zm (w.heap.size+1) 0)=some (zo (seen:Int))/\u.cell? (zm wr.heap.size 0)=some (um y.1)/\u.cell? (zm wr.heap.size 1)=some (sP iT y.2.length aX)/\u.cell? (zm c.q (8+k))=some (.int .u64 (Av:Int))):=⟨fun u Br Au hu hc=>by
    have iW:=SW.o;have e0:=(hb0.of<|BW.o.block _ hb0.lt).of<|hu.block _ (fw (hb0.lt))<|lz _ zx zx;have e1:=(hb1.of<|BW.o.block _ hb1.lt).of<|hu.block _ (fw (hb1.lt))<|lz _ zx zx;have e2:=PW.o.of (hu.block _ PW.o.lt fun h=>fw (hc1.bd.lt _ h));exact⟨e0.one.1,e1.one.1,e2.two.1,e2.two.2.1,(hc.cell (8+k) zx).trans c8⟩⟩
   clear hc1 VE KF hb0 hb1 lz;go_wp2_with fail
   have AY:=KW.o W3.drew Ot F1 (Off.refl _ W3).drew<|CW.o.be (AR _ W3).drew;refine Zwh ?_;refine Vj 18 (fun u=>u.cell? (zm w.heap.size 0)=some (zq c.q 0)/\u.cell? (zm (w.heap.size+1) 0)=some (zo (seen:Int))/\u.cell? (zm wr.heap.size 0)=some (um y.1)/\u.cell? (zm wr.heap.size 1)=some (sP iT y.2.length aX)/\u.cell? (zm c.q (8+k))=some (.int .u64 (Av:Int))) zt ?_;refine tz 0 (zq c.q 0) AY (hy:=fun u q=>by obtain⟨s0,s1,s2,s3,s4⟩:=q;go_simp) ?_;try simp only[zz]
   refine z9 1 (zo (k:Int)) AY ?_
   refine z9 2 (zq c.q 0) AY ?_
   refine z9 3 (zq c.q 8) AY ?_
   refine z9 4 (zq c.q<|8+k) AY ?_
   refine tz 5 (.int .u64 (Av:Int)) AY (hy:=fun u q=>by obtain⟨s0,s1,s2,s3,s4⟩:=q;go_simp) ?_;try simp only[zz]
   refine tz 6 (zq c.q 0) AY (hy:=fun u q=>by obtain⟨s0,s1,s2,s3,s4⟩:=q;go_simp) ?_;try simp only[zz]
   refine tz 7 (.agg #[um y.1,sP iT y.2.length aX]) AY (hy:=fun u q=>by obtain⟨s0,s1,s2,s3,s4⟩:=q;go_simp) ?_;try simp only[zz]
   refine z9 8 (zo (now:Int)) AY ?_
   refine tz 10 (zo (seen:Int)) AY (hy:=fun u q=>by obtain⟨s0,s1,s2,s3,s4⟩:=q;go_simp) ?_;try simp only[zz]
   refine yd 15 (zq c.q 0) AY ?_
   refine yd 16 (zq c.q 8) AY ?_
   refine rz 9 (h:=fun K' hK'=>?_);go_simp;apply(CN.o _).mono;rintro e _ ⟨rfl,rfl⟩;refine hK'.o _ _ AY ?_;try simp only[zz]
   refine rz 11 (h:=fun K' hK'=>?_);go_simp;apply(CS.o _).mono;rintro e _ ⟨rfl,rfl⟩;refine hK'.o _ _ AY ?_;try simp only[zz]
   refine z9 12 (.int .u64 (sN:Int)) AY ?_
   refine rz 13 (h:=fun K' hK'=>?_);go_simp;apply mq FW.o;rintro w5 ⟨ovA,FA,uG,y9,dL⟩;have VR:=KW.o w5 ovA FA ((Off.refl _ W3).drew.trans y9 fun _ h=> .inl h) uG;have qs5:=uG.bd.blk.soft;refine hK'.o _ _ VR ?_;try simp only[zz]
   refine z9 14 (.int .u64 (af:Int)) VR ?_
   refine yp 17 VR ?_
   have c5:=VR.2.2.2.2;refine yq ?_;have OU:=uG.put (8+k) zx<|.int .u64 (af:Int);have dG:=R1.o.2.1.yA R1.o.1.rd.sz hk4 iw;rw[SU.o]at dG;have hsp:Stp c Fo FA W2 (w5.setCell (zm c.q (8+k))<|.int .u64 (af:Int)):=R1.o.2.2.1.trans<|((Stp.be BW.o).trans<|(Stp.be (AR _ W3).drew).trans ⟨y9,dL⟩).set _ _;have keep: ∀ j,w.heap.size<=j->j<w.heap.size+2->(w5.setCell (zm c.q (8+k))<|.int .u64 (af:Int)).heap[j]?=W2.heap[j]?:=fun j h1 h2=>hsp.1.block j zx (yE j h1 h2);have DJ:AF (Yhs a c fs vs F Fo seen w.heap.size W2 (fun k A' B'=>A'=Ku c.b vs fs A seen now k/\B'=B) (zo ((k+1:Nat):Int))<|w5.setCell (zm c.q (8+k))<|.int .u64 (af:Int)):=⟨k+1,_,ovA,FA,_,_,zx,rfl,OU,dG,⟨rfl,rfl⟩,hsp,L0.o.of<|keep _ zx zx,L1.o.of<|keep _ zx zx⟩;clear OU dG hsp keep uG y9 dL AY VR qs5 c5;go_wp2
   go_roundw
   .simpa using DJ.o
   simp[intOf];omega
  .obtain rfl:k=c.b.at_.length:=zx
   obtain⟨d3,_,_⟩:=hc1.rd.atoms;have q31:=(hc1.cell 3 zx).trans d3;have c0:=hb0.one.1;have L8: ¬ (c.b.at_.length:Int)<(c.b.at_.length:Int):=zx
   have R1:=AC<|AJ hc1<|AJ VE<|AJ KF<|AJ hb0 hb1;clear hc1 VE KF hb0 hb1 lz;go_wp2_with fail
   obtain⟨A2,Yw⟩:=cK (Ku c.b vs fs A seen now c.b.at_.length);rw[Yw.o]at R1;have HA2:AF (∀ k j,k<c.b.at_.length->j∈DZ (A2 k)->j<fs.length):=⟨fun k j hk hj=>by
    rw[<- Yw.o]at hj;have DK:(2:Nat) ^ 60<2 ^ 64:=zu
    have hlt:=(R1.o.2.1.a k zx).2;rw[<- Yw.o]at hlt;have hb:=(Ol zx).1 hj;unfold Ku at hb;rw[xj hk,Nat.testBit_or,Bool.or_eq_true]at hb;rcases hb with hb | hb
    .exact HA.o k j hk<|(Ol<|Nat.lt_trans (HT.o.a k zx).2 DK).2 hb
    .have:=(NB.o.2 j).1 ((uq _ _ _ _ _ _ _).1 hb).1
     omega⟩
   refine Zze c.b.at_.length (fun k act W=> ∃ z8 z45 z46 z47 z48 z49 z50 z51 z52 z53 z60 ms,act={tmps:=#[zq c.q 0,zo (seen:Int),zo (now:Int),zq w.heap.size 0,zq (w.heap.size+1) 0,undef,u6,u7,z8,undef,zq c.q 0,zq c.q 0,zq c.q 3,sP c.pa c.b.at_.length c.ca,zo (c.b.at_.length:Int),zo (c.b.at_.length:Int),.bool false,u17,u18,u19,u20,u21,u22,u23,u24,u25,u26,u27,u28,u29,u30,u31,u32,u33,u34,u35,u36,u37,u38,zq c.q 0,zq c.q 0,zq c.q 3,sP c.pa c.b.at_.length c.ca,zo (c.b.at_.length:Int),zo (k:Int),z45,z46,z47,z48,z49,z50,z51,z52,z53,undef,undef,undef,undef,undef,undef,z60],defers:=ms.map Yip}/\Yhr a c fs vs F Fo seen w.heap.size W2 A2 B k ms W) ?start ?step ?fin
   case start=>exact⟨_,_,_,_,_,_,_,_,_,_,_,[],rfl,_,Ot,F1,R1.o.1,by rw[Ycr];exact R1.o.2.1,R1.o.2.2.1,R1.o.2.2.2.1,R1.o.2.2.2.2,List.nodup_nil,fun _ h=>by cases h⟩
   case step=>
    rintro k act W hk ⟨z8,z45,z46,z47,z48,z49,z50,z51,z52,z53,z60,ms,rfl,uW,Q7,F2,hc2,E5,KE,OX,ME,Ya,IC⟩;have WF:(k:Int)<(c.b.at_.length:Int):=zx
    have nR:(k:Int)<4:=zx
    have R2:=AC<|AJ hc2<|AJ E5<|AJ KE<|AJ OX<|AJ ME<|AJ Ya IC;obtain⟨c8,WO⟩:=E5.a k zx;have q8:=fun o=>(A9 (a:=(zm c.q (8+k)))<|Ah W o c.q hc2.bd.blk.lt).trans ((hc2.cell (8+k) zx).trans c8);have fB:=fun o=>(A9 (a:=(zm w.heap.size 0))<|Ah W o w.heap.size OX.lt).trans OX.one.1;have Ho:=fun(fn:Fn) (first cap:Ca) (w:Bb)=>(rfl:(Instr.makeFunc fn first cap).run prog w= .ok (.func fn first cap) w);clear hc2 E5 KE OX ME Ya IC c8;go_wp2
    go_quiet (fail)
    go_wp2_with fail
    obtain⟨W6,hW6⟩:=fu ((W.alloc<|.cells #[zo (k:Int)] 3).drewN nq);have B6:AF (Bl W W6):=⟨hW6▸MW ((AR _ W).alloc lr _)⟩;have S6:AF (W6.heap.size=W.heap.size+1):=⟨by rw[<- hW6];simp⟩;have Li:AF (AO W6 W.heap.size #[zo (k:Int)] 3):=⟨hW6▸(AO.new W _ _).dr _⟩;rw[hW6];clear hW6 Ho q8 fB;have eB:=S6.o;obtain⟨hc2,E5,KE,OX,ME,Ya,IC⟩:=R2.o;have uJ:=KE.1.size;have Ri:=hc2.bd.lt;have n2: ∀ j,w.heap.size<=j->j<w.heap.size+2->j∉c.q::c.m::F2:=fun j h1 h2 h=>by
     simp only[Ak]at h;rcases h with h | h | h
     .omega
     .have:=Rj c.m zw;omega
     .rcases KE.2 j h with h | h
      .exact yE j h1 h2 (by simp[h])
      .omega
    have OT:AF (∀ U U' cs' Br Au,Ctx a c cs' fs vs F [] Br Au U->(∀ i,i∈Au->i∈F2\/W.heap.size+3<=i)->Off [W6.heap.size,W6.heap.size+1] U U'->Ctx a c cs' fs vs F [] Br Au U'):=⟨fun U U' cs' Br Au hc Hg kk=>hc.other kk fun j hj=>by
     have JX:W.heap.size+1<=j/\j<W.heap.size+3:=by simp at hj;omega
     refine⟨fun h=>?_,fun h=>fw (hc2.wd.lt j h),fun h=>fw (hc2.rd.lS j h),Ab hc2.gl.most zx⟩;simp only[Ak]at h;rcases h with h | h | h
     .have:=Ri c.q zw;omega
     .have:=Ri c.m zw;omega
     .rcases Hg j h with h | h
      .have:=Ri j (by simp[h]);omega
      .omega⟩
    obtain⟨hA2k,_⟩:=AJ (E5.a k zx).2 trivial;have DK:(2:Nat) ^ 60<2 ^ 64:=zu
    refine(wpIn_wide (n:=5)).1 ?_;refine vF (K:=173) (s:=A2 k) (xs:=DZ<|A2 k) (Z:=ZN) rfl (EH func173 zt rfl) (ut _ (A2 k) zx) rfl
     (fun pre U=> ∃ cs' Br Au,Ctx a c cs' fs vs F [] Br Au U/\Hy cs' A2 (UF c.b vs fs A2 B seen<|LW k pre A2)/\Off (c.q::c.m::F2) W U/\AO U W.heap.size #[zo (k:Int)] 3/\ ∀ i,i∈Au->i∈F2\/W.heap.size+3<=i)
     (fun _ _=>False) (fun _ _ ⟨_,_,_,hc,_⟩=>hc.gl.bits) ?_ (fun _ _ _ h _=>h) ⟨uW,Q7,F2,hc2.be B6.o,E5,Off.of B6.o,Li.o,fun _ h=> .inl h⟩
     (fun n=>{tmps:=#[zq c.q 0,zo (seen:Int),zo (now:Int),zq w.heap.size 0,zq (w.heap.size+1) 0,undef,u6,u7,zq W.heap.size 0,zo (n:Int),zq c.q 0,zq c.q 0,zq c.q 3,sP c.pa c.b.at_.length c.ca,zo (c.b.at_.length:Int),zo (c.b.at_.length:Int),.bool false,u17,u18,u19,u20,u21,u22,u23,u24,u25,u26,u27,u28,u29,u30,u31,u32,u33,u34,u35,u36,u37,u38,zq c.q 0,zq c.q 0,zq c.q 3,sP c.pa c.b.at_.length c.ca,zo (c.b.at_.length:Int),zo (k:Int),.bool true,zo (k:Int),zq c.q 0,zo (k:Int),zq c.q 0,zq c.q 8,zq c.q<|8+k,.int .u64 (A2 k:Int),.func (.func 173) #[.int .u64 (A2 k:Int)] #[],zo (n:Int),undef,undef,undef,undef,undef,z60],defers:=[]}) ?assign ?body ?done (fun _ _ h _=>h.elim)
    .rintro pre U U' ⟨cs',Br,Au,hc,ht,ho,hb,Hg⟩ kk;refine⟨cs',Br,Au,OT.o U U' _ _ _ hc Hg kk,ht,ho.trans kk fun i hi=> .inr (by simp at hi;omega),hb.of<|kk.block _ hb.lt zc,Hg⟩
    case assign=>
     intro l n U K hK;gi_wp2
     exact hK
    case body=>
     rintro l pre n rest U hx ⟨cs',Br,Au,hc,ht,ho,hb,Hg⟩ hU;have Dp:n∈DZ (A2 k):=by rw[hx];simp
     have L8:=HA2.o k n hk Dp;have tQ:n∉pre:=fun h=>by
      have:=Z4j<|A2 k
      rw[hx,Mc]at this;exact this.2.2 n h n zw rfl
     have mM:c.b.at_[k]?=some (Hq c.b k):=by unfold Hq;rw[xr,A8 hk];rfl
     have OQ:fs[n]?=some (G8 fs n):=by unfold G8;rw[xr,A8 L8];rfl
     have CB:=AC<|Z4i hc HN.o ht (i:=k) (seen:=seen) mM OQ zx QV HA2.o;rw[Ycq tQ]at CB;have u0:U.heap[w.heap.size]?=W.heap[w.heap.size]?:=ho.block _ zx<|n2 _ zx zx;have u1:U.heap[w.heap.size+1]?=W.heap[w.heap.size+1]?:=ho.block _ zx<|n2 _ zx zx;have c0:=(OX.of u0).one.1;have c1:=(ME.of u1).one.1;have c2:=hb.one.1;have HH:=AC<|AJ hc<|AJ ho<|AJ hb Hg;clear hc ht ho hb Hg u0 u1;gi_wp2
     refine⟨trivial,(CallsIn.inRound l<|callsIn_wide.2 CB.o).mono ?_⟩;rintro e w7 ⟨rfl,cs7,ov7,F7,hc7,ht7,NJ,PY⟩;gi_wp2
     obtain⟨hc,ho,hb,Hg⟩:=HH.o;have nB: ∀ j,W.heap.size<=j->j<W.heap.size+3->j∉c.q::c.m::Au:=fun j h1 h2 h=>by
      simp only[Ak]at h;rcases h with h | h | h
      .have:=Ri c.q zw;omega
      .have:=Ri c.m zw;omega
      .rcases Hg j h with h | h
       .have:=Ri j (by simp[h]);omega
       .omega
     refine⟨⟨NJ.block _ zx<|nB _ zx zx,NJ.block _ zx<|nB _ zx zx⟩,cs7,ov7,F7,hc7,ht7,ho.trans NJ fun i hi=>?_,hb.of<|NJ.block _ hb.lt<|nB _ zx zx,fun i hi=>?_⟩
     .simp only[Ak]at hi⊢;rcases hi with h | h | h
      .exact .inl<|.inl h
      .exact .inl<|.inr<|.inl h
      .exact(Hg i h).imp (fun h=> .inr (.inr h)) zx
     .rcases PY i hi with h | h
      .exact Hg i h
      .exact .inr zx
    case done=>
     rintro U ⟨cs',Br,Au,hc,ht,ho,hb,Hg⟩ hD;have VL: ∀ m,m∈ms->m<W.heap.size:=fun m hm=>(PN.1 (IC m hm).1).1;have hmB: ∀ m,m∈ms->m∉c.q::c.m::F2:=fun m hm h=>by
      have:=(IC m hm).2.1
      simp only[Ak]at h;rcases h with h | h | h
      .have:=Rj c.q zw;omega
      .have:=Rj c.m zw;omega
      .exact(IC m hm).2.2 h
     have DJ:AF (Yhr a c fs vs F Fo seen w.heap.size W2 A2 B (k+1) (W6.heap.size::ms) U):=⟨cs',Br,Au,hc,Z48 (A:=A2)▸ht,KE.trans ⟨ho,fun i hi=>(Hg i hi).imp id zx⟩,OX.of<|ho.block _ zx<|n2 _ zx zx,ME.of<|ho.block _ zx<|n2 _ zx zx,List.nodup_cons.2 ⟨fun h=>fw (VL _ h),Ya⟩,fun m hm=>by
      rcases Ak.1 hm with rfl | hm
      .exact⟨hD,zx,fun h=>by
        rcases Hg _ h with h | h
        .have:=Ri W6.heap.size (by simp[h]);omega
        .omega⟩
      .exact⟨(ho.block m (VL m hm)<|hmB m hm).trans (IC m hm).1,(IC m hm).2.1,fun h=>by
        rcases Hg m h with h | h
        .exact(IC m hm).2.2 h
        .have:=VL m hm;omega⟩⟩
     clear hc ht ho hb Hg VL hmB;go_wp2_with fail
     exact⟨_,_,_,_,_,_,_,_,_,_,_,W6.heap.size::ms,rfl,DJ.o⟩
   case fin=>
    rintro act W ⟨z8,z45,z46,z47,z48,z49,z50,z51,z52,z53,z60,ms,rfl,uW,Q7,F2,hc2,E5,KE,OX,ME,Ya,IC⟩;have R2:=AC<|AJ hc2<|AJ E5<|AJ KE<|AJ Ya IC;clear hc2 E5 KE OX ME Ya IC;go_wp2_with fail
    obtain⟨hc2,E5,KE,Ya,IC⟩:=R2.o;refine Zod ms W Ya (fun m hm=>(IC m hm).1) fun u hu=>?_;have hc3:=hc2.other hu fun j hj=>⟨fun h=>by
     simp only[Ak]at h;rcases h with h | h | h
     .have:=(IC j hj).2.1;omega
     .have:=(IC j hj).2.1;have:=Rj c.m zw;omega
     .exact(IC j hj).2.2 h,fun h=>jE (H.o.wd.lt j h) ((IC j hj).2.1),fun h=>jE (H.o.rd.lS j h) ((IC j hj).2.1),Ab H.o.gl.most (fw ((IC j hj).2.1))⟩
    have hs0:Stp c Fo F2 w W:=(Stp.be B2.o).trans KE;rw[Yw.o];exact⟨_,results_none rfl _ _ _,rfl,uW,Q7,F2,hc3,E5,hs0.1.trans hu fun i hi=> .inr (fw ((IC i hi).2.1)),hs0.2⟩
end
variable {vs:List T}{now:Nat}{B:Nat->Nat->Nat->Nat}
def Yb9 {b:BD}{p:Pt}{f:Fc}:Vm b vs [] p f=true↔rW b vs p f:=wx _ _▸Iff.rfl
def Yca {b:BD}{x y:Pt}{f g:Fc}:Vm b vs (D8 [] x f).2 y g=true↔kX b vs x f y g:=wx _ _▸Iff.rfl
structure FU (b:BD) (vs:List T) (fs:List Fc) (now:Nat) (A:Nat->Nat) (B:Nat->Nat->Nat->Nat):Prop where
 a: ∀ k n,k<b.at_.length->((A k).testBit n=true↔n<now/\rW b vs (Hq b k) (G8 fs n))
 z: ∀ k,b.at_.length<=k->A k=0
 snd: ∀ i n k m,i<k->k<b.at_.length->(B i n k).testBit m=true->n<now/\m<now/\kX b vs (Hq b i) (G8 fs n) (Hq b k) (G8 fs m)
 cmp: ∀ i n k m,i<k->k<b.at_.length->(A i).testBit n=true->(A k).testBit m=true->kX b vs (Hq b i) (G8 fs n) (Hq b k) (G8 fs m)->(B i n k).testBit m=true
def FU.zero (b:BD)(vs:List T)(fs:List Fc):FU b vs fs 0 (fun _=>0) (fun _ _ _=>0):=⟨fun k n _=>zw,fun _ _=>rfl,fun i n k m _ _ h=>by simp at h,fun i n k m _ _ h=>by simp at h⟩
def Yfz {fs more:List Fc}{n:Nat}(h:n<fs.length):G8 (fs++more) n=G8 fs n:=by
 unfold G8;rw[xr,xr,PK h]
def FU.lt {b:BD}{fs:List Fc}{A:Nat->Nat}(h:FU b vs fs now A B)(k n:Nat)(hb:(A k).testBit n=true):n<now:=by
 by_cases hk:k<b.at_.length
 .exact((h.a k n hk).1 hb).1
 .rw[h.z k zx]at hb;simp at hb
def FU.PR {b:BD}{fs:List Fc}{A:Nat->Nat}(h:FU b vs fs now A B)(Fq:now<=60)(k:Nat):A k<2 ^ 60:=Nat.lt_pow_two_of_testBit _ fun i hi=>by
 cases hb:(A k).testBit i with
 | false=>rfl
 | true=>have:=h.lt k i hb;omega
def FU.more {b:BD}{fs more:List Fc}{A:Nat->Nat}(h:FU b vs fs now A B)(hn:now<=fs.length):FU b vs (fs++more) now A B:=by
 have e: ∀ n,n<now->G8 (fs++more) n=G8 fs n:=fun n q=>Yfz zx;refine⟨fun k n hk=>?_,h.z,fun i n k m hi hk hb=>?_,fun i n k m hi hk ha hb hf=>?_⟩
 .rw[h.a k n hk];exact and_congr_right fun q=>by rw[e n q]
 .obtain⟨h1,h2,h3⟩:=h.snd i n k m hi hk hb;exact⟨h1,h2,by rw[e n h1,e m h2];exact h3⟩
 .rw[e n<|h.lt i n ha,e m<|h.lt k m hb]at hf;exact h.cmp i n k m hi hk ha hb hf
def FU.Z7 {b:BD}{fs:List Fc}{seen:Nat}{A:Nat->Nat}(h:FU b vs fs seen A B)(hs:seen<=now)(Fq:now<=60):FU b vs fs now (Ku b vs fs A seen now b.at_.length) (UF b vs fs (Ku b vs fs A seen now b.at_.length) B seen<|LW b.at_.length []<|Ku b vs fs A seen now b.at_.length):=by
 obtain⟨A',hA'⟩: ∃ A',Ku b vs fs A seen now b.at_.length=A':=⟨_,rfl⟩;rw[hA'];have ha: ∀ k n,k<b.at_.length->((A' k).testBit n=true↔n<now/\rW b vs (Hq b k) (G8 fs n)):=fun k n hk=>by
  rw[<- hA',Ku,xj hk,Nat.testBit_or,Bool.or_eq_true,h.a k n hk,uq,(Z23 Fq<|Ab hs Fq).2 n];show _\/_/\Vm b vs [] (Hq b k) (G8 fs n)=true↔_;rw[Yb9];constructor
  .rintro(⟨q1,q2⟩ | ⟨q1,q2⟩)
   .exact⟨zx,q2⟩
   .exact⟨q1.2,q2⟩
  .rintro⟨q1,q2⟩;by_cases hq:n<seen
   .exact .inl ⟨hq,q2⟩
   .exact .inr ⟨⟨zx,q1⟩,q2⟩
 have hz: ∀ k,b.at_.length<=k->A' k=0:=fun k hk=>by rw[<- hA',Ku,xd zx];exact h.z k hk
 have hlt: ∀ k,A' k<2 ^ 60:=fun k=>Nat.lt_pow_two_of_testBit _ fun i hi=>by
  cases hb:(A' k).testBit i with
  | false=>rfl
  | true=>
   by_cases hk:k<b.at_.length
   .have:=((ha k i hk).1 hb).1;omega
   .rw[hz k zx]at hb;simp at hb
 have DK:(2:Nat) ^ 60<2 ^ 64:=zu
 have Yk: ∀ i n k m,i<k->k<b.at_.length->((UF b vs fs A' B seen (LW b.at_.length [] A') i n k).testBit m=true↔(B i n k).testBit m=true\/((A' i).testBit n=true/\(A' k).testBit m=true/\(n<seen->seen<=m)/\kX b vs (Hq b i) (G8 fs n) (Hq b k) (G8 fs m))):=fun i n k m hi hk=>by
  have hd:LW b.at_.length [] A' i n=true↔(A' i).testBit n=true:=by
   unfold LW;rw[Bool.or_eq_true,decide_eq_true_iff,decide_eq_true_iff,Ol<|Nat.lt_trans (hlt i) DK];constructor
   .rintro(q | q)
    .exact q.2
    .cases q.2
   .exact fun q=> .inl ⟨zx,q⟩
  have ho:m∈DZ (Oj A' n seen k)↔(A' k).testBit m=true/\(n<seen->seen<=m):=by
   unfold Oj;split
   .rename_i hq;rw[Ol<|Nat.lt_trans (ug<|hlt k) DK,uy (hlt k) zx,wx];simp[hq]
   .rename_i hq;rw[Ol<|Nat.lt_trans (hlt k) DK];simp[hq]
  unfold UF;split
  .rename_i hq;rw[Nat.testBit_or,Bool.or_eq_true,uq,ho];show _\/_/\Vm b vs (D8 [] (Hq b i)<|G8 fs n).2 (Hq b k) (G8 fs m)=true↔_;rw[Yca];refine or_congr Iff.rfl ⟨fun q=>⟨hd.1 hq.1,q.1.1,q.1.2,q.2⟩,fun q=>⟨⟨q.2.1,q.2.2.1⟩,q.2.2.2⟩⟩
  .rename_i hq;refine⟨.inl,fun q=>q.elim id fun q=>absurd ⟨hd.2 q.1,hi,hk⟩ hq⟩
 refine⟨ha,hz,fun i n k m hi hk hb=>?_,fun i n k m hi hk hn hm hf=>?_⟩
 .rcases(Yk i n k m hi hk).1 hb with q | ⟨q1,q2,_,q4⟩
  .obtain⟨h1,h2,h3⟩:=h.snd i n k m hi hk q;exact⟨zx,zx,h3⟩
  .exact⟨((ha i n zx).1 q1).1,((ha k m hk).1 q2).1,q4⟩
 .refine(Yk i n k m hi hk).2 ?_;by_cases hq:n<seen->seen<=m
  .exact .inr ⟨hn,hm,hq,hf⟩
  .refine .inl<|h.cmp i n k m hi hk ((h.a i n zx).2 ⟨zx,((ha i n zx).1 hn).2⟩) ((h.a k m hk).2 ⟨zx,((ha k m hk).1 hm).2⟩) hf
def Ydk {α:Type}{P:List α->Prop}(nil:P [])(snoc: ∀ l x,P l->P (l++[x]))(l:List α):P l:=by
 rw[<- List.reverse_reverse l];induction l.reverse with
 | nil=>exact nil
 | cons x l ih=>rw[List.reverse_cons];exact snoc _ _ ih
def Ybr (g:Nat->Nat)(l:Cg):((Jb g l).map (·.1)).Nodup/\(∀ u,u∈(Jb g l).map (·.1)↔ ∃ n,n∈l/\g n=u)/\ ∀ u m,(JK u<|Jb g l).testBit m=true↔m∈l/\g m=u:=by
 induction l using Ydk with
 | nil=>simp[Jb,JK]
 | snoc l n ih=>
  obtain⟨h1,h2,h3⟩:=ih;rw[Zu4];refine⟨Znr _ _ _ h1,fun u=>?_,fun u m=>?_⟩
  .rw[vN,h2];simp only[Aj,Bh];constructor
   .rintro(rfl | ⟨k,q1,q2⟩)
    .exact⟨n,.inr rfl,rfl⟩
    .exact⟨k,.inl q1,q2⟩
   .rintro⟨k,q1 | rfl,q2⟩
    .exact .inr ⟨k,q1,q2⟩
    .exact .inl q2.symm
  .rw[Zvh];by_cases hu:u=g n
   .rw[xj hu,Nat.testBit_or,Bool.or_eq_true,<- hu,h3,Nat.testBit_two_pow];simp only[Aj,Bh,wA];constructor
    .rintro(q | rfl)
     .exact⟨.inl q.1,q.2⟩
     .exact⟨.inr rfl,hu.symm⟩
    .rintro⟨q1 | rfl,q2⟩
     .exact .inl ⟨q1,q2⟩
     .exact .inr rfl
   .rw[xd hu,h3];simp only[Aj,Bh];refine⟨fun q=>⟨.inl q.1,q.2⟩,fun q=>?_⟩;rcases q.1 with q1 | rfl
    .exact⟨q1,q.2⟩
    .exact absurd q.2.symm hu
def Z79 {fs:List Fc}{h:Hm}{L:Nat->Nat}(hL:L h.2.1<2 ^ 60):(∀ y,y∈bT fs h L-> ∀ m,y.2.testBit m=true↔(L h.2.1).testBit m=true/\IP fs h.2.2 m=y.1)/\ ∀ n,(L h.2.1).testBit n=true-> ∃ y,y∈bT fs h L/\y.1=IP fs h.2.2 n/\y.2.testBit n=true:=by
 have DK:(2:Nat) ^ 60<2 ^ 64:=zu
 obtain⟨h1,h2,h3⟩:=Ybr (IP fs h.2.2)<|DZ<|L h.2.1;have mb: ∀ n,n∈DZ (L h.2.1)↔(L h.2.1).testBit n=true:=fun n=>Ol (Nat.lt_trans hL DK);have key: ∀ y,y∈bT fs h L-> ∀ m,y.2.testBit m=true↔(L h.2.1).testBit m=true/\IP fs h.2.2 m=y.1:=fun y hy m=>by
  rw[<- Zvg h1 hy,h3,mb]
 refine⟨key,fun n hn=>?_⟩;obtain⟨y,hy,e⟩:=List.mem_map.1<|(h2<|IP fs h.2.2 n).2 ⟨n,(mb n).2 hn,rfl⟩;exact⟨y,hy,e,(key y hy n).2 ⟨hn,e.symm⟩⟩
def rO (fs:List Fc) (ns:Nat->Nat) (h:Hm):Ay×Nat:=(h.1,IP fs h.2.2<|ns h.2.1)
def vZ {b:BD}{fs:List Fc}(hh: ∀ h,h∈b.hs->h.2.1<b.at_.length): ∀ (d k:Nat) (L:Nat->Nat) (xs:Bn) (x:Fc),k+d=b.hs.length->(∀ j,L j<2 ^ 60)->(ZI B b fs d k L xs x↔ ∃ ns:Nat->Nat,(∀ j,j<b.at_.length->(L j).testBit (ns j)=true)/\(∀ j i,j<i->i<b.at_.length->(B j (ns j) i).testBit (ns i)=true)/\x=(b.hd.1,FF (xs++(b.hs.drop k).map (rO fs ns)) b.hd.2))
 | 0,k,L,xs,x,hk,hL=>by
  have hd:b.hs.drop k=[]:=List.drop_eq_nil_of_le zx;rw[ZI,qX _ _ _ zx hL,hd];simp only[List.map_nil,List.append_nil];constructor
  .rintro⟨⟨ns,q1,q2⟩,q3⟩;exact⟨ns,fun j hj=>q1 j zx hj,fun j i h1 h2=>q2 j i zx h1 h2,q3⟩
  .rintro⟨ns,q1,q2,q3⟩;exact⟨⟨ns,fun j _ hj=>q1 j hj,fun j i _ h1 h2=>q2 j i h1 h2⟩,q3⟩
 | d+1,k,L,xs,x,hk,hL=>by
  have QZ:k<b.hs.length:=zx
  obtain⟨h,hg⟩: ∃ h,b.hs[k]?=some h:=⟨_,A8 QZ⟩;have hd:b.hs.drop k=h::b.hs.drop (k+1):=by rw[xH QZ,(DW.1 hg).2]
  have ha:=hh h<|Ej hg;obtain⟨c1,c2⟩:=Z79 (fs:=fs) (h:=h)<|hL h.2.1;have hL': ∀ y,y∈bT fs h L-> ∀ j,KO L h.2.1 y.2 j<2 ^ 60:=fun y hy=>Yg4 hL (Nat.lt_pow_two_of_testBit _ fun i hi=>by
   cases hb:y.2.testBit i with
   | false=>rfl
   | true=>rw[<- ((c1 y hy i).1 hb).1,Nat.testBit_lt_two_pow<|BK (hL h.2.1)<|wi zx hi])
  rw[ZI,hd];constructor
  .rintro⟨_,h',e,y,hy,q⟩;obtain rfl:h=h':=Gw<|hg.symm.trans e;obtain⟨ns,q1,q2,q3⟩:=(vZ hh d (k+1) _ _ x zx<|hL' y hy).1 q;have qa:=q1 h.2.1 ha;rw[KO,xj rfl]at qa;refine⟨ns,fun j hj=>?_,q2,?_⟩
   .have:=q1 j hj
    unfold KO at this;split at this
    .rename_i e;rw[e]at this⊢;exact((c1 y hy _).1 this).1
    .exact this
   .rw[q3,xp,rO,((c1 y hy _).1 qa).2];simp
  .rintro⟨ns,q1,q2,q3⟩;obtain⟨y,hy,e1,e2⟩:=c2 (ns h.2.1)<|q1 _ ha;refine⟨(qX _ _ _ zx hL).2 ⟨ns,fun j _ hj=>q1 j hj,fun j i _ h1 h2=>q2 j i h1 h2⟩,h,hg,y,hy,(vZ hh d (k+1) _ _ x zx<|hL' y hy).2 ⟨ns,fun j hj=>?_,q2,?_⟩⟩
   .unfold KO;split
    .rename_i e;rw[e];exact e2
    .exact q1 j hj
   .rw[q3,xp,rO,<- e1];simp
variable {i j k:Nat}{ns:Nat->Nat}{σ:Ay->Nat}
structure fI (b:BD):Prop where
 bound:Yhf b
 head: ∀ s,s∈b.hd.2->s.1.size=0\/ ∃ x,x∈b.at_/\s∈x.2
 hs:b.hs=TS b.hd.2 b.at_
 l4:b.at_.length<=4
 l6: ∀ p,p∈b.at_->p.2.length<=6
def Yjq (b:BD) (vs:List T) (P:Fc->Prop) (σ:Ay->Nat):Prop:=(∀ x,x∈b.at_->P (JM σ x))/\iM vs b.gs σ
def TG (b:BD) (vs:List T) (P:Fc->Prop) (x:Fc):Prop:= ∃ σ,Yjq b vs P σ/\x=JM σ b.hd
def Z7r {b:BD}{x:Pt}(h:b.at_[i]?=some x):Hq b i=x:=by
 unfold Hq;rw[xr,h];rfl
def Zve {fs:List Fc}{n:Nat}(h:n<now)(hn:now<=fs.length):G8 fs n∈fs.take now:=by
 unfold G8;rw[xr,A8 zx];refine List.mem_iff_getElem?.2 ⟨n,?_⟩;rw[List.getElem?_take_of_lt h,A8 zx];rfl
def Yej {fs:List Fc}{x:Fc}(h:x∈fs.take now): ∃ n,n<now/\x=G8 fs n:=by
 obtain⟨n,hn⟩:=List.mem_iff_getElem?.1 h;have hl:=(DW.1 hn).1;rw[wt]at hl;refine⟨n,zx,?_⟩;rw[List.getElem?_take_of_lt zx]at hn;unfold G8;rw[xr,hn];rfl
def FU.way {b:BD}{fs:List Fc}{A:Nat->Nat}(hT:FU b vs fs now A B)(hb:fI b)(h0:b.at_=[]->Gf vs [] b.gs=true)(h1: ∀ j,j<b.at_.length->(A j).testBit (ns j)=true)(h2: ∀ j i,j<i->i<b.at_.length->(B j (ns j) i).testBit (ns i)=true): ∃ σ,(∀ i x,b.at_[i]?=some x->JM σ x=G8 fs (ns i))/\iM vs b.gs σ:=by
 have hl: ∀ {i:Nat} {x:Pt},b.at_[i]?=some x->i<b.at_.length:=fun h=>(DW.1 h).1;refine Z95 hb.bound h0 (f:=fun i=>G8 fs (ns i)) (fun i x hx=>?_) fun i k x y hik hx hy=>?_
 .rw[<- Z7r hx];exact((hT.a i _<|hl hx).1<|h1 i<|hl hx).2
 .rw[<- Z7r hx,<- Z7r hy];exact(hT.snd i _ k _ hik (hl hy)<|h2 i k hik<|hl hy).2.2
def FU.bits {b:BD}{fs:List Fc}{A:Nat->Nat}(hT:FU b vs fs now A B)(hg:iM vs b.gs σ)(hn: ∀ i x,b.at_[i]?=some x->ns i<now/\JM σ x=G8 fs (ns i)):(∀ j,j<b.at_.length->(A j).testBit (ns j)=true)/\ ∀ j i,j<i->i<b.at_.length->(B j (ns j) i).testBit (ns i)=true:=by
 have ha: ∀ j,j<b.at_.length->(A j).testBit (ns j)=true:=fun j hj=>by
  have hx:b.at_[j]?=some (Hq b j):=by rw[A8 hj];unfold Hq;rw[xr,A8 hj];rfl
  obtain⟨q1,q2⟩:=hn j _ hx;rw[hT.a j _ hj,<- q2];exact⟨q1,(Z38 hg (Hq b j)<|Hq b j).1⟩
 refine⟨ha,fun j i Il hi=>hT.cmp j _ i _ Il hi (ha j zx) (ha i hi) ?_⟩;have hat: ∀ k,k<b.at_.length->b.at_[k]?=some (Hq b k):=fun k hk=>by rw[A8 hk];unfold Hq;rw[xr,A8 hk];rfl
 rw[<- (hn j _<|hat j zx).2,<- (hn i _<|hat i hi).2];exact(Z38 hg (Hq b j)<|Hq b i).2
def fI.Sj {b:BD}(hb:fI b){fs:List Fc}(hn: ∀ i x,b.at_[i]?=some x->JM σ x=G8 fs (ns i)):(b.hd.1,FF (b.hs.map<|rO fs ns) b.hd.2)=JM σ b.hd:=by
 have Aq:=qj (hd:=b.hd.2) hb.l4 hb.l6;have OY:OD (b.hs.map<|rO fs ns) σ:=fun y hy=>by
  obtain⟨h,hh,rfl⟩:=List.mem_map.1 hy;rw[hb.hs]at hh;obtain⟨n,⟨p,hp,hs⟩,_,h0⟩:=Aq.from_ h hh;have e:=hn _ _ hp;have e2:(G8 fs<|ns h.2.1).2=p.2.map (P7 σ):=by rw[<- e];rfl
  show σ h.1=IP fs h.2.2 (ns h.2.1);unfold IP;show _=(G8 fs<|ns h.2.1).2[h.2.2]?.getD 0;rw[e2,FK,hs];show _=P7 σ (h.1,n);unfold P7;rw[xd h0]
 unfold JM FF;congr 1
 refine List.map_congr_left fun s hs=>Ws OY ?_;rcases hb.head s hs with h | h
 .exact .inl h
 .by_cases h0:s.1.size=0
  .exact .inl h0
  .refine .inr ?_
   have:=Zxz h0 hs b.at_ [] 0 h
   rw[List.map_map,hb.hs];exact this
def Z5h {b:BD}{fs:List Fc}{seen:Nat}{A:Nat->Nat}(hT:FU b vs fs now A B)(hb:fI b)(hn:now<=fs.length)(Fq:fs.length<=60){x:Fc}(h:Zzl B b vs fs A seen x):TG b vs (·∈fs.take now) x:=by
 rcases h with⟨hz,ha,rfl⟩ | ⟨i,hi,hF⟩
 .have hat:b.at_=[]:=List.length_eq_zero_iff.1 hz;obtain⟨σ,h1,h2⟩:=hT.way hb (fun _=>ha) (ns:=fun _=>0) (fun j hj=>zx) fun j i _ hi=>zx;refine⟨σ,⟨fun x hx=>(by rw[hat]at hx;cases hx),h2⟩,?_⟩
  have:=hb.Sj (fs:=fs) h1
  rw[<- this];have hs:b.hs=[]:=by rw[hb.hs,hat];rfl
  rw[hs];rfl
 .have hL: ∀ j n,(WT A seen i j).testBit n=true->n<60:=fun j n q=>fw (hT.lt j n<|qE q)
  have hh: ∀ h,h∈b.hs->h.2.1<b.at_.length:=fun h q=>by
   rw[hb.hs]at q;obtain⟨_,⟨p,hp,_⟩,_⟩:=(qj (hd:=b.hd.2) hb.l4 hb.l6).from_ h q;exact(DW.1 hp).1
  obtain⟨ns,q1,q2,q3⟩:=(vZ hh b.hs.length 0 _ [] x zx fun j=>Nat.lt_pow_two_of_testBit _ fun m hm=>by
   cases hbt:(WT A seen i j).testBit m with
   | false=>rfl
   | true=>have:=hL j m hbt;omega).1 hF
  have sV: ∀ j,j<b.at_.length->(A j).testBit (ns j)=true:=fun j hj=>qE (q1 j hj);obtain⟨σ,h1,h2⟩:=hT.way hb (fun e=>by rw[e]at hi;exact absurd hi<|Nat.not_lt_zero _) sV q2;refine⟨σ,⟨fun x hx=>?_,h2⟩,?_⟩
  .obtain⟨j,hj⟩:=List.mem_iff_getElem?.1 hx;rw[h1 j x hj];exact Zve (hT.lt j _<|sV j (DW.1 hj).1) hn
  .rw[q3,<- hb.Sj h1];rfl
def Yjy {p:Nat->Prop}(n:Nat)(h:p n): ∃ i,p i/\ ∀ k,k<i-> ¬ p k:=by
 induction n using Nat.strongRecOn with
 | _ n ih=>
  by_cases hk: ∃ k,k<n/\p k
  .obtain⟨k,h1,h2⟩:=hk;exact ih k h1 h2
  .exact⟨n,h,fun k h1 h2=>hk ⟨k,h1,h2⟩⟩
def Z5f {b:BD}{fs:List Fc}{seen:Nat}{A:Nat->Nat}(hT:FU b vs fs now A B)(hb:fI b)(hn:now<=fs.length)(Fq:fs.length<=60)(hsn:seen<=now){x:Fc}(h:TG b vs (·∈fs.take now) x):Zzl B b vs fs A seen x\/(b.at_≠[]/\TG b vs (·∈fs.take seen) x):=by
 obtain⟨σ,⟨h1,h2⟩,rfl⟩:=h;by_cases hat:b.at_=[]
 .refine .inl<|.inl ⟨by rw[hat];rfl,h2.agree<|fQ σ,?_⟩;have hs:b.hs=[]:=by rw[hb.hs,hat];rfl
  have:=hb.Sj (fs:=fs) (σ:=σ) (ns:=fun _=>0) fun i x hx=>by rw[hat]at hx;simp at hx
  rw[<- this,hs];rfl
 have hex: ∀ i:Nat,∃ n:Nat,∀ x,b.at_[i]?=some x->n<now/\JM σ x=G8 fs n:=fun i=>by
  cases hx:b.at_[i]? with
  | none=>exact⟨0,fun x h=>by cases h⟩
  | some y=>
   obtain⟨n,q1,q2⟩:=Yej<|h1 y<|Ej hx;exact⟨n,fun x h=>by injection h with h;subst h;exact⟨q1,q2⟩⟩
 obtain⟨ns,NK⟩:=Classical.axiomOfChoice hex;obtain⟨q1,q2⟩:=hT.bits h2 NK;have PR:=hT.PR zx;by_cases hi: ∃ i,i<b.at_.length/\seen<=ns i
 .obtain⟨i0,Xd⟩:=hi;obtain⟨i,⟨hi1,zQ⟩,nV⟩:=Yjy (p:=fun i=>i<b.at_.length/\seen<=ns i) i0 Xd;have Yk: ∀ j,j<b.at_.length->(WT A seen i j).testBit (ns j)=true:=fun j hj=>by
   unfold WT KO;split
   .rename_i e;subst e;rw[uy (PR j) zx,q1 j hj];simp;omega
   .rename_i e;unfold PU;split
    .have:ns j<seen:=by
      have:=nV j zx
      omega
     rw[Nat.testBit_and,q1 j hj,Nat.testBit_two_pow_sub_one];simpa using this
    .exact q1 j hj
  have hh: ∀ h,h∈b.hs->h.2.1<b.at_.length:=fun h q=>by
   rw[hb.hs]at q;obtain⟨_,⟨p,hp,_⟩,_⟩:=(qj (hd:=b.hd.2) hb.l4 hb.l6).from_ h q;exact(DW.1 hp).1
  refine .inl<|.inr ⟨i,hi1,(vZ hh b.hs.length 0 _ [] _ zx fun j=>Nat.lt_pow_two_of_testBit _ fun m hm=>?_).2 ⟨ns,Yk,q2,?_⟩⟩
  .cases hbt:(WT A seen i j).testBit m with
   | false=>rfl
   | true=>have:=hT.lt j m<|qE hbt;omega
  .rw[<- hb.Sj fun i x hx=>(NK i x hx).2];rfl
 .refine .inr ⟨hat,σ,⟨fun x hx=>?_,h2⟩,rfl⟩;obtain⟨j,hj⟩:=List.mem_iff_getElem?.1 hx;rw[(NK j x hj).2]
  have:=(DW.1 hj).1
  exact Zve (Nat.lt_of_not_le fun q=>hi ⟨j,this,q⟩) zx
def Z84 {b:BD}{fs:List Fc}{A:Nat->Nat}(hT:FU b vs fs fs.length A B)(hb:fI b)(Fq:fs.length<=60):(Gf vs [] b.gs=true/\Xq B b.at_.length b.at_.length 0 A)↔ ∃ σ,Yjq b vs (·∈fs) σ:=by
 rw[qX _ _ _ zx<|hT.PR Fq];constructor
 .rintro⟨ha,ns,q1,q2⟩;obtain⟨σ,h1,h2⟩:=hT.way hb (fun _=>ha) (ns:=ns) (fun j hj=>q1 j zx hj) fun j i h1 h2=>q2 j i zx h1 h2;refine⟨σ,fun x hx=>?_,h2⟩;obtain⟨j,hj⟩:=List.mem_iff_getElem?.1 hx;rw[h1 j x hj]
  have:=Zve (hT.lt j _<|q1 j zx (DW.1 hj).1) lr
  rwa [On]at this
 .rintro⟨σ,h1,h2⟩;refine⟨h2.agree<|fQ σ,?_⟩;have hex: ∀ i:Nat,∃ n:Nat,∀ x,b.at_[i]?=some x->n<fs.length/\JM σ x=G8 fs n:=fun i=>by
   cases hx:b.at_[i]? with
   | none=>exact⟨0,fun x h=>by cases h⟩
   | some y=>
    obtain⟨n,q1,q2⟩:=Yej (now:=fs.length) (fs:=fs) (by rw[On];exact h1 y<|Ej hx);exact⟨n,fun x h=>by injection h with h;subst h;exact⟨q1,q2⟩⟩
  obtain⟨ns,NK⟩:=Classical.axiomOfChoice hex;obtain⟨q1,q2⟩:=hT.bits h2 NK;exact⟨ns,fun j _ hj=>q1 j hj,fun j i _ h1 h2=>q2 j i h1 h2⟩
def EX.weak {H J:Fc->Prop}{fs fs':List Fc}{r:Bool}(t:EX H fs r fs')(h1: ∀ x,H x->J x)(h2: ∀ x,J x->H x\/x∈fs):EX J fs r fs':=by
 obtain⟨ad,e,ha⟩:=t.ext;refine⟨⟨ad,e,fun x hx=>h1 x (ha x hx)⟩,t.nd,t.len,fun q x hx=>?_,fun q=>?_⟩
 .rcases h2 x hx with h | h
  .exact t.all q x h
  .rw[e];exact Md _ h
 .obtain⟨q1,x,q2,q3⟩:=t.no q;exact⟨q1,x,h1 x q2,q3⟩
def Uj (bs:List BD) (vs:List T) (P:Fc->Prop) (x:Fc):Prop:= ∃ b,b∈bs/\TG b vs P x
def Fn (bs:List BD) (vs:List T) (P:Fc->Prop):Nat->Fc->Prop
 | 0=>P
 | k+1=>fun x=>Fn bs vs P k x\/Uj bs vs (Fn bs vs P k) x
def Yhy (bs:List BD) (vs:List T) (P:Fc->Prop):Prop:=(∃ l:List Fc,l.length<=60/\ ∀ x,Fn bs vs P 12 x->x∈l)/\ ∀ x,Uj bs vs (Fn bs vs P 12) x->Fn bs vs P 12 x
def Fn.mono {bs:List BD}{P:Fc->Prop}(h:i<=j){x:Fc}(hx:Fn bs vs P i x):Fn bs vs P j x:=by
 induction h with
 | refl=>exact hx
 | step _ ih=>exact .inl ih
def Fn.same {bs:List BD}{P:Fc->Prop}(h: ∀ x,Uj bs vs (Fn bs vs P k) x->Fn bs vs P k x)(hj:k<=j):Fn bs vs P j=Fn bs vs P k:=by
 induction hj with
 | refl=>rfl
 | step _ ih=>
  funext x
  apply propext
  show _\/_↔_;rw[ih];exact⟨fun q=>q.elim id (h x),.inl⟩
structure jX (bs:List BD) (vs:List T) (P:Fc->Prop) (r:Bool) (fs:List Fc):Prop where
 nd:fs.Nodup
 len:fs.length<=60
 room:r=true↔Yhy bs vs P
 all:r=true-> ∀ x,x∈fs↔Fn bs vs P 12 x
structure S8 (bs:List BD) (vs:List T) (P:Fc->Prop) (k seen:Nat) (fs:List Fc):Prop where
 nd:fs.Nodup
 len:fs.length<=60
 all: ∀ x,x∈fs↔Fn bs vs P k x
 le:seen<=fs.length
 old: ∀ b,b∈bs->b.at_≠[]-> ∀ x,TG b vs (·∈fs.take seen) x->x∈fs
def S8.zero {bs:List BD}{fs:List Fc}(h1:fs.Nodup)(h2:fs.length<=60):S8 bs vs (·∈fs) 0 0 fs:=⟨h1,h2,fun _=>Iff.rfl,Eg _,fun b _ h0 x ⟨σ,⟨q,_⟩,_⟩=>by
 cases e:b.at_ with
 | nil=>exact absurd e h0
 | cons p l=>
  have:=q p (by rw[e];simp)
  simp at this⟩
def S8.next {bs:List BD}{P:Fc->Prop}{seen:Nat}{fs fs':List Fc}(h:S8 bs vs P k seen fs)(t:EX (Uj bs vs (·∈fs)) fs true fs'):S8 bs vs P (k+1) fs.length fs':=by
 obtain⟨ad,e,ha⟩:=t.ext;have hP:(fun x=>x∈fs)=Fn bs vs P k:=funext fun x=>propext (h.all x);refine⟨t.nd h.nd,t.len h.len,fun x=>?_,by rw[e,JS];omega,fun b hb _ x hx=>?_⟩
 .show _↔_\/_;rw[<- hP];constructor
  .intro q;rw[e]at q;exact(Aj.1 q).imp id<|ha x
  .rintro(q | q)
   .rw[e];exact Md _ q
   .exact t.all rfl x q
 .rw[e,List.take_left' rfl]at hx;exact t.all rfl x ⟨b,hb,hx⟩
def S8.done {bs:List BD}{P:Fc->Prop}{seen:Nat}{fs fs':List Fc}(h:S8 bs vs P k seen fs)(hk:k<=12)(t:EX (Uj bs vs (·∈fs)) fs true fs')(he:fs'.length=fs.length):jX bs vs P true fs':=by
 obtain⟨ad,e,ha⟩:=t.ext;have had:ad=[]:=List.length_eq_zero_iff.1 (by rw[e,JS]at he;omega);rw[had,List.append_nil]at e;subst e;have hP:(fun x=>x∈fs')=Fn bs vs P k:=funext fun x=>propext (h.all x);have hc: ∀ x,Uj bs vs (Fn bs vs P k) x->Fn bs vs P k x:=fun x q=>by
  rw[<- hP]at q;exact(h.all x).1<|t.all rfl x q
 have uV:=Fn.same hc hk;refine⟨h.nd,h.len,⟨fun _=>⟨⟨fs',h.len,fun x q=>(h.all x).2 (uV▸q)⟩,by rw[uV];exact hc⟩,fun _=>rfl⟩,fun _ x=>?_⟩;rw[uV];exact h.all x
def S8.full {bs:List BD}{P:Fc->Prop}{seen:Nat}{fs fs':List Fc}(h:S8 bs vs P k seen fs)(hk:k<=12)(t:EX (Uj bs vs (·∈fs)) fs false fs'):jX bs vs P false fs':=by
 obtain⟨ad,e,ha⟩:=t.ext;obtain⟨Fq,y,hy,hn⟩:=t.no rfl;have hP:(fun x=>x∈fs)=Fn bs vs P k:=funext fun x=>propext (h.all x);refine⟨t.nd h.nd,t.len h.len,⟨fun q=>(by cases q),fun⟨⟨l,hl,hl2⟩,hc⟩=>?_⟩,fun q=>by cases q⟩;rw[hP]at hy ha;have Ci: ∀ x,Fn bs vs P (k+1) x->x∈l:=fun x q=>by
  by_cases hk2:k+1<=12
  .exact hl2 x<|Fn.mono hk2 q
  .obtain rfl:k=12:=zx
   exact hl2 x<|q.elim id<|hc x
 have:=Zra (y::fs') l (List.nodup_cons.2 ⟨hn,t.nd h.nd⟩) fun x hx=>by
  rcases Ak.1 hx with rfl | hx
  .exact Ci _<|.inr hy
  .rw[e]at hx;rcases Aj.1 hx with hx | hx
   .exact Ci _<|.inl<|(h.all x).1 hx
   .exact Ci _<|.inr<|ha x hx
 rw[DU]at this;omega
def S8.over {bs:List BD}{P:Fc->Prop}{seen:Nat}{fs fs':List Fc}(h:S8 bs vs P 12 seen fs)(t:EX (Uj bs vs (·∈fs)) fs true fs')(he:fs'.length≠fs.length):jX bs vs P false fs':=by
 obtain⟨ad,e,ha⟩:=t.ext;have hP:(fun x=>x∈fs)=Fn bs vs P 12:=funext fun x=>propext (h.all x);refine⟨t.nd h.nd,t.len h.len,⟨fun q=>(by cases q),fun⟨_,hc⟩=>?_⟩,fun q=>by cases q⟩;cases had:ad with
 | nil=>rw[e,had]at he;simp at he
 | cons y l=>
  have hy:Uj bs vs (·∈fs) y:=ha y (by rw[had];simp);have QW:=t.nd h.nd;rw[e,Mc]at QW;rw[hP]at hy;exact absurd rfl<|QW.2.2 y ((h.all y).2<|hc y hy) y (by rw[had];simp)
end Go.W
