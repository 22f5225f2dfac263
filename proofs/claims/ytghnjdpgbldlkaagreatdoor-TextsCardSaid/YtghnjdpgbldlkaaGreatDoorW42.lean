import Derived.Test.YtghnjdpgbldlkaaGreatDoorW41
import Derived.Lib.ItoaLen
set_option linter.defProp false
set_option maxRecDepth 100000
set_option maxHeartbeats 8000000
set_option linter.unusedSimpArgs false
open Go.Proofs Go.RowKit Go.W Tryz
namespace Go.P
def Zt8 {B D:Nat}{w:World}{b1 o1 b2 o2:Nat}{x:Bk}(hB:B<=w.heap.size)(h1:Jl B w (D+2) b1 o1 x)(h2:Jl B w (D+2) b2 o2 x):Calls prog 8 #[.pointer<|Qb b1 o1,.pointer<|Qb b2 o2] w fun e w'=>e= .returned (.bool true)/\Bl w w':=by
 obtain⟨_,⟨_,f1,p1,c1,rfl,_,yg⟩,⟨_,r1,p2,c2,rfl,_,yc⟩,⟨_,k1,p3,c3,rfl,_,pP⟩⟩:=h1;obtain⟨_,⟨_,f2,q1,d1,rfl,_,yf⟩,⟨_,r2,q2,d2,rfl,_,yZ⟩,⟨_,k2,q3,d3,rfl,_,yj⟩⟩:=h2;have CA:=AA fun u (hu:Bl w u)=>wY (c:=c1) (c':=d1) (D:=D+1) (AU hB hu.size) (yg.carry fun _ _ _ t=>t.carry (BJ hu hB) lr) (yf.carry fun _ _ _ t=>t.carry (BJ hu hB) lr);have CR:=AA fun u (hu:Bl w u)=>Zlv (c:=c2) (c':=d2) (D:=D) (AU hB hu.size) (yc.carry fun _ _ _ t=>t.carry (BJ hu hB) lr) (yZ.carry fun _ _ _ t=>t.carry (BJ hu hB) lr);have RC:=AA<|AF pP yj;have hl:=pP.len;obtain⟨n,hn⟩: ∃ n,AC (x.checks.length=n):=⟨_,⟨rfl⟩⟩;rw[hn.out]at hl k1 k2;have HX:=AA fun u (hu:Bl w u)=>AF (AF (Aq f1 hu)<|AF (Aq r1 hu)<|Aq k1 hu) (AF (Aq f2 hu)<|AF (Aq r2 hu)<|Aq k2 hu);clear yg yc pP yf yZ yj f1 r1 k1 f2 r2 k2;go_in
 go_wp2_with fail
 have hS:w.drew.cell? ⟨b1,o1,none⟩=some (.slice p1 x.facts.length c1)/\w.drew.cell? ⟨b2,o2,none⟩=some (.slice q1 x.facts.length d1):=⟨(HX.out w.drew (AQ _ w).drew).1.1,(HX.out w.drew (AQ _ w).drew).2.1⟩;refine Nv 8 (fun u=>u.cell? ⟨b1,o1,none⟩=some (.slice p1 x.facts.length c1)/\u.cell? ⟨b2,o2,none⟩=some (.slice q1 x.facts.length d1)) zt ?_;refine tf 0 (.pointer<|Qb b1 o1) hS ?_;try simp only[zz]
 refine tf 1 (.pointer<|Qb b1 o1) hS ?_;try simp only[zz]
 refine tf 2 (.pointer<|Qb b1 o1) hS ?_;try simp only[zz]
 refine tz 3 (.slice p1 x.facts.length c1) hS (hy:=fun _ ⟨s0,s1⟩=>by go_simp) ?_;try simp only[zz]
 refine tf 4 (.pointer<|Qb b2 o2) hS ?_;try simp only[zz]
 refine tf 5 (.pointer<|Qb b2 o2) hS ?_;try simp only[zz]
 refine tf 6 (.pointer<|Qb b2 o2) hS ?_;try simp only[zz]
 refine tz 7 (.slice q1 x.facts.length d1) hS (hy:=fun _ ⟨s0,s1⟩=>by go_simp) ?_;try simp only[zz]
 refine J6 (h:=fun K' hK'=>?_);go_simp;refine(CA.out _ (AQ _ w).drew).mono ?_;rintro e w1 ⟨rfl,hb⟩;have B1:=AA<|(AQ w.heap.size w).drew.trans hb;clear hb;refine hK'.out _ _ ?_;try simp only[zz]
 refine ry 9 (h:=fun K' hK'=>?_);go_simp;refine hK'.out _ _ ?_;try simp only[zz]
 refine dz (h:=?_);clear hS CA;go_wp2_with fail
 have hS:w1.drew.cell? ⟨b1,o1+1,none⟩=some (.slice p2 x.rules.length c2)/\w1.drew.cell? ⟨b2,o2+1,none⟩=some (.slice q2 x.rules.length d2):=⟨(HX.out w1.drew B1.out.drew).1.2.1,(HX.out w1.drew B1.out.drew).2.2.1⟩;refine Nv 8 (fun u=>u.cell? ⟨b1,o1+1,none⟩=some (.slice p2 x.rules.length c2)/\u.cell? ⟨b2,o2+1,none⟩=some (.slice q2 x.rules.length d2)) zt ?_;refine tf 0 (.pointer<|Qb b1 o1) hS ?_;try simp only[zz]
 refine tf 1 (.pointer<|Qb b1 o1) hS ?_;try simp only[zz]
 refine tf 2 (.pointer<|Qb b1<|o1+1) hS ?_;try simp only[zz]
 refine tz 3 (.slice p2 x.rules.length c2) hS (hy:=fun _ ⟨s0,s1⟩=>by go_simp) ?_;try simp only[zz]
 refine tf 4 (.pointer<|Qb b2 o2) hS ?_;try simp only[zz]
 refine tf 5 (.pointer<|Qb b2 o2) hS ?_;try simp only[zz]
 refine tf 6 (.pointer<|Qb b2<|o2+1) hS ?_;try simp only[zz]
 refine tz 7 (.slice q2 x.rules.length d2) hS (hy:=fun _ ⟨s0,s1⟩=>by go_simp) ?_;try simp only[zz]
 refine J6 (h:=fun K' hK'=>?_);go_simp;refine(CR.out _ B1.out.drew).mono ?_;rintro e w2 ⟨rfl,hb⟩;have B2:=AA<|B1.out.trans ((AQ _ w1).drew.trans hb |>.mono B1.out.size);clear hb;refine hK'.out _ _ ?_;try simp only[zz]
 refine ry 9 (h:=fun K' hK'=>?_);go_simp;refine hK'.out _ _ ?_;try simp only[zz]
 refine dz (h:=?_);clear hS CR;obtain⟨⟨_,_,k1⟩,_,_,k2⟩:=HX.out w2 B2.out;go_wp2
 go_quiet (fail)
 go_wp2_with fail
 clear k1 k2;go_loopw [7] (fun iv wr=>jX w n iv wr) (fun iv _=>n-(intOf iv).toNat)
 case atStart=>exact⟨0,zx,rfl,B2.out.NL _⟩
 case round=>
  obtain⟨k,hk,rfl,AX⟩:=hrel;have HB:=AA AX;obtain⟨⟨_,_,k1⟩,_,_,k2⟩:=HX.out wr AX;clear AX;by_cases hlt:k<n
  ·have Dk:k<x.checks.length:=by rw[hn.out];exact hlt
   obtain⟨e1,t1,rfl,_,_,v1,pe,ce,rfl,_,ra⟩:=RC.out.1.get k Dk;obtain⟨e2,t2,rfl,_,_,v2,yw,si,rfl,_,rb⟩:=RC.out.2.get k Dk;have CC:=AA fun u (hu:Bl w u)=>Zlv (c:=ce) (c':=si) (D:=D) (AU hB hu.size) (ra.carry fun _ _ _ t=>t.carry (BJ hu hB) lr) (rb.carry fun _ _ _ t=>t.carry (BJ hu hB) lr);rw[Nat.mul_one]at v1 v2;have HV:=AA fun u (hu:Bl w u)=>AF (AF (HX.out u hu).1.2.2<|Aq v1 hu) (AF (HX.out u hu).2.2.2<|Aq v2 hu);clear ra rb v1 v2;generalize x.checks[k]=y at*;go_wp2_with fail
   have hS:=HV.out wr.drew HB.out.drew;refine U7 (S:=fun u=>(u.cell? ⟨b1,o1+2,none⟩=some (.slice (Qb e1 t1) n c3)/\u.cell? ⟨e1,t1+k,none⟩=some (.slice pe y.length ce))/\u.cell? ⟨b2,o2+2,none⟩=some (.slice (Qb e2 t2) n d3)/\u.cell? ⟨e2,t2+k,none⟩=some (.slice yw y.length si)) zt ?_;change wpAnyH _ _ _ _ _ _ _ _ (World.drew _);refine tk 0 (.pointer<|Qb b1 o1) hS ?_;try simp only[zz]
   refine tk 1 (.pointer<|Qb b1 o1) hS ?_;try simp only[zz]
   refine tk 2 (.pointer<|Qb b1<|o1+2) hS ?_;try simp only[zz]
   refine tk 3 (.slice (Qb e1 t1) n c3) hS (hy:=fun _ ⟨⟨s0,s1⟩,s2,s3⟩=>by go_simp) ?_;try simp only[zz]
   refine tk 4 (.int .i64 (k:Int)) hS ?_;try simp only[zz]
   refine tk 5 (.pointer<|Qb e1<|t1+k) hS ?_;try simp only[zz]
   refine tk 6 (.pointer<|Qb e1<|t1+k) hS ?_;try simp only[zz]
   refine tk 7 (.slice pe y.length ce) hS (hy:=fun _ ⟨⟨s0,s1⟩,s2,s3⟩=>by go_simp) ?_;try simp only[zz]
   refine tk 8 (.pointer<|Qb b2 o2) hS ?_;try simp only[zz]
   refine tk 9 (.pointer<|Qb b2 o2) hS ?_;try simp only[zz]
   refine tk 10 (.pointer<|Qb b2<|o2+2) hS ?_;try simp only[zz]
   refine tk 11 (.slice (Qb e2 t2) n d3) hS (hy:=fun _ ⟨⟨s0,s1⟩,s2,s3⟩=>by go_simp) ?_;try simp only[zz]
   refine tk 12 (.int .i64 (k:Int)) hS ?_;try simp only[zz]
   refine tk 13 (.pointer<|Qb e2<|t2+k) hS ?_;try simp only[zz]
   refine tk 14 (.pointer<|Qb e2<|t2+k) hS ?_;try simp only[zz]
   refine tk 15 (.slice yw y.length si) hS (hy:=fun _ ⟨⟨s0,s1⟩,s2,s3⟩=>by go_simp) ?_;try simp only[zz]
   refine Eg (rs:=[16]) zt zw<|EG rfl (fun K' hK'=>?_) Eh;go_simp;refine(CC.out _ HB.out.drew).mono ?_;rintro e w3 ⟨rfl,hb⟩;have B3:=AA<|HB.out.trans ((AQ _ wr).drew.trans hb |>.mono HB.out.size);refine hK'.out _ _ (HV.out _ B3.out) fun _=>?_;try simp only[zz]
   refine tk 17 (.bool true) (HV.out _ B3.out) ?_;try simp only[zz]
   refine Lp zt ?_ _;clear hS hb k1 k2;go_wp2
   exact⟨⟨k+1,zx,by go_num,B3.out⟩,by simp[intOf];omega⟩
  ·obtain rfl:k=n:=zx
   go_wp2
   go_ret
   exact⟨rfl,HB.out⟩
end Go.P
namespace Go.W
def Ya2:ByteArray:=⟨#[114,105,103,104,116,40,34,97,34,41,59,32,109,97,121,40,36,120,41,32,60,45,32,114,105,103,104,116,40,36,120,41,59]⟩
def Ya3:ByteArray:=⟨#[99,104,101,99,107,32,105,102,32,109,97,121,40,34,97,34,41,44,32,116,105,109,101,40,36,116,41,44,32,36,116,32,60,32,64,53,59]⟩
def oG:ByteArray:=⟨#[97,108,108,111,119,32,105,102,32,109,97,121,40,34,97,34,41,59]⟩
def eqB:Et Ya2 (Jj Ya2)= .ok GA:=zt
def eqC:Et Ya3 (Jj Ya3)= .ok Ia:=zt
def MG:Et oG (T9 oG)= .ok [bu]:=zt
end Go.W
namespace Go.P
section
variable {a:Nat->Addr} {w:World}
def Zwo {t:ByteArray}{x:Bk}(ht:t.size<1000000000)(hx:Et t (Jj t)= .ok x)(Z:Aa a w)(E:OQ a w):Calls prog 7 #[.string t] w fun e w'=> ∃ p c p1 c1 p2 c2 q,e= .returned (.tuple #[.agg #[.slice p x.facts.length c,.slice p1 x.rules.length c1,.slice p2 x.checks.length c2],.int .i64 0,.int .i64 q])/\DW w'.heap.size w' 3 [.slice p x.facts.length c,.slice p1 x.rules.length c1,.slice p2 x.checks.length c2] x/\Bl w w':=by
 refine(vW t ht Z E).mono ?_;rintro e w' ⟨s,m,q,rfl,hk,hb⟩;rcases hk with⟨⟨er,h⟩,_⟩ | ⟨rfl,y,F,h2,h3,h4⟩
 ·rw[hx]at h;cases h
 ·rw[hx]at h2;cases h2;have hS:=Dq.toS h3 h4.lt;obtain⟨p,c,p1,c1,p2,c2,e1,_⟩:=id hS;have e2:SL s=#[.slice p x.facts.length c,.slice p1 x.rules.length c1,.slice p2 x.checks.length c2]:=by rw[<- Array.toArray_toList (xs:=SL s),e1]
  exact⟨p,c,p1,c1,p2,c2,q,by rw[e2],e1▸hS,hb⟩
def Z9p (Z:Aa a w)(E:OQ a w):Calls prog 11 #[.string oG] w fun e w'=> ∃ p c q,e= .returned (.tuple #[.slice p 1 c,.int .i64 0,.int .i64 q])/\Ap 2 (Ni w'.heap.size w' 4) p [bu]/\Bl w w':=by
 refine(Zwu oG zu Z E).mono ?_;rintro e w' ⟨v,m,q,rfl,hk,hb⟩;rcases hk with⟨⟨er,h⟩,_⟩ | ⟨rfl,y,F,h2,h3,h4⟩
 ·rw[MG]at h;cases h
 ·rw[MG]at h2;cases h2;obtain⟨p,c,rfl,_,hr⟩:=AO.rowOf (Q':=Ni w'.heap.size w' 4) h3 h4.lt fun _ _ _ _ _ hcc IJ hG q=>EA.at_ q hG IJ hcc;exact⟨p,c,q,rfl,hr,hb⟩
def Z4m (V:E8)(CL:Ig)(Z:Aa a w)(E:OQ a w):Calls prog 5 #[] w fun e w'=>e= .returned (.bool true)/\Bl w w':=by
 have C1:=AA fun u (hu:Bl w u)=>Zwo zu eqB (Z.below hu) (E.below hu);have C2:=AA fun u (hu:Bl w u)=>Zwo zu eqC (Z.below hu) (E.below hu);have C3:=AA fun u (hu:Bl w u)=>Z9p (Z.below hu) (E.below hu);have C4:=AA fun u (hu:Bl w u) (vs:List Value) (hS:DW u.heap.size u 3 vs GA)=>Z6p V (Z.below hu) lr hS;have C5:=AA fun u (hu:Bl w u) (iB:Na GA) (p:Option Addr) (c:Nat) (hr:Ap 3 (Jl u.heap.size u 4) p [Ia])=>Z9l V CL (Z.below hu) lr iB (c:=c) hr;have C6:=AA fun u (hu:Bl w u) (iB:Na GA) (iC:Na Ia) (p:Option Addr) (c:Nat) (hr:Ap 2 (Ni u.heap.size u 4) p [bu])=>Z6o V CL (Z.below hu) lr iB iC (cp:=c) hr;simp only[show GA.facts.length=1 from rfl,show GA.rules.length=1 from rfl,show GA.checks.length=0 from rfl,show Ia.facts.length=0 from rfl,show Ia.rules.length=0 from rfl,show Ia.checks.length=1 from rfl]at C1 C2;clear Z E;go_in
 go_wp2_with fail
 refine(C1.out _<|AQ _ _).mono ?_;rintro e w1 ⟨pf,cf,pr,cr,pk,ck,q,rfl,hS1,hb1⟩;have iB:=hS1.VL zx;have S1:=AA hS1;have b1:=AA hb1;clear hS1 hb1;go_wp2_with fail
 have N1:=AA<|AJ.new w1 #[.slice pf 1 cf,.slice pr 1 cr,.slice pk 0 ck] 38;have XG:=AA<|b1.out.alloc b1.out.size<|.cells #[.slice pf 1 cf,.slice pr 1 cr,.slice pk 0 ck] 38;have S1':=AA<|DW.carry S1.out<|Hl (.cells #[.slice pf 1 cf,.slice pr 1 cr,.slice pk 0 ck] 38) lr;generalize w1.alloc (.cells #[.slice pf 1 cf,.slice pr 1 cr,.slice pk 0 ck] 38)=W1 at*;refine(C2.out _ XG.out).mono ?_;rintro e w2 ⟨qf,df,qr,dr,qk,dk,q2,rfl,Fz,hb2⟩;have iC:=Fz.VL zx;have S2:=AA Fz;have N2:=AA<|N1.out.of<|hb2.block _ N1.out.lt;have s1:=AA<|DW.carry S1'.out<|BJ hb2 (by have:=N1.out.lt;omega);have b2:=AA<|XG.out.trans<|hb2.mono XG.out.size;have z2:w1.heap.size<w2.heap.size:=Ba N1.out.lt hb2.size;clear Fz hb2 b1 S1 N1 XG S1';go_wp2_with fail
 have Y9:=AA<|b2.out.alloc b2.out.size<|.cells #[.slice qf 0 df,.slice qr 0 dr,.slice qk 1 dk] 38;have NB:=AA<|N2.out.alloc<|.cells #[.slice qf 0 df,.slice qr 0 dr,.slice qk 1 dk] 38;have NC:=AA<|AJ.new w2 #[.slice qf 0 df,.slice qr 0 dr,.slice qk 1 dk] 38;have SB:=AA<|DW.carry s1.out<|Hl (.cells #[.slice qf 0 df,.slice qr 0 dr,.slice qk 1 dk] 38)<|Nat.le_of_lt z2;have SC:=AA<|DW.carry S2.out<|Hl (.cells #[.slice qf 0 df,.slice qr 0 dr,.slice qk 1 dk] 38) lr;generalize w2.alloc (.cells #[.slice qf 0 df,.slice qr 0 dr,.slice qk 1 dk] 38)=W2 at*;refine(C3.out _ Y9.out).mono ?_;rintro e w3 ⟨pp,cp,q3,rfl,hP,hb3⟩;have HA:AC (∀ u,Bl w3 u->(u.cell? ⟨w1.heap.size,0,none⟩=some (.slice pf 1 cf)/\u.cell? ⟨w1.heap.size,1,none⟩=some (.slice pr 1 cr)/\u.cell? ⟨w1.heap.size,2,none⟩=some (.slice pk 0 ck))/\(u.cell? ⟨w2.heap.size,0,none⟩=some (.slice qf 0 df)/\u.cell? ⟨w2.heap.size,1,none⟩=some (.slice qr 0 dr)/\u.cell? ⟨w2.heap.size,2,none⟩=some (.slice qk 1 dk))/\DW u.heap.size u 3 [.slice pf 1 cf,.slice pr 1 cr,.slice pk 0 ck] GA/\DW u.heap.size u 3 [.slice qf 0 df,.slice qr 0 dr,.slice qk 1 dk] Ia/\Ap 2 (Ni u.heap.size u 4) pp [bu]/\Bl w u):=⟨fun u hu=>by
  have h3:=hb3.size;have h4:=hu.size;have hl:=NC.out.lt;have hW:Bl W2 u:=hb3.trans<|hu.mono h3;have x1:=(NB.out.of<|hW.block _ NB.out.lt).three;have x2:=(NC.out.of<|hW.block _ NC.out.lt).three;have z1:=hW.size;exact⟨⟨x1.1,x1.2.1,x1.2.2.1⟩,⟨x2.1,x2.2.1,x2.2.2.1⟩,DW.carry SB.out<|Go.W.Below.carry (hW.mono zx) zx,DW.carry SC.out<|Go.W.Below.carry (hW.mono zx) zx,hP.carry fun _ _ _ r=>r.carry (Go.W.Below.carry hu h4) lr,Y9.out.trans<|hW.mono Y9.out.size⟩⟩
 obtain⟨⟨y0,y1,y2⟩,⟨x0,x1,x2⟩,_⟩:=HA.out w3<|AQ _ _;clear hP hb3;go_wp2_with fail
 refine(C4.out _ (HA.out w3<|AQ _ _).2.2.2.2.2 _ (HA.out w3<|AQ _ _).2.2.1).mono ?_;rintro e w4 ⟨rfl,hb4⟩;have H4:=AA hb4;obtain⟨⟨y0,y1,y2⟩,⟨x0,x1,x2⟩,_⟩:=HA.out w4 hb4;clear hb4;generalize ht:WM=tA;go_wp2_with fail
 have B4:Bl w4 (w4.alloc<|.cells #[.slice qf 0 df,.slice qr 0 dr,.slice qk 1 dk] 38):=(AQ _ w4).alloc lr _;have M4:=AJ.new w4 #[.slice qf 0 df,.slice qr 0 dr,.slice qk 1 dk] 38;generalize w4.alloc (.cells #[.slice qf 0 df,.slice qr 0 dr,.slice qk 1 dk] 38)=W4 at*;have jl:=AA<|H4.out.trans<|B4.mono H4.out.size;have R4:Ap 3 (Jl W4.heap.size W4 4) (Qb w4.heap.size 0) [Ia]:=wu (DW.at (HA.out W4 jl.out).2.2.2.1 (Dy.up lr) M4.lt fun j _=>by rw[Hr];exact(M4.cell j).trans<|Qz ..);refine(ht▸C5.out _ (HA.out W4 jl.out).2.2.2.2.2 iB _ 1 R4).mono ?_;rintro e w5 ⟨rfl,Bf⟩;have H5:=AA<|jl.out.trans<|Bf.mono jl.out.size;obtain⟨⟨y0,y1,y2⟩,⟨x0,x1,x2⟩,_⟩:=HA.out w5 H5.out;clear Bf R4 M4 B4 jl;generalize dx:U2=tB;go_wp2_with fail
 refine(dx▸C6.out _ (HA.out w5 H5.out).2.2.2.2.2 iB iC _ cp (HA.out w5 H5.out).2.2.2.2.1).mono ?_;rintro e w6 ⟨rfl,Gs⟩;have H6:=AA<|H5.out.trans<|Gs.mono H5.out.size;obtain⟨⟨y0,y1,y2⟩,⟨x0,x1,x2⟩,_⟩:=HA.out w6 H6.out;clear Gs;go_wp2
 go_ret
 exact⟨rfl,(HA.out w6 H6.out).2.2.2.2.2⟩
end
end Go.P
namespace Go.P
variable {K B D b c:Nat}{first cap:Array Value}{sp s:ByteArray}{w:World}{p:Option Addr}{f:A->By}{xs:List A}
def Zhs (hen:Bj K){f:T->By}{xs:List T}(h:Ak 78 B b s w)(hs:s.size+(Ar (bl sp) f xs).length<999000000)(hrow:Ap 4 (D6 B w<|D+1) p xs)(hB:B<=w.heap.size)
  (HC: ∀ u vs x s',x∈xs->Ak 78 B b s' u->Fr B b w u->Dn B u D vs x->s'.size+(f x).length<999000000->Calls prog K (first.push (.agg vs.toArray)++cap) u (Df 78 B b (s'++ba (f x)) u)):
  Calls prog 103 #[.pointer<|Qb b 0,.string sp,.slice p xs.length c,.func (.func K) first cap] w (Df 78 B b (s++ba (Ar (bl sp) f xs)) w):=by
 have hl:=hrow.len;have HR:=AA hrow;have HH:=AA HC;have H0:=AA h;have Cb: ∀ args w,(callFunc K args).run prog w= .ok (.enter K args) w:=hen;clear hrow HC hen h;go_in
 go_wp2
 go_loopw [12] (fun iv wr=>XJ 78 B b s (Ar (bl sp) f) w xs iv wr) (fun iv _=>xs.length-(intOf iv).toNat)
 case atStart=>exact⟨0,zx,rfl,by simpa[Ed,Ar,Xa]using H0.out,Fr.refl _ _ _⟩
 case round=>
  obtain⟨q,hq,rfl,hbl,AX⟩:=hrel;have HB:=AA<|AF hbl AX;by_cases hlt:q<xs.length
  ·obtain⟨b1,o1,rfl,hx⟩:=HR.out.get q hlt;have hm:xs[q]∈xs:=KV hlt;obtain⟨hb1,p1,c1,k0,k1,k2,k3,hS⟩:=(hx.carry (Go.W.Below.carry AX.below lr) lr).vals;have hsz:=AU hB AX.size;have FD:=AA<|mO (bl sp) f hlt;have LE:=lZ (bl sp) f xs<|q+1;rw[FD.out,Bq,Bq]at LE;by_cases Hw:q=0
   ·rw[if_pos Hw]at FD LE;have HQ:=AA Hw;have CC:=AA<|HH.out _ _ _ _ hm (hbl.alloc<|.cells #[.int .i64 xs[q].k,.int .i64 xs[q].i,.string xs[q].t,.slice p1 xs[q].l.length c1] 100) (AX.alloc hsz _) (Dn.carry hS<|Hl _ hsz) (by rw[Ae,Bh];simp at LE;omega);have JW: ¬ 0<(q:Int):=zx
    clear hbl AX hx hm hS HH Hw;go_wp2_with fail
    refine CC.out.mono ?_;rintro e w2 ⟨rfl,hb2,hw2⟩;have R:=AA<|AF hb2<|(HB.out.2.alloc hsz _).trans hw2;clear hb2 hw2 CC;go_wp2
    go_roundw
    case rel=>exact⟨q+1,zx,by go_num,by rw[FD.out,FK,Dz,<- Bw];exact R.out.1,R.out.2⟩
    case measure=>simp[intOf];omega
   ·rw[if_neg Hw]at FD LE;have JW:0<(q:Int):=zx
    have CS:=AA<|KT FX (hbl.alloc<|.cells #[.int .i64 xs[q].k,.int .i64 xs[q].i,.string xs[q].t,.slice p1 xs[q].l.length c1] 100) sp (by rw[Ae,Bh];rw[IR]at LE;omega)<|AU hsz zw;have M:=AA<|AJ.new wr #[.int .i64 xs[q].k,.int .i64 xs[q].i,.string xs[q].t,.slice p1 xs[q].l.length c1] 100;have F1:=AA<|AX.alloc hsz<|.cells #[.int .i64 xs[q].k,.int .i64 xs[q].i,.string xs[q].t,.slice p1 xs[q].l.length c1] 100;have hbr:b<wr.heap.size:=by obtain⟨_,_,_,q,_,_⟩:=hbl.form;exact q.lt
    clear hbl AX;go_wp2_with fail
    refine CS.out.mono ?_;rintro e w1 ⟨rfl,Ip,Ag⟩;have F2:=AA<|F1.out.trans Ag;have Dl:=Ag.blk M.out zx zu;have y0:w1.cell? ⟨wr.heap.size,0,none⟩=some (.int .i64 xs[q].k):=Dl.cell 0;have y1:w1.cell? ⟨wr.heap.size,1,none⟩=some (.int .i64 xs[q].i):=Dl.cell 1;have y2:w1.cell? ⟨wr.heap.size,2,none⟩=some (.string xs[q].t):=Dl.cell 2;have y3:w1.cell? ⟨wr.heap.size,3,none⟩=some (.slice p1 xs[q].l.length c1):=Dl.cell 3;have CC:=AA<|HH.out _ _ _ _ hm Ip F2.out (Dn.carry (Dn.carry hS<|Hl _ hsz)<|Go.W.Below.carry Ag.below lr) (by rw[Ae,Ae,Bh];rw[IR]at LE;omega);clear Ip Ag hx hm hS HH CS M F1 Dl;go_wp2_with fail
    refine CC.out.mono ?_;rintro e w2 ⟨rfl,hb2,hw2⟩;have R:=AA<|AF hb2<|F2.out.trans hw2;clear hb2 hw2 CC F2;go_wp2
    go_roundw
    case rel=>exact⟨q+1,zx,by go_num,by rw[FD.out,Dz,Dz,IQ,<- Bw,<- Bw];exact R.out.1,R.out.2⟩
    case measure=>simp[intOf];omega
  ·obtain rfl:q=xs.length:=zx
   rw[JQ]at hbl;have Ce:=AA<|AF hbl AX;clear hbl AX HB;go_wp2
   go_end0
   exact⟨rfl,Ce.out.1,Ce.out.2⟩
def Zp5 (hen:Bj K)(h:Ak 78 B b s w)(hs:s.size+(Ed f xs).length<999000000)(hrow:Ap 2 (DX B w<|D+1) p xs)(hB:B<=w.heap.size)
  (HC: ∀ u vs x s',x∈xs->Ak 78 B b s' u->Fr B b w u->FM B u D vs x->s'.size+(f x).length<999000000->Calls prog K (first.push (.agg vs.toArray)++cap) u (Df 78 B b (s'++ba (f x)) u)):
  Calls prog 50 #[.pointer<|Qb b 0,.slice p xs.length c,.func (.func K) first cap] w (Df 78 B b (s++ba (Ed f xs)) w):=by
 have hl:=hrow.len;have HR:=AA hrow;have HH:=AA HC;have H0:=AA h;have Cb: ∀ args w,(callFunc K args).run prog w= .ok (.enter K args) w:=hen;clear hrow HC hen h;go_in
 go_wp2
 go_loopw [10] (fun iv wr=>XJ 78 B b s (Ed f) w xs iv wr) (fun iv _=>xs.length-(intOf iv).toNat)
 case atStart=>exact⟨0,zx,rfl,by simpa[Ed,Ar,Xa]using H0.out,Fr.refl _ _ _⟩
 case round=>
  obtain⟨q,hq,rfl,hbl,AX⟩:=hrel;have HB:=AA<|AF hbl AX;by_cases hlt:q<xs.length
  ·obtain⟨b1,o1,rfl,hx⟩:=HR.out.get q hlt;have hm:xs[q]∈xs:=KV hlt;obtain⟨hb1,p1,c1,k0,k1,hS⟩:=(hx.carry (Go.W.Below.carry AX.below lr) lr).vals;have hsz:=AU hB AX.size;have FD:=AA<|vY f hlt;have LE:=uP f xs<|q+1;rw[FD.out,Bq,Bq]at LE;have CC:=AA<|HH.out _ _ _ _ hm (hbl.alloc<|.cells #[.string xs[q].name,.slice p1 xs[q].terms.length c1] 95) (AX.alloc hsz _) (FM.carry hS<|Hl _ hsz) (by rw[Ae,Bh];omega);have e59:([(59:UInt8),10]:By).length=2:=rfl;clear hbl AX hx hm hS HH;go_wp2_with fail
   refine CC.out.mono ?_;rintro e w2 ⟨rfl,hb2,hw2⟩;have R:=AA<|AF hb2<|(HB.out.2.alloc hsz _).trans hw2;have CS:=AA<|KT FX hb2 (ba [59,10]) (by rw[Ae,Ae,Bh,Bh,Bh];omega)<|AU hB R.out.2.size;clear hb2 hw2 CC;go_wp2_with fail
   refine CS.out.mono ?_;rintro e w3 ⟨rfl,hb3,hw3⟩;have R3:=AA<|AF hb3<|R.out.2.trans hw3;clear hb3 hw3 CS R;go_wp2
   go_roundw
   case rel=>exact⟨q+1,zx,by go_num,by rw[FD.out,Dz,Dz,<- Bw,<- Bw];exact R3.out.1,R3.out.2⟩
   case measure=>simp[intOf];omega
  ·obtain rfl:q=xs.length:=zx
   rw[JQ]at hbl;have Ce:=AA<|AF hbl AX;clear hbl AX HB;go_wp2
   go_end0
   exact⟨rfl,Ce.out.1,Ce.out.2⟩
def Zmt (hen:Bj K)(h:Ak 78 B b s w)(hs:s.size+(Ar (bl sp) f xs).length<999000000)(hrow:Ap 2 (DX B w<|D+1) p xs)(hB:B<=w.heap.size)
  (HC: ∀ u vs x s',x∈xs->Ak 78 B b s' u->Fr B b w u->FM B u D vs x->s'.size+(f x).length<999000000->Calls prog K (first.push (.agg vs.toArray)++cap) u (Df 78 B b (s'++ba (f x)) u)):
  Calls prog 157 #[.pointer<|Qb b 0,.string sp,.slice p xs.length c,.func (.func K) first cap] w (Df 78 B b (s++ba (Ar (bl sp) f xs)) w):=by
 have hl:=hrow.len;have HR:=AA hrow;have HH:=AA HC;have H0:=AA h;have Cb: ∀ args w,(callFunc K args).run prog w= .ok (.enter K args) w:=hen;clear hrow HC hen h;go_in
 go_wp2
 go_loopw [12] (fun iv wr=>XJ 78 B b s (Ar (bl sp) f) w xs iv wr) (fun iv _=>xs.length-(intOf iv).toNat)
 case atStart=>exact⟨0,zx,rfl,by simpa[Ed,Ar,Xa]using H0.out,Fr.refl _ _ _⟩
 case round=>
  obtain⟨q,hq,rfl,hbl,AX⟩:=hrel;have HB:=AA<|AF hbl AX;by_cases hlt:q<xs.length
  ·obtain⟨b1,o1,rfl,hx⟩:=HR.out.get q hlt;have hm:xs[q]∈xs:=KV hlt;obtain⟨hb1,p1,c1,k0,k1,hS⟩:=(hx.carry (Go.W.Below.carry AX.below lr) lr).vals;have hsz:=AU hB AX.size;have FD:=AA<|mO (bl sp) f hlt;have LE:=lZ (bl sp) f xs<|q+1;rw[FD.out,Bq,Bq]at LE;by_cases Hw:q=0
   ·rw[if_pos Hw]at FD LE;have HQ:=AA Hw;have CC:=AA<|HH.out _ _ _ _ hm (hbl.alloc<|.cells #[.string xs[q].name,.slice p1 xs[q].terms.length c1] 95) (AX.alloc hsz _) (FM.carry hS<|Hl _ hsz) (by rw[Ae,Bh];simp at LE;omega);have JW: ¬ 0<(q:Int):=zx
    clear hbl AX hx hm hS HH Hw;go_wp2_with fail
    refine CC.out.mono ?_;rintro e w2 ⟨rfl,hb2,hw2⟩;have R:=AA<|AF hb2<|(HB.out.2.alloc hsz _).trans hw2;clear hb2 hw2 CC;go_wp2
    go_roundw
    case rel=>exact⟨q+1,zx,by go_num,by rw[FD.out,FK,Dz,<- Bw];exact R.out.1,R.out.2⟩
    case measure=>simp[intOf];omega
   ·rw[if_neg Hw]at FD LE;have JW:0<(q:Int):=zx
    have CS:=AA<|KT FX (hbl.alloc<|.cells #[.string xs[q].name,.slice p1 xs[q].terms.length c1] 95) sp (by rw[Ae,Bh];rw[IR]at LE;omega)<|AU hsz zw;have M:=AA<|AJ.new wr #[.string xs[q].name,.slice p1 xs[q].terms.length c1] 95;have F1:=AA<|AX.alloc hsz<|.cells #[.string xs[q].name,.slice p1 xs[q].terms.length c1] 95;have hbr:b<wr.heap.size:=by obtain⟨_,_,_,q,_,_⟩:=hbl.form;exact q.lt
    clear hbl AX;go_wp2_with fail
    refine CS.out.mono ?_;rintro e w1 ⟨rfl,Ip,Ag⟩;have F2:=AA<|F1.out.trans Ag;have Dl:=Ag.blk M.out zx zu;have y0:w1.cell? ⟨wr.heap.size,0,none⟩=some (.string xs[q].name):=Dl.cell 0;have y1:w1.cell? ⟨wr.heap.size,1,none⟩=some (.slice p1 xs[q].terms.length c1):=Dl.cell 1;have CC:=AA<|HH.out _ _ _ _ hm Ip F2.out (FM.carry (FM.carry hS<|Hl _ hsz)<|Go.W.Below.carry Ag.below lr) (by rw[Ae,Ae,Bh];rw[IR]at LE;omega);clear Ip Ag hx hm hS HH CS M F1 Dl;go_wp2_with fail
    refine CC.out.mono ?_;rintro e w2 ⟨rfl,hb2,hw2⟩;have R:=AA<|AF hb2<|F2.out.trans hw2;clear hb2 hw2 CC F2;go_wp2
    go_roundw
    case rel=>exact⟨q+1,zx,by go_num,by rw[FD.out,Dz,Dz,IQ,<- Bw,<- Bw];exact R.out.1,R.out.2⟩
    case measure=>simp[intOf];omega
  ·obtain rfl:q=xs.length:=zx
   rw[JQ]at hbl;have Ce:=AA<|AF hbl AX;clear hbl AX HB;go_wp2
   go_end0
   exact⟨rfl,Ce.out.1,Ce.out.2⟩
def Zlt (hen:Bj K){f:G->By}{xs:List G}(h:Ak 78 B b s w)(hs:s.size+(Ar (bl sp) f xs).length<999000000)(hrow:Ap 9 (JN B w<|D+1) p xs)(hB:B<=w.heap.size)
  (HC: ∀ u vs x s',x∈xs->Ak 78 B b s' u->Fr B b w u->LY B u D vs x->s'.size+(f x).length<999000000->Calls prog K (first.push (.agg vs.toArray)++cap) u (Df 78 B b (s'++ba (f x)) u)):
  Calls prog 158 #[.pointer<|Qb b 0,.string sp,.slice p xs.length c,.func (.func K) first cap] w (Df 78 B b (s++ba (Ar (bl sp) f xs)) w):=by
 have hl:=hrow.len;have HR:=AA hrow;have HH:=AA HC;have H0:=AA h;have Cb: ∀ args w,(callFunc K args).run prog w= .ok (.enter K args) w:=hen;clear hrow HC hen h;go_in
 go_wp2
 go_loopw [12] (fun iv wr=>XJ 78 B b s (Ar (bl sp) f) w xs iv wr) (fun iv _=>xs.length-(intOf iv).toNat)
 case atStart=>exact⟨0,zx,rfl,by simpa[Ed,Ar,Xa]using H0.out,Fr.refl _ _ _⟩
 case round=>
  obtain⟨q,hq,rfl,hbl,AX⟩:=hrel;have HB:=AA<|AF hbl AX;by_cases hlt:q<xs.length
  ·obtain⟨b1,o1,rfl,hx⟩:=HR.out.get q hlt;have hm:xs[q]∈xs:=KV hlt;obtain⟨hb1,p1,c1,p2,c2,k0,k1,k2,k3,k4,k5,k6,k7,k8,hS⟩:=(hx.carry (Go.W.Below.carry AX.below lr) lr).vals;have hsz:=AU hB AX.size;have FD:=AA<|mO (bl sp) f hlt;have LE:=lZ (bl sp) f xs<|q+1;rw[FD.out,Bq,Bq]at LE;by_cases Hw:q=0
   ·rw[if_pos Hw]at FD LE;have HQ:=AA Hw;have CC:=AA<|HH.out _ _ _ _ hm (hbl.alloc<|.cells #[.int .i64 xs[q].op,.int .i64 xs[q].a.k,.int .i64 xs[q].a.i,.string xs[q].a.t,.slice p1 xs[q].a.l.length c1,.int .i64 xs[q].b.k,.int .i64 xs[q].b.i,.string xs[q].b.t,.slice p2 xs[q].b.l.length c2] 102) (AX.alloc hsz _) (LY.carry hS<|Hl _ hsz) (by rw[Ae,Bh];simp at LE;omega);have JW: ¬ 0<(q:Int):=zx
    clear hbl AX hx hm hS HH Hw;go_wp2_with fail
    refine CC.out.mono ?_;rintro e w2 ⟨rfl,hb2,hw2⟩;have R:=AA<|AF hb2<|(HB.out.2.alloc hsz _).trans hw2;clear hb2 hw2 CC;go_wp2
    go_roundw
    case rel=>exact⟨q+1,zx,by go_num,by rw[FD.out,FK,Dz,<- Bw];exact R.out.1,R.out.2⟩
    case measure=>simp[intOf];omega
   ·rw[if_neg Hw]at FD LE;have JW:0<(q:Int):=zx
    have CS:=AA<|KT FX (hbl.alloc<|.cells #[.int .i64 xs[q].op,.int .i64 xs[q].a.k,.int .i64 xs[q].a.i,.string xs[q].a.t,.slice p1 xs[q].a.l.length c1,.int .i64 xs[q].b.k,.int .i64 xs[q].b.i,.string xs[q].b.t,.slice p2 xs[q].b.l.length c2] 102) sp (by rw[Ae,Bh];rw[IR]at LE;omega)<|AU hsz zw;have M:=AA<|AJ.new wr #[.int .i64 xs[q].op,.int .i64 xs[q].a.k,.int .i64 xs[q].a.i,.string xs[q].a.t,.slice p1 xs[q].a.l.length c1,.int .i64 xs[q].b.k,.int .i64 xs[q].b.i,.string xs[q].b.t,.slice p2 xs[q].b.l.length c2] 102;have F1:=AA<|AX.alloc hsz<|.cells #[.int .i64 xs[q].op,.int .i64 xs[q].a.k,.int .i64 xs[q].a.i,.string xs[q].a.t,.slice p1 xs[q].a.l.length c1,.int .i64 xs[q].b.k,.int .i64 xs[q].b.i,.string xs[q].b.t,.slice p2 xs[q].b.l.length c2] 102;have hbr:b<wr.heap.size:=by obtain⟨_,_,_,q,_,_⟩:=hbl.form;exact q.lt
    clear hbl AX;go_wp2_with fail
    refine CS.out.mono ?_;rintro e w1 ⟨rfl,Ip,Ag⟩;have F2:=AA<|F1.out.trans Ag;have Dl:=Ag.blk M.out zx zu;have y0:w1.cell? ⟨wr.heap.size,0,none⟩=some (.int .i64 xs[q].op):=Dl.cell 0;have y1:w1.cell? ⟨wr.heap.size,1,none⟩=some (.int .i64 xs[q].a.k):=Dl.cell 1;have y2:w1.cell? ⟨wr.heap.size,2,none⟩=some (.int .i64 xs[q].a.i):=Dl.cell 2;have y3:w1.cell? ⟨wr.heap.size,3,none⟩=some (.string xs[q].a.t):=Dl.cell 3;have y4:w1.cell? ⟨wr.heap.size,4,none⟩=some (.slice p1 xs[q].a.l.length c1):=Dl.cell 4;have y5:w1.cell? ⟨wr.heap.size,5,none⟩=some (.int .i64 xs[q].b.k):=Dl.cell 5;have y6:w1.cell? ⟨wr.heap.size,6,none⟩=some (.int .i64 xs[q].b.i):=Dl.cell 6;have y7:w1.cell? ⟨wr.heap.size,7,none⟩=some (.string xs[q].b.t):=Dl.cell 7;have y8:w1.cell? ⟨wr.heap.size,8,none⟩=some (.slice p2 xs[q].b.l.length c2):=Dl.cell 8;have CC:=AA<|HH.out _ _ _ _ hm Ip F2.out (LY.carry (LY.carry hS<|Hl _ hsz)<|Go.W.Below.carry Ag.below lr) (by rw[Ae,Ae,Bh];rw[IR]at LE;omega);clear Ip Ag hx hm hS HH CS M F1 Dl;go_wp2_with fail
    refine CC.out.mono ?_;rintro e w2 ⟨rfl,hb2,hw2⟩;have R:=AA<|AF hb2<|F2.out.trans hw2;clear hb2 hw2 CC F2;go_wp2
    go_roundw
    case rel=>exact⟨q+1,zx,by go_num,by rw[FD.out,Dz,Dz,IQ,<- Bw,<- Bw];exact R.out.1,R.out.2⟩
    case measure=>simp[intOf];omega
  ·obtain rfl:q=xs.length:=zx
   rw[JQ]at hbl;have Ce:=AA<|AF hbl AX;clear hbl AX HB;go_wp2
   go_end0
   exact⟨rfl,Ce.out.1,Ce.out.2⟩
def Zp6 (hen:Bj K){f:R->By}{xs:List R}(h:Ak 78 B b s w)(hs:s.size+(Ed f xs).length<999000000)(hrow:Ap 4 (E5 B w<|D+1) p xs)(hB:B<=w.heap.size)
  (HC: ∀ u vs x s',x∈xs->Ak 78 B b s' u->Fr B b w u->GR B u D vs x->s'.size+(f x).length<999000000->Calls prog K (first.push (.agg vs.toArray)++cap) u (Df 78 B b (s'++ba (f x)) u)):
  Calls prog 52 #[.pointer<|Qb b 0,.slice p xs.length c,.func (.func K) first cap] w (Df 78 B b (s++ba (Ed f xs)) w):=by
 have hl:=hrow.len;have HR:=AA hrow;have HH:=AA HC;have H0:=AA h;have Cb: ∀ args w,(callFunc K args).run prog w= .ok (.enter K args) w:=hen;clear hrow HC hen h;go_in
 go_wp2
 go_loopw [10] (fun iv wr=>XJ 78 B b s (Ed f) w xs iv wr) (fun iv _=>xs.length-(intOf iv).toNat)
 case atStart=>exact⟨0,zx,rfl,by simpa[Ed,Ar,Xa]using H0.out,Fr.refl _ _ _⟩
 case round=>
  obtain⟨q,hq,rfl,hbl,AX⟩:=hrel;have HB:=AA<|AF hbl AX;by_cases hlt:q<xs.length
  ·obtain⟨b1,o1,rfl,hx⟩:=HR.out.get q hlt;have hm:xs[q]∈xs:=KV hlt;obtain⟨hb1,p1,c1,p2,c2,p3,c3,k0,k1,k2,k3,hS⟩:=(hx.carry (Go.W.Below.carry AX.below lr) lr).vals;have hsz:=AU hB AX.size;have FD:=AA<|vY f hlt;have LE:=uP f xs<|q+1;rw[FD.out,Bq,Bq]at LE;have CC:=AA<|HH.out _ _ _ _ hm (hbl.alloc<|.cells #[.string xs[q].head.name,.slice p1 xs[q].head.terms.length c1,.slice p2 xs[q].body.length c2,.slice p3 xs[q].guards.length c3] 98) (AX.alloc hsz _) (GR.carry hS<|Hl _ hsz) (by rw[Ae,Bh];omega);have e59:([(59:UInt8),10]:By).length=2:=rfl;clear hbl AX hx hm hS HH;go_wp2_with fail
   refine CC.out.mono ?_;rintro e w2 ⟨rfl,hb2,hw2⟩;have R:=AA<|AF hb2<|(HB.out.2.alloc hsz _).trans hw2;have CS:=AA<|KT FX hb2 (ba [59,10]) (by rw[Ae,Ae,Bh,Bh,Bh];omega)<|AU hB R.out.2.size;clear hb2 hw2 CC;go_wp2_with fail
   refine CS.out.mono ?_;rintro e w3 ⟨rfl,hb3,hw3⟩;have R3:=AA<|AF hb3<|R.out.2.trans hw3;clear hb3 hw3 CS R;go_wp2
   go_roundw
   case rel=>exact⟨q+1,zx,by go_num,by rw[FD.out,Dz,Dz,<- Bw,<- Bw];exact R3.out.1,R3.out.2⟩
   case measure=>simp[intOf];omega
  ·obtain rfl:q=xs.length:=zx
   rw[JQ]at hbl;have Ce:=AA<|AF hbl AX;clear hbl AX HB;go_wp2
   go_end0
   exact⟨rfl,Ce.out.1,Ce.out.2⟩
def Zmu (hen:Bj K){f:R->By}{xs:List R}(h:Ak 78 B b s w)(hs:s.size+(Ar (bl sp) f xs).length<999000000)(hrow:Ap 4 (E5 B w<|D+1) p xs)(hB:B<=w.heap.size)
  (HC: ∀ u vs x s',x∈xs->Ak 78 B b s' u->Fr B b w u->GR B u D vs x->s'.size+(f x).length<999000000->Calls prog K (first.push (.agg vs.toArray)++cap) u (Df 78 B b (s'++ba (f x)) u)):
  Calls prog 106 #[.pointer<|Qb b 0,.string sp,.slice p xs.length c,.func (.func K) first cap] w (Df 78 B b (s++ba (Ar (bl sp) f xs)) w):=by
 have hl:=hrow.len;have HR:=AA hrow;have HH:=AA HC;have H0:=AA h;have Cb: ∀ args w,(callFunc K args).run prog w= .ok (.enter K args) w:=hen;clear hrow HC hen h;go_in
 go_wp2
 go_loopw [12] (fun iv wr=>XJ 78 B b s (Ar (bl sp) f) w xs iv wr) (fun iv _=>xs.length-(intOf iv).toNat)
 case atStart=>exact⟨0,zx,rfl,by simpa[Ed,Ar,Xa]using H0.out,Fr.refl _ _ _⟩
 case round=>
  obtain⟨q,hq,rfl,hbl,AX⟩:=hrel;have HB:=AA<|AF hbl AX;by_cases hlt:q<xs.length
  ·obtain⟨b1,o1,rfl,hx⟩:=HR.out.get q hlt;have hm:xs[q]∈xs:=KV hlt;obtain⟨hb1,p1,c1,p2,c2,p3,c3,k0,k1,k2,k3,hS⟩:=(hx.carry (Go.W.Below.carry AX.below lr) lr).vals;have hsz:=AU hB AX.size;have FD:=AA<|mO (bl sp) f hlt;have LE:=lZ (bl sp) f xs<|q+1;rw[FD.out,Bq,Bq]at LE;by_cases Hw:q=0
   ·rw[if_pos Hw]at FD LE;have HQ:=AA Hw;have CC:=AA<|HH.out _ _ _ _ hm (hbl.alloc<|.cells #[.string xs[q].head.name,.slice p1 xs[q].head.terms.length c1,.slice p2 xs[q].body.length c2,.slice p3 xs[q].guards.length c3] 98) (AX.alloc hsz _) (GR.carry hS<|Hl _ hsz) (by rw[Ae,Bh];simp at LE;omega);have JW: ¬ 0<(q:Int):=zx
    clear hbl AX hx hm hS HH Hw;go_wp2_with fail
    refine CC.out.mono ?_;rintro e w2 ⟨rfl,hb2,hw2⟩;have R:=AA<|AF hb2<|(HB.out.2.alloc hsz _).trans hw2;clear hb2 hw2 CC;go_wp2
    go_roundw
    case rel=>exact⟨q+1,zx,by go_num,by rw[FD.out,FK,Dz,<- Bw];exact R.out.1,R.out.2⟩
    case measure=>simp[intOf];omega
   ·rw[if_neg Hw]at FD LE;have JW:0<(q:Int):=zx
    have CS:=AA<|KT FX (hbl.alloc<|.cells #[.string xs[q].head.name,.slice p1 xs[q].head.terms.length c1,.slice p2 xs[q].body.length c2,.slice p3 xs[q].guards.length c3] 98) sp (by rw[Ae,Bh];rw[IR]at LE;omega)<|AU hsz zw;have M:=AA<|AJ.new wr #[.string xs[q].head.name,.slice p1 xs[q].head.terms.length c1,.slice p2 xs[q].body.length c2,.slice p3 xs[q].guards.length c3] 98;have F1:=AA<|AX.alloc hsz<|.cells #[.string xs[q].head.name,.slice p1 xs[q].head.terms.length c1,.slice p2 xs[q].body.length c2,.slice p3 xs[q].guards.length c3] 98;have hbr:b<wr.heap.size:=by obtain⟨_,_,_,q,_,_⟩:=hbl.form;exact q.lt
    clear hbl AX;go_wp2_with fail
    refine CS.out.mono ?_;rintro e w1 ⟨rfl,Ip,Ag⟩;have F2:=AA<|F1.out.trans Ag;have Dl:=Ag.blk M.out zx zu;have y0:w1.cell? ⟨wr.heap.size,0,none⟩=some (.string xs[q].head.name):=Dl.cell 0;have y1:w1.cell? ⟨wr.heap.size,1,none⟩=some (.slice p1 xs[q].head.terms.length c1):=Dl.cell 1;have y2:w1.cell? ⟨wr.heap.size,2,none⟩=some (.slice p2 xs[q].body.length c2):=Dl.cell 2;have y3:w1.cell? ⟨wr.heap.size,3,none⟩=some (.slice p3 xs[q].guards.length c3):=Dl.cell 3;have CC:=AA<|HH.out _ _ _ _ hm Ip F2.out (GR.carry (GR.carry hS<|Hl _ hsz)<|Go.W.Below.carry Ag.below lr) (by rw[Ae,Ae,Bh];rw[IR]at LE;omega);clear Ip Ag hx hm hS HH CS M F1 Dl;go_wp2_with fail
    refine CC.out.mono ?_;rintro e w2 ⟨rfl,hb2,hw2⟩;have R:=AA<|AF hb2<|F2.out.trans hw2;clear hb2 hw2 CC F2;go_wp2
    go_roundw
    case rel=>exact⟨q+1,zx,by go_num,by rw[FD.out,Dz,Dz,IQ,<- Bw,<- Bw];exact R.out.1,R.out.2⟩
    case measure=>simp[intOf];omega
  ·obtain rfl:q=xs.length:=zx
   rw[JQ]at hbl;have Ce:=AA<|AF hbl AX;clear hbl AX HB;go_wp2
   go_end0
   exact⟨rfl,Ce.out.1,Ce.out.2⟩
def Zoa (hen:Bj K){f:(List R)->By}{xs:List (List R)}(h:Ak 78 B b s w)(hs:s.size+(Ed f xs).length<999000000)(hrow:Ap 1 (Go.W.Qo B w<|D+1) p xs)(hB:B<=w.heap.size)
  (HC: ∀ u vs x s',x∈xs->Ak 78 B b s' u->Fr B b w u->P6 B u D vs x->s'.size+(f x).length<999000000->Calls prog K (first.push (.agg vs.toArray)++cap) u (Df 78 B b (s'++ba (f x)) u)):
  Calls prog 54 #[.pointer<|Qb b 0,.slice p xs.length c,.func (.func K) first cap] w (Df 78 B b (s++ba (Ed f xs)) w):=by
 have hl:=hrow.len;have HR:=AA hrow;have HH:=AA HC;have H0:=AA h;have Cb: ∀ args w,(callFunc K args).run prog w= .ok (.enter K args) w:=hen;clear hrow HC hen h;go_in
 go_wp2
 go_loopw [10] (fun iv wr=>XJ 78 B b s (Ed f) w xs iv wr) (fun iv _=>xs.length-(intOf iv).toNat)
 case atStart=>exact⟨0,zx,rfl,by simpa[Ed,Ar,Xa]using H0.out,Fr.refl _ _ _⟩
 case round=>
  obtain⟨q,hq,rfl,hbl,AX⟩:=hrel;have HB:=AA<|AF hbl AX;by_cases hlt:q<xs.length
  ·obtain⟨b1,o1,rfl,hx⟩:=HR.out.get q hlt;have hm:xs[q]∈xs:=KV hlt;obtain⟨hb1,p1,c1,k0,hS⟩:=(hx.carry (Go.W.Below.carry AX.below lr) lr).vals;have hsz:=AU hB AX.size;rw[Nat.mul_one]at k0;have FD:=AA<|vY f hlt;have LE:=uP f xs<|q+1;rw[FD.out,Bq,Bq]at LE;have CC:=AA<|HH.out _ _ _ _ hm (hbl.alloc<|.cells #[.slice p1 xs[q].length c1] 65) (AX.alloc hsz _) (P6.carry hS<|Hl _ hsz) (by rw[Ae,Bh];omega);have e59:([(59:UInt8),10]:By).length=2:=rfl;clear hbl AX hx hm hS HH;go_wp2_with fail
   refine CC.out.mono ?_;rintro e w2 ⟨rfl,hb2,hw2⟩;have R:=AA<|AF hb2<|(HB.out.2.alloc hsz _).trans hw2;have CS:=AA<|KT FX hb2 (ba [59,10]) (by rw[Ae,Ae,Bh,Bh,Bh];omega)<|AU hB R.out.2.size;clear hb2 hw2 CC;go_wp2_with fail
   refine CS.out.mono ?_;rintro e w3 ⟨rfl,hb3,hw3⟩;have R3:=AA<|AF hb3<|R.out.2.trans hw3;clear hb3 hw3 CS R;go_wp2
   go_roundw
   case rel=>exact⟨q+1,zx,by go_num,by rw[FD.out,Dz,Dz,<- Bw,<- Bw];exact R3.out.1,R3.out.2⟩
   case measure=>simp[intOf];omega
  ·obtain rfl:q=xs.length:=zx
   rw[JQ]at hbl;have Ce:=AA<|AF hbl AX;clear hbl AX HB;go_wp2
   go_end0
   exact⟨rfl,Ce.out.1,Ce.out.2⟩
end Go.P
namespace Go.P
variable {w u:World}{B:Nat}
def Zwn {n:Nat}{e:TypeId}{v:Value}{xs:List Value}(h:w.ownsRow B e 1 v n xs)(hb:Bl w u):u.ownsRow B e 1 v n xs:=by
 refine⟨h.1,?_⟩;rcases h.2 with h0 | ⟨g,cap,cur,h1,h2,h3,h4⟩
 ·exact Or.inl h0
 ·exact Or.inr ⟨g,cap,cur,h1,h2,(hb.block g (IU.1 h3).1).trans h3,h4⟩
def Ak.later {T b:Nat}{s:ByteArray}(h:Ak T B b s w)(hb:Bl w u)(hB:B<=w.heap.size):Ak T B b s u/\Fr B b w u:=by
 refine⟨?_,hb.mono hB,fun k cs t fz _ _ q=>(hb.block k (IU.1 q).1).trans q⟩;rcases h with⟨JY,v,DT,hown,hne⟩ | ⟨JY,v,DT,hown,hne⟩
 ·exact Or.inl ⟨JY,v,(hb.block b (IU.1 DT).1).trans DT,Zwn hown hb,hne⟩
 ·exact Or.inr ⟨JY,v,(hb.block b (IU.1 DT).1).trans DT,Zwn hown hb,hne⟩
def Znh:Bj 104:=DL func104 zt rfl
def Zh (d:Nat):Prop:= ∀ {a:Nat->Addr} {B D b:Nat} {s:ByteArray} {w:World} {vs:List Value} {x:T},Aa a w->Oa w->23<=B->Ak 78 B b s w->B<=w.heap.size->Dn B w D vs x->A9 d x=0->s.size+(BM x).length<999000000->Calls prog 104 #[.pointer<|Qb b 0,.agg vs.toArray] w (Df 78 B b (s++ba (BM x)) w)
def Yab (x:T):BM x=if x.k=1 then 36::bl x.t else if x.k=2 then Lib.itoa x.i else if x.k=3 then 34::((bl x.t).flatMap Em++[34])else if x.k=4 then 104::101::120::58::(bl x.t).flatMap Hz else if x.k=5 then 64::Lib.itoa x.i else if x.k=6 then(if x.i=1 then H7 else PN)else 91::(Ar [44,32] BM x.l++[93]):=by
 cases x;rw[BM,uk];rfl
def nC {d:Nat}(hd:d<=3)(ih:d<3->Zh (d+1)):Zh d:=by
 intro a B D b s w vs x Z PW hg h hB hS Az hs;obtain⟨Ej,h6,DN,hk⟩:=Xy Az;obtain⟨p,c,rfl,ht,Io,Ox,hc,hrow⟩:=hS;have P:=AA<|Yab x;have B0:=AA<|(Fr.refl B b w).alloc hB<|.cells #[.int .i64 x.k,.int .i64 x.i,.string x.t,.slice p x.l.length c] 100;have H0:=AA<|h.alloc<|.cells #[.int .i64 x.k,.int .i64 x.i,.string x.t,.slice p x.l.length c] 100;have AX:b<w.heap.size:=by obtain⟨_,_,_,q,_,_⟩:=h.form;exact q.lt
 have L0:=AA<|AJ.new w #[.int .i64 x.k,.int .i64 x.i,.string x.t,.slice p x.l.length c] 100;have Ew:B<=(w.alloc<|.cells #[.int .i64 x.k,.int .i64 x.i,.string x.t,.slice p x.l.length c] 100).heap.size:=AU hB zw;have ZZ:=AA fun u (hu:Fr B b w u)=>AF (XZ Z hg hu) (PW.fr hg hu.below);clear Z PW h;rcases hk with(hk | hk | hk) | (hk | hk) | ⟨hk,hi⟩ | ⟨hk,Ub⟩
 ·have e36:ba (36::bl x.t)=b1 36++x.t:=by
   have:=Dz [36]<|bl x.t
   rw[IQ]at this;exact this
  have E:AC (s++ba (BM x)=s++b1 36++x.t):=⟨by rw[P.out,if_pos hk,Bw,e36]⟩;clear e36;rw[hk]at H0 B0 L0 Ew⊢;have C1:=AA<|Jn FX H0.out 36 zx zx Ew;clear DN hrow P ih;go_in
  go_wp2_with fail
  refine C1.out.mono ?_;rintro e w1 ⟨rfl,hb1,Ag⟩;have F1:=AA<|AF hb1<|B0.out.trans Ag;obtain⟨y0,y1,y2,y3,sf⟩:=(Ag.blk (L:=w.heap.size) L0.out zx zu).four;have C2:=AA<|KT FX hb1.drew x.t (by rw[Ae,E6];omega)<|AU hB F1.out.2.size;clear hb1 Ag C1;go_wp2
  go_region_with (go_at_call 78;refine C2.out.mono ?_;rintro e w2 ⟨rfl,hb2,hw2⟩)
  have F2:=AA<|AF hb2<|F1.out.2.drew.trans hw2;clear hb2 hw2 C2;go_wp2
  go_end0
  exact⟨rfl,by rw[E.out];exact F2.out.1,F2.out.2⟩
 ·have E:AC (s++ba (BM x)=s++ba (34::((bl x.t).flatMap Em++[34]))):=⟨by rw[P.out,if_neg zx,if_neg zx,if_pos hk]⟩;rw[hk]at H0 B0 L0 Ew⊢;have C1:=AA<|Zy6 (t:=x.t) (ZZ.out _ B0.out).1 hg H0.out Ej zx Ew;have y2:(w.alloc<|.cells #[.int .i64 3,.int .i64 x.i,.string x.t,.slice p x.l.length c] 100).cell? ⟨w.heap.size,2,none⟩=some (.string x.t):=L0.out.cell 2;clear DN hrow P ih;go_in
  go_wp2_with fail
  refine C1.out.mono ?_;rintro e w1 ⟨rfl,hb1,Ag⟩;have F1:=AA<|AF hb1<|B0.out.trans Ag;clear hb1 Ag C1;go_wp2
  go_end0
  exact⟨rfl,by rw[E.out];exact F1.out.1,F1.out.2⟩
 ·have E:AC (s++ba (BM x)=s++ba [104,101,120,58]++ba ((bl x.t).flatMap Hz)):=⟨by rw[P.out,if_neg zx,if_neg zx,if_neg zx,if_pos hk,Bw,<- Dz];rfl⟩;have h4:([104,101,120,58]:By).length=4:=rfl;have hlen:((bl x.t).flatMap Hz).length<=128:=by rw[Zv9,IR];omega
  rw[hk]at H0 B0 L0 Ew⊢;have C1:=AA<|KT FX H0.out (ba [104,101,120,58]) (by rw[Bh];simp;omega) Ew;have Dw:=G6;clear DN hrow P ih;go_in
  go_wp2_with fail
  refine C1.out.mono ?_;rintro e w1 ⟨rfl,hb1,Ag⟩;have F1:=AA<|AF hb1<|B0.out.trans Ag;obtain⟨y0,y1,y2,y3,sf⟩:=(Ag.blk (L:=w.heap.size) L0.out zx zu).four;have MF:=AU hB F1.out.2.size;have C2:=AA (fun u (hu:Ak 78 B b (s++ba [104,101,120,58]) u) (Vi:B<=u.heap.size)=>Znc Zya (first:=#[.pointer<|Qb b 0]) (cap:=#[]) (f:=Hz) (t:=x.t) hu (by rw[Ae,Bh,h4];omega) zx fun v c s' h1 h2 h3 _=>Z02 (c:=c) h1 (by rw[Ae,Bh,h4]at h3;omega) (AU Vi h2.size));clear hb1 Ag C1;go_wp2_with fail
  refine(C2.out _ F1.out.1 MF).mono ?_;rintro e w2 ⟨rfl,hb2,hw2⟩;have F2:=AA<|AF hb2<|F1.out.2.trans hw2;clear hb2 hw2 C2;go_wp2
  go_end0
  exact⟨rfl,by rw[E.out];exact F2.out.1,F2.out.2⟩
 ·have E:AC (s++ba (BM x)=s++ba (Lib.itoa x.i)):=⟨by rw[P.out,if_neg zx,if_pos hk]⟩;have hlt:(BM x).length=(Lib.itoa x.i).length:=by rw[P.out,if_neg zx,if_pos hk]
  rw[hk]at H0 B0 L0 Ew⊢;have KK:=H0.out.drew;have KB:=Ew;have CF:=AA<|Zr2 Ox (ZZ.out _ B0.out.drew).2;have CW:=AA fun u (hu:Ak 78 B b s u) (Vi:B<=u.heap.size)=>KT FX hu (ba<|Lib.itoa x.i) (by rw[Bh];omega) Vi;have y1:(w.alloc<|.cells #[.int .i64 2,.int .i64 x.i,.string x.t,.slice p x.l.length c] 100).cell? ⟨w.heap.size,1,none⟩=some (.int .i64 x.i):=L0.out.cell 1;clear DN hrow P ih;go_in
  go_wp2
  go_region_with (first
   | (go_at_call 152;refine mq CF.out ?_;rintro w2 hb2;have hx2:=Ak.later KK hb2 KB)
   | (go_at_call 78;refine(CW.out _ hx2.1<|AU KB hb2.size).mono ?_;rintro e w3 ⟨rfl,hb3,hw3⟩))
  have F3:=AA<|AF hb3<|(B0.out.drew.trans hx2.2).trans hw3;clear hb3 hw3 CW CF hx2 hb2;go_wp2
  go_end0
  exact⟨rfl,by rw[E.out];exact F3.out.1,F3.out.2⟩
 ·have e64:ba (64::Lib.itoa x.i)=b1 64++ba (Lib.itoa x.i):=Dz [64]<|Lib.itoa x.i;have E:AC (s++ba (BM x)=s++b1 64++ba (Lib.itoa x.i)):=⟨by rw[P.out,if_neg zx,if_neg zx,if_neg zx,if_neg zx,if_pos hk,Bw,e64]⟩;have hlt:(BM x).length=(Lib.itoa x.i).length+1:=by rw[P.out,if_neg zx,if_neg zx,if_neg zx,if_neg zx,if_pos hk];rfl
  rw[hk]at H0 B0 L0 Ew⊢;have C1:=AA<|Jn FX H0.out 64 zx zx Ew;clear DN hrow P ih e64;go_in
  go_wp2_with fail
  refine C1.out.mono ?_;rintro e w1 ⟨rfl,hb1,Ag⟩;have F1:=AA<|AF hb1<|B0.out.trans Ag;obtain⟨y0,y1,y2,y3,sf⟩:=(Ag.blk (L:=w.heap.size) L0.out zx zu).four;have KK:=hb1.drew;have KB:=AU hB F1.out.2.size;have CF:=AA<|Zr2 Ox (ZZ.out _ F1.out.2.drew).2;have CW:=AA fun u (hu:Ak 78 B b (s++b1 64) u) (Vi:B<=u.heap.size)=>KT FX hu (ba<|Lib.itoa x.i) (by rw[Ae,E6,Bh];omega) Vi;clear hb1 Ag C1;go_wp2
  go_region_with (first
   | (go_at_call 152;refine mq CF.out ?_;rintro w2 hb2;have hx2:=Ak.later KK hb2 KB)
   | (go_at_call 78;refine(CW.out _ hx2.1<|AU KB hb2.size).mono ?_;rintro e w3 ⟨rfl,hb3,hw3⟩))
  have F3:=AA<|AF hb3<|(F1.out.2.drew.trans hx2.2).trans hw3;clear hb3 hw3 CW CF hx2 hb2;go_wp2
  go_end0
  exact⟨rfl,by rw[E.out];exact F3.out.1,F3.out.2⟩
 ·rw[hk]at H0 B0 L0 Ew⊢;have KK:=H0.out.drew;have KB:=Ew;have qc:(if x.i=1 then H7 else PN).length<=5:=by split <;> decide
  have E:AC (s++ba (BM x)=s++ba (if x.i=1 then H7 else PN)):=⟨by rw[P.out,if_neg zx,if_neg zx,if_neg zx,if_neg zx,if_neg zx,if_pos hk]⟩;have CF:=AA fun b u=>Zye b u;have CW:=AA fun u (hu:Ak 78 B b s u) (Vi:B<=u.heap.size)=>KT FX hu (ba (if x.i=1 then H7 else PN)) (by rw[Bh];omega) Vi;have y1:(w.alloc<|.cells #[.int .i64 6,.int .i64 x.i,.string x.t,.slice p x.l.length c] 100).cell? ⟨w.heap.size,1,none⟩=some (.int .i64 x.i):=L0.out.cell 1;clear DN hrow P ih qc;rcases hi with hi | hi;all_goals
   rw[hi]at H0 B0 L0 Ew KK KB E CW y1⊢;simp only[Int.reduceEq,if_true,if_false]at E CW;go_in
   go_wp2
   go_region_with (first
    | (go_at_call 156;refine(CF.out _ _).mono ?_;rintro e w2 ⟨rfl,rfl⟩)
    | (go_at_call 78;refine(CW.out _ KK KB).mono ?_;rintro e w3 ⟨rfl,hb3,hw3⟩))
   have F3:=AA<|AF hb3<|B0.out.drew.trans hw3;clear hb3 hw3 CW CF;go_wp2
   go_end0
   exact⟨rfl,by rw[E.out];exact F3.out.1,F3.out.2⟩
 ·have ih:= @ih zx;have e91:ba (91::(Ar [44,32] BM x.l++[93]))=b1 91++(ba (Ar [44,32] BM x.l)++b1 93):=by rw[show b1 91=ba [91]from Vv 91,show b1 93=ba [93]from Vv 93,<- Dz,<- Dz];rfl
  have E:AC (s++ba (BM x)=s++b1 91++ba (Ar [44,32] BM x.l)++b1 93):=⟨by rw[P.out,if_neg zx,if_neg zx,if_neg zx,if_neg zx,if_neg zx,if_neg zx,e91,Bw,Bw]⟩;have hlt:(BM x).length=(Ar [44,32] BM x.l).length+2:=by rw[P.out,if_neg zx,if_neg zx,if_neg zx,if_neg zx,if_neg zx,if_neg zx];simp
  have HR:=AA hrow;rw[hk]at H0 B0 L0 Ew⊢;have C1:=AA<|Jn FX H0.out 91 zx zx Ew;have CM:=AA (fun u (hu:Ak 78 B b (s++b1 91) u) (hf:Fr B b w u)=>Zhs (c:=c) (B:=B) (D:=D) (sp:=ba [44,32]) Znh (first:=#[.pointer<|Qb b 0]) (cap:=#[]) (f:=BM) hu (by rw[Ae,E6,MO];omega) (HR.out.carry fun _ _ _ r=>r.carry (Go.W.Below.carry hf.below lr) (Js D)) (AU hB hf.size) fun v vs y s' hy WX hf' hS hs'=>ih (ZZ.out _<|hf.trans hf').1 (ZZ.out _<|hf.trans hf').2 hg WX (AU hB (hf.trans hf').size) hS (DN y hy) hs');have Dw:=G6;have C3:=AA fun u (hu:Ak 78 B b (s++b1 91++ba (Ar [44,32] BM x.l)) u) (Vi:B<=u.heap.size)=>Jn FX hu 93 zx (by rw[Ae,Ae,E6,Bh];omega) Vi;clear hrow P ih e91 DN;go_in
  go_wp2_with fail
  refine C1.out.mono ?_;rintro e w1 ⟨rfl,hb1,Ag⟩;have F1:=AA<|AF hb1<|B0.out.trans Ag;obtain⟨y0,y1,y2,y3,sf⟩:=(Ag.blk (L:=w.heap.size) L0.out zx zu).four;clear hb1 Ag C1;go_wp2_with fail
  refine(CM.out _ F1.out.1 F1.out.2).mono ?_;rintro e w2 ⟨rfl,hb2,hw2⟩;rw[MO]at hb2;have F2:=AA<|AF hb2<|F1.out.2.trans hw2;clear hb2 hw2 CM;go_wp2_with fail
  refine(C3.out _ F2.out.1<|AU hB F2.out.2.size).mono ?_;rintro e w3 ⟨rfl,hb3,hw3⟩;have F3:=AA<|AF hb3<|F2.out.2.trans hw3;clear hb3 hw3 C3;go_wp2
  go_end0
  exact⟨rfl,by rw[E.out];exact F3.out.1,F3.out.2⟩
def vI: ∀ d,d<=3->Zh d:=by
 have h3:Zh 3:=nC zx fun h=>absurd h zx;have h2:Zh 2:=nC zx fun _=> @h3;have h1:Zh 1:=nC zx fun _=> @h2;have h0:Zh 0:=nC zx fun _=> @h1;intro d hd;rcases(by omega:d=0\/d=1\/d=2\/d=3)with rfl | rfl | rfl | rfl
 ·exact @h0
 ·exact @h1
 ·exact @h2
 ·exact @h3
end Go.P
namespace Go.W
variable {e n d:Nat}{k i:Int}{s:ByteArray}
def Z6g (h:MI e k i s n=0):GN k i s n=true/\(k=1->e=0)/\s.size<=64/\n<=6/\(k=7->e≠3):=by
 unfold MI at h;split at h
 ·cases h
 rename_i h1;split at h
 ·cases h
 rename_i h2;split at h
 ·cases h
 rename_i h3;refine⟨by cases hf:GN k i s n with | true=>rfl | false=>exact absurd (Or.inl hf) h1,fun hk=>?_,zx,zx,fun hk he=>h3 ⟨hk,he⟩⟩;by_cases he:e=0
 ·exact he
 ·exact absurd (Or.inr ⟨hk,zx⟩) h1
def mG (h:GN k i s n=true):(k=1/\i=0/\n=0/\En s=true)\/(k=3/\i=0/\n=0/\av s=true)\/(k=4/\i=0/\n=0)\/((k=2\/k=5)/\s.size=0/\n=0)\/(k=6/\s.size=0/\n=0/\(i=0\/i=1))\/(k=7/\i=0/\s.size=0):=by
 unfold GN Pq at h;split at h
 ·rename_i hk;simp only[Bool.and_eq_true,decide_eq_true_eq]at h;exact .inl ⟨hk,h.1.1,h.1.2,h.2⟩
 split at h
 ·rename_i hk;simp only[Bool.and_eq_true,decide_eq_true_eq]at h;exact .inr<|.inl ⟨hk,h.1.1,h.1.2,h.2⟩
 split at h
 ·rename_i hk;simp only[Bool.and_eq_true,decide_eq_true_eq]at h;exact .inr<|.inr<|.inl ⟨hk,h.1,h.2⟩
 split at h
 ·rename_i hk;simp only[Bool.and_eq_true,decide_eq_true_eq]at h;exact .inr<|.inr<|.inr<|.inl ⟨hk,h.1,h.2⟩
 split at h
 ·rename_i hk;simp only[Bool.and_eq_true,Bool.or_eq_true,decide_eq_true_eq]at h;exact .inr<|.inr<|.inr<|.inr<|.inl ⟨hk,h.1.1,h.1.2,h.2⟩
 split at h
 ·rename_i hk;simp only[Bool.and_eq_true,decide_eq_true_eq]at h;exact .inr<|.inr<|.inr<|.inr<|.inr ⟨hk,h.1,h.2⟩
 ·cases h
def iX (h:s.size=0):s=⟨#[]⟩:=by
 rw[<- IQ s,show bl s=[]from Ht (by rw[IR];exact h)];rfl
def bJ (s:By):H8 (ba s)=(s==H7 || s==PN):=by unfold H8;rw[Lm];rfl
def Z0a: ¬ H8 (⟨#[]⟩:ByteArray)=true:=by rw[show H8 (⟨#[]⟩:ByteArray)=_ from bJ []];decide
def P8 {s r:By}(h:s≠r):(ba s).toList≠r:=by rw[Lm];exact h
section
variable {t:ByteArray} {p q q':Nat} {l:By} {x x':Tk}
def mP (hk:k≠6/\k≠7)(hf:GN k i s 0=true)(Ej:s.size<=64)(hi:Ey i)(h:At t p (BM (.mk k i s [])++l))(hD:JF l):BD t p= .ok ((),⟨p,⟨#[]⟩,k,i,s⟩,p+(BM<|.mk k i s []).length):=by
 rw[BM]at h⊢;rcases mG hf with⟨rfl,rfl,_,h1⟩ | ⟨rfl,rfl,_,h1⟩ | ⟨rfl,rfl,_⟩ | ⟨rfl | rfl,h1,_⟩ | ⟨rfl,_⟩ | ⟨rfl,_⟩
 ·rw[if_pos rfl]at h⊢
  have:=At.variable (s:=bl s) h (by rw[IQ];exact h1)<|hD.ends zu
  rw[this,IQ,BO];simp only[ED];congr 3
  omega
 ·rw[if_neg zu,if_neg zu,if_pos rfl]at h⊢
  have:=At.string (s:=bl s) (l:=l) (by simpa using h) h1 (by rw[IR];exact Ej)
  rw[this,IQ];simp only[ED,BO,Bq,D7];congr 3
  omega
 ·rw[if_neg zu,if_neg zu,if_neg zu,if_pos rfl]at h⊢
  have:=At.bytes (s:=bl s) (l:=l) (by simpa using h) (by rw[IR];exact Ej)<|hD.ends zu
  rw[this,IQ];simp only[ED,BO];congr 3
  omega
 ·rw[if_neg zu,if_pos rfl]at h⊢;rw[h.number hi<|hD.ends zu,iX h1];rfl
 ·rw[if_neg zu,if_neg zu,if_neg zu,if_neg zu,if_pos rfl]at h⊢
  have:=At.sW (i:=i) (l:=l) (by simpa using h) hi<|hD.ends zu
  rw[this,iX h1];simp only[ED,BO];congr 3
  omega
 ·exact absurd rfl hk.1
 ·exact absurd rfl hk.2
def Zzl {a:Nat}(h0:k≠0)(h1:k=1->d=3)(hn:BD t q= .ok ((),x',q')):EO t d ⟨a,⟨#[]⟩,k,i,s⟩ q= .ok (.mk k i s [],x',q'):=by
 cases d with
 | zero=>
  rw[EO];dsimp only;rw[if_neg Z0a,if_neg (show ¬ (⟨#[]⟩:ByteArray).toList=[91]from P8 (s:=[]) zu),if_neg (by
   rintro(h | h)
   ·exact h0 h
   ·exact absurd (h1 h) zu),Rl hn]
 | succ d=>
  rw[EO];dsimp only;rw[if_neg Z0a,if_neg (show ¬ (⟨#[]⟩:ByteArray).toList=[91]from P8 (s:=[]) zu),if_neg (by
   rintro(h | ⟨h,h2⟩)
   ·exact h0 h
   ·have:=h1 h
    omega),Rl hn]
def Zsr {x:Tk}(hx:H8 x.text=true)(hn:BD t q= .ok ((),x',q')):EO t d x q= .ok (.mk 6 (if x.text.toList=H7 then 1 else 0) ⟨#[]⟩ [],x',q'):=by
 cases d with
 | zero=>rw[EO,if_pos hx,Rl hn]
 | succ d=>rw[EO,if_pos hx,Rl hn]
def Zzy {ys:List T}(h:ZY e ys=0): ∀ z,z∈ys->A9 e z=0:=by
 induction ys with
 | nil=>intro z hz;cases hz
 | cons y ys ih=>
  rw[ZY]at h;split at h
  ·rename_i h';exact absurd h h'
  ·rename_i h';intro z hz;rcases Be.1 hz with rfl | hz
   ·exact Decidable.not_not.1 h'
   ·exact ih h z hz
def xJ (t:ByteArray) (y:T):Prop:= ∀ p l x q,At t p (BM y++l)->JF l->BD t p= .ok ((),x,q)->x.text.toList≠[41]/\x.text.toList≠[93]
def mi: ∀ (d:Nat) (y:T),d<=3->A9 (3-d) y=0->InT d y->XI t JF BM (EO t d) y/\xJ t y
 | d,.mk k i s ys,hd,hw,hi=>by
  have JW:Ey i:=hi.i;rw[A9]at hw;split at hw
  ·rename_i h';exact absurd hw h'
  rename_i ho;obtain⟨hf,AZ,Ej,h6,aQ⟩:=Z6g<|Decidable.not_not.1 ho;by_cases Uf:k≠6/\k≠7
  ·have zM:ys=[]:=by
    rcases mG hf with⟨_,_,h,_⟩ | ⟨_,_,h,_⟩ | ⟨_,_,h⟩ | ⟨_,_,h⟩ | ⟨h,_⟩ | ⟨h,_⟩
    ·exact Ht h
    ·exact Ht h
    ·exact Ht h
    ·exact Ht h
    ·exact absurd h Uf.1
    ·exact absurd h Uf.2
   subst zM;have hk0:k≠0:=by
    rintro rfl;revert hf
    simp[GN,Pq]
   refine⟨⟨fun p l h hD=>⟨_,_,mP Uf hf Ej JW h hD⟩,fun p l x q x' q' h hD h0 h1=>?_⟩,fun p l x q h hD h0=>?_⟩
   ·rw[mP Uf hf Ej JW h hD]at h0;cases h0;exact Zzl hk0 (fun hk=>by have:=AZ hk;omega) h1
   ·rw[mP Uf hf Ej JW h hD]at h0;cases h0;exact⟨P8 (s:=[]) (r:=[41]) zu,P8 (s:=[]) (r:=[93]) zu⟩
  rcases mG hf with⟨rfl,_⟩ | ⟨rfl,_⟩ | ⟨rfl,_⟩ | ⟨rfl | rfl,_⟩ | ⟨rfl,hs,hn,hb⟩ | ⟨rfl,rfl,hs⟩
  ·exact absurd ⟨zu,zu⟩ Uf
  ·exact absurd ⟨zu,zu⟩ Uf
  ·exact absurd ⟨zu,zu⟩ Uf
  ·exact absurd ⟨zu,zu⟩ Uf
  ·exact absurd ⟨zu,zu⟩ Uf
  ·obtain rfl:=Ht hn;obtain rfl:=iX hs;have tok: ∀ p l,At t p (BM (.mk 6 i ⟨#[]⟩ [])++l)->JF l->BD t p= .ok ((),⟨p,ba<|BM<|.mk 6 i ⟨#[]⟩ [],0,0,⟨#[]⟩⟩,p+(BM<|.mk 6 i ⟨#[]⟩ []).length):=fun p l h hD=>by
    rcases hb with rfl | rfl
    ·exact At.word (s:=PN) h zu (hD.ends zu) fun h=>absurd h zu
    ·exact At.word (s:=H7) h zu (hD.ends zu) fun h=>absurd h zu
   refine⟨⟨fun p l h hD=>⟨_,_,tok p l h hD⟩,fun p l x q x' q' h hD h0 h1=>?_⟩,fun p l x q h hD h0=>?_⟩
   ·rw[tok p l h hD]at h0;cases h0;rcases hb with rfl | rfl
    ·refine(Zsr (d:=d) (x:=⟨p,ba PN,0,0,⟨#[]⟩⟩) ((bJ PN).trans zu) h1).trans ?_;dsimp only;rw[Lm,if_neg zu]
    ·refine(Zsr (d:=d) (x:=⟨p,ba H7,0,0,⟨#[]⟩⟩) ((bJ H7).trans zu) h1).trans ?_;dsimp only;rw[Lm,if_pos rfl]
   ·rw[tok p l h hD]at h0;cases h0;rcases hb with rfl | rfl
    ·exact⟨P8 (s:=PN) (r:=[41]) zu,P8 (s:=PN) (r:=[93]) zu⟩
    ·exact⟨P8 (s:=H7) (r:=[41]) zu,P8 (s:=H7) (r:=[93]) zu⟩
  ·obtain rfl:=iX hs;have hd0:d≠0:=fun h=>aQ rfl zx;obtain⟨d,rfl⟩: ∃ m,d=m+1:=⟨d-1,zx⟩;have e7:BM (.mk 7 0 ⟨#[]⟩ ys)=91::(Ar [44,32] BM ys++[93]):=by rw[BM,if_neg zu,if_neg zu,if_neg zu,if_neg zu,if_neg zu,if_neg zu,uk]
   have IH: ∀ z,z∈ys->XI t JF BM (EO t d) z/\xJ t z:=fun z hz=>mi d z zx (by rw[show 3-d=3-(d+1)+1 by omega];exact Zzy hw z hz) (hi.2 z hz);have tok: ∀ p l,At t p (BM (.mk 7 0 ⟨#[]⟩ ys)++l)->BD t p= .ok ((),⟨p,ba [91],0,0,⟨#[]⟩⟩,p+1)/\At t (p+1) (Ar [44,32] BM ys++93::l):=fun p l h=>by
    rw[e7]at h;have h':At t p (91::(Ar [44,32] BM ys++93::l)):=by simpa using h
    exact⟨h'.one zu,h'.next⟩
   refine⟨⟨fun p l h _=>⟨_,_,(tok p l h).1⟩,fun p l x q x' q' h _ h0 h1=>?_⟩,fun p l x q h _ h0=>?_⟩
   ·obtain⟨k1,k2⟩:=tok p l h;rw[k1]at h0;cases h0;obtain⟨x1,q1,k3⟩: ∃ x1 q1,BD t (p+1)= .ok ((),x1,q1):=by
     cases ys with
     | nil=>exact⟨_,_,At.one (c:=93) k2 zu⟩
     | cons y r=>
      have aG:At t (p+1) (BM y++(r.flatMap (fun z=>[44,32]++BM z)++93::l)):=by
       rw[Ar,GY]at k2;exact k2
      refine(IH y<|List.mem_cons_self ..).1.first _ _ aG ?_;cases r with
      | nil=>exact⟨93,l,rfl,zu⟩
      | cons w r=>exact⟨44,_,rfl,Or.inl rfl⟩
    rw[EO,if_neg (show ¬ H8 (ba [91])=true by rw[bJ];decide),if_pos<|Lm _,Rl k3,Cc<|Zst (c:=93) (x':=x') (q':=q') (Or.inr rfl) (fun z hz=>(IH z hz).1) (fun z hz p l x q a b c=>((IH z hz).2 p l x q a b c).2) h6 k2 k3 (by
     rw[<- h1];congr 1
     rw[e7];simp only[BO,Bq,D7]
     omega)]
   ·rw[(tok p l h).1]at h0;cases h0;exact⟨P8 (s:=[91]) (r:=[41]) zu,P8 (s:=[91]) (r:=[93]) zu⟩
termination_by d=>d
end
end Go.W
namespace Go.W
variable {t:ByteArray}
def XK (a:A):Prop:=TZ a.name=false
def Vu (r:R):Prop:= ∀ a∈r.body,XK a
structure lY (b:Bk):Prop where
 facts: ∀ a∈b.facts,XK a
 rules: ∀ r∈b.rules,XK r.head/\Vu r
 checks: ∀ c∈b.checks,∀ r∈c,Vu r
def EE {α:Type} (read:Tk->Nat->Re α) (Q:α->Prop):Prop:= ∀ x p y x' p',read x p= .ok (y,x',p')->Q y
def Zsp {α:Type}{read:Tk->Nat->Re α}{Q:α->Prop}(hr:EE read Q){s:List UInt8}{most:Nat}: ∀ {n:Nat} {xs:List α},(∀ x∈xs,Q x)->EE (Gg t read s most n xs) fun ys=> ∀ x∈ys,Q x
 | 0,xs,_,x,p,y,x',p',h=>by cases h
 | n+1,xs,hx,x,p,y,x',p',h=>by
  rw[Gg]at h;obtain⟨z,x1,p1,h1,h2⟩:=DY h;have hz:=hr _ _ _ _ _ h1;split at h2
  ·cases h2
  ·split at h2
   ·obtain⟨u,x2,p2,h3,h4⟩:=DY h2;exact Zsp hr (Qs hx hz) _ _ _ _ _ h4
   ·cases h2;exact Qs hx hz
def Zor (t:ByteArray):EE (OZ t) XK:=fun x p y x' p' h=>by
 unfold OZ at h;split at h
 ·rename_i hw;obtain⟨z,x1,p1,h1,h2⟩:=DY h;obtain⟨u,x2,p2,h3,h4⟩:=DY h2;obtain⟨l,x3,p3,h5,h6⟩:=DY h4;cases h6;exact hw.2
 ·cases h
def Znu (t:ByteArray): ∀ (n:Nat) {r:R},Vu r->EE (Iw t n r) Vu
 | 0,r,_,x,p,y,x',p',h=>by cases h
 | n+1,r,hr,x,p,y,x',p',h=>by
  rw[Iw]at h;obtain⟨r1,x1,p1,h1,h2⟩:=DY h;have hr1:Vu r1:=by
   unfold Qi at h1;split at h1
   ·obtain⟨a,x1,p1,h3,h4⟩:=DY h1;split at h4
    ·cases h4
    ·cases h4;exact Qs hr<|Zor t _ _ _ _ _ h3
   ·obtain⟨a,x1,p1,h3,h4⟩:=DY h1;split at h4
    ·cases h4
    ·cases h4;exact hr
  split at h2
  ·obtain⟨u,x2,p2,h4,h5⟩:=DY h2;exact Znu t n hr1 _ _ _ _ _ h5
  ·cases h2;exact hr1
def Zoz (t:ByteArray):EE (MN t) Vu:=fun x p y x' p' h=>by
 unfold MN at h;obtain⟨r,x1,p1,h1,h2⟩:=DY h;split at h2
 ·cases h2;exact Znu t 9 (r:=Jh) (fun a ha=>by cases ha) _ _ _ _ _ h1
 ·cases h2
def Zlg (t:ByteArray): ∀ (n:Nat) {b:Bk},lY b->EE (Le t n b) lY
 | 0,b,_,x,p,y,x',p',h=>by cases h
 | n+1,b,hb,x,p,y,x',p',h=>by
  rw[Le]at h;split at h
  ·cases h;exact hb
  ·obtain⟨b1,x1,p1,h1,h2⟩:=DY h;obtain⟨u,x2,p2,h3,h4⟩:=DY h2;refine Zlg t n ?_ _ _ _ _ _ h4;split at h1
   ·unfold Rf at h1;obtain⟨u,x1,p1,h5,h6⟩:=DY h1;obtain⟨l,x2,p2,h7,h8⟩:=DY h6;split at h8
    ·cases h8
    ·cases h8;unfold Ti at h7;obtain⟨u,x3,p3,h9,hA⟩:=DY h7;exact⟨hb.facts,hb.rules,Qs hb.checks<|Zsp (Zoz t) zw _ _ _ _ _ hA⟩
   ·unfold Ns at h1;obtain⟨hd,x1,p1,h5,h6⟩:=DY h1;have ha:=Zor t _ _ _ _ _ h5;split at h6
    ·obtain⟨u,x2,p2,h7,h8⟩:=DY h6;obtain⟨r,x3,p3,h9,hA⟩:=DY h8;have hr:=Zoz t _ _ _ _ _ h9;split at hA
     ·cases hA
     ·split at hA
      ·cases hA
      ·cases hA;exact⟨hb.facts,Qs hb.rules ⟨ha,hr⟩,hb.checks⟩
    ·split at h6
     ·cases h6
     ·split at h6
      ·cases h6
      ·cases h6;exact⟨Qs hb.facts ha,hb.rules,hb.checks⟩
def Z21 {b:Bk}(h:Et t (Jj t)= .ok b):lY b:=by
 unfold Et at h;split at h
 ·cases h
 ·split at h
  ·cases h
  ·rename_i h1;cases h;obtain⟨u,x1,p1,h2,h3⟩:=DY h1;exact Zlg t 73 ⟨zw,zw,zw⟩ _ _ _ _ _ h3
end Go.W
namespace Go.W
variable {a:A}{s:By}{g:G}
def Ec (a:A):By:=bl a.name++40::(Ar [44,32] BM a.terms++[41])
def Vs (op:Int):By:=bl<|JO.getD (op.toNat-1) ⟨#[]⟩
def Iq (g:G):By:=BM g.a++32::(Vs g.op++32::BM g.b)
def ML:A ⊕ G->By
 | .inl a=>Ec a
 | .inr g=>Iq g
def Ld (r:R):List (A ⊕ G):=r.body.map .inl++r.guards.map .inr
def Eb (r:R):By:=Ar [44,32] ML<|Ld r
def vD {α:Type}{f:α->Int}{l:List α}(h:EF f l=0): ∀ x∈l,f x=0:=by
 induction l with
 | nil=>intro x hx;cases hx
 | cons y l ih=>
  rw[EF]at h;split at h
  ·rename_i h';exact absurd h h'
  ·rename_i h';intro x hx;rcases Be.1 hx with rfl | hx
   ·exact Decidable.not_not.1 h'
   ·exact ih h x hx
def jI {α:Type}{f:α->Int}{m:Nat}{l:List α}(h:ES f m l=0):l.length<=m/\ ∀ x∈l,f x=0:=by
 unfold ES at h;split at h
 ·cases h
 ·exact⟨zx,vD h⟩
def ig (h:ER a=0):En a.name=true/\a.terms.length<=6/\ ∀ y∈a.terms,A9 0 y=0:=by
 unfold ER at h;split at h
 ·cases h
 ·rename_i hn;obtain⟨h1,h2⟩:=jI h;exact⟨by simpa using hn,h1,h2⟩
def Z7y (h:En (ba s)=true):GM (ba s)=true:=by
 obtain⟨⟨c,r,rfl,hc⟩,_⟩:=vK h;unfold GM
 have:(Ab<|ba<|c::r).getD 0 0=c.toNat:=rfl
 rw[this,hc,Bh];simp
def Yda {c:UInt8}(h:Jm c.toNat=false):GM (ba<|c::s)=false:=by
 unfold GM;rw[show(Ab<|ba<|c::s).getD 0 0=c.toNat from rfl,h];simp
def Z5y {s:ByteArray}(h:TZ s=false):H8 s=false:=by
 unfold TZ at h;unfold H8;simp only[Bool.or_eq_false_iff]at h⊢;exact⟨h.1.1.2,h.1.2⟩
section
variable {t:ByteArray} {p q q':Nat} {l:By} {x x':Tk}
def Zc (hn:En a.name=true)(h:At t p (Ec a++l)):BD t p= .ok ((),⟨p,a.name,0,0,⟨#[]⟩⟩,p+(bl a.name).length)/\At t (p+(bl a.name).length) (40::(Ar [44,32] BM a.terms++41::l)):=by
 have h':At t p (bl a.name++40::(Ar [44,32] BM a.terms++41::l)):=by
  unfold Ec at h;simpa using h
 have:=At.word (s:=bl a.name) h' (by rw[IQ];exact hn) (fun c r e=>by cases e;rfl) (fun _ c r e=>by cases e;rfl)
 rw[IQ]at this;exact⟨this,h'.app⟩
def vz (hw:ER a=0)(hk:XK a)(hi:UN a):XI t JF Ec (OZ t) a:=by
 obtain⟨hn,h6,Sd⟩:=ig hw;refine⟨fun p l h _=>⟨_,_,(Zc hn h).1⟩,fun p l x q x' q' h _ h0 h1=>?_⟩;obtain⟨k1,k2⟩:=Zc hn h;rw[k1]at h0;cases h0;have IH: ∀ z,z∈a.terms->XI t JF BM (EO t 3) z/\xJ t z:=fun z hz=>mi 3 z lr (Sd z hz) (hi z hz);have k3:BD t (p+(bl a.name).length)= .ok ((),⟨p+(bl a.name).length,ba [40],0,0,⟨#[]⟩⟩,p+(bl a.name).length+1):=k2.one zu;obtain⟨x1,q1,k4⟩: ∃ x1 q1,BD t (p+(bl a.name).length+1)= .ok ((),x1,q1):=by
  have aG:=k2.next;cases he:a.terms with
  | nil=>
   rw[he]at aG;exact⟨_,_,At.one (c:=41) aG zu⟩
  | cons y r=>
   rw[he,Ar,GY]at aG;refine(IH y (by rw[he];exact List.mem_cons_self ..)).1.first _ _ aG ?_;cases r with
   | nil=>exact⟨41,l,rfl,zu⟩
   | cons w r=>exact⟨44,_,rfl,Or.inl rfl⟩
 have hwd:GM a.name=true:=by have:=Z7y (s:=bl a.name) (by rw[IQ];exact hn);rw[IQ]at this;exact this
 unfold OZ;rw[if_pos ⟨hwd,hk⟩,Rl k3,iw (s:=[40]) (Lm _) k4,Cc<|Zst (c:=41) (x':=x') (q':=q') (Or.inl rfl) (fun z hz=>(IH z hz).1) (fun z hz p l x q a b c=>((IH z hz).2 p l x q a b c).1) h6 k2.next k4 (by
  rw[<- h1];congr 1
  unfold Ec;simp only[Bq,BO,D7]
  omega)]
def Z88 {op:Int}(ho: ¬ (op<1\/7<op))(h:At t p (Vs op++32::l)): ∃ m,BD t p= .ok ((),⟨p,m,0,0,⟨#[]⟩⟩,p+(Vs op).length)/\(OB m:Int)=op:=by
 have h7:op=1\/op=2\/op=3\/op=4\/op=5\/op=6\/op=7:=zx
 rcases h7 with rfl | rfl | rfl | rfl | rfl | rfl | rfl
 ·exact⟨FH 1,At.mark (m:=FH 1) h zu rfl,zu⟩
 ·exact⟨FH 2,At.mark (m:=FH 2) h zu rfl,zu⟩
 ·exact⟨FH 3,At.mark (m:=FH 3) h zu rfl,zu⟩
 ·exact⟨FH 4,At.mark (m:=FH 4) h zu rfl,zu⟩
 ·exact⟨FH 5,At.mark (m:=FH 5) h zu rfl,zu⟩
 ·exact⟨FH 6,At.mark (m:=FH 6) h zu rfl,zu⟩
 ·exact⟨FH 7,At.mark (m:=FH 7) h zu rfl,zu⟩
def Ydr (t:ByteArray) (y:T):Prop:= ∀ p l x q,At t p (BM y++l)->JF l->BD t p= .ok ((),x,q)-> ¬ (GM x.text=true/\H8 x.text=false)
def Yak:GM (⟨#[]⟩:ByteArray)=false:=zu
def Ycg {y:T}(hw:A9 0 y=0)(hi:InT 3 y):Ydr t y:=by
 obtain⟨k,i,s,ys⟩:=y;have JW:Ey i:=hi.i;rw[A9]at hw;split at hw
 ·rename_i h';exact absurd hw h'
 rename_i ho;obtain⟨hf,AZ,Ej,h6,aQ⟩:=Z6g<|Decidable.not_not.1 ho;intro p l x q h hD h0;rcases mG hf with⟨rfl,rfl,hn,h1⟩ | ⟨rfl,rfl,hn,h1⟩ | ⟨rfl,rfl,hn⟩ | ⟨rfl | rfl,h1,hn⟩ | ⟨rfl,hs,hn,hb⟩ | ⟨rfl,rfl,hs⟩
 case inr.inr.inr.inr.inl=>
  obtain rfl:=Ht hn;have hb': ∃ s,H8 (ba s)=true/\BD t p= .ok ((),⟨p,ba s,0,0,⟨#[]⟩⟩,p+s.length):=by
   rcases hb with rfl | rfl
   ·exact⟨PN,(bJ PN).trans zu,At.word (s:=PN) h zu (hD.ends zu) fun h=>absurd h zu⟩
   ·exact⟨H7,(bJ H7).trans zu,At.word (s:=H7) h zu (hD.ends zu) fun h=>absurd h zu⟩
  obtain⟨s,k1,k2⟩:=hb';rw[k2]at h0;cases h0;rintro⟨_,k3⟩;rw[k1]at k3;cases k3
 case inr.inr.inr.inr.inr=>
  have e7:BM (.mk 7 0 s ys)=91::(V4 true ys++[93]):=by rw[BM,if_neg zu,if_neg zu,if_neg zu,if_neg zu,if_neg zu,if_neg zu]
  rw[e7]at h;rw[At.one (c:=91) h zu]at h0;cases h0;rintro⟨k,_⟩;rw[show GM (ba [91])=false from Yda zu]at k;cases k
 all_goals
  obtain rfl:=Ht hn;rw[mP zu hf Ej JW h hD]at h0;cases h0;rintro⟨k,_⟩;rw[show GM (⟨#[]⟩:ByteArray)=false from Yak]at k;cases k
def Zyi (hg:ZR g)(hi:Zr g):XI t JF Iq (Vx t) g/\ ∀ p l x q,At t p (Iq g++l)->BD t p= .ok ((),x,q)-> ¬ (GM x.text=true/\H8 x.text=false):=by
 obtain⟨ho,ha,hb⟩:=hg;have Ra:=mi (t:=t) 3 g.a lr ha hi.1;have Rb:=mi (t:=t) 3 g.b lr hb hi.2;have RI: ∀ p l,At t p (Iq g++l)->At t p (BM g.a++32::(Vs g.op++32::(BM g.b++l))):=fun p l h=>by
  unfold Iq at h;simpa using h
 have sZ: ∀ l,JF (32::l):=fun l=>⟨32,l,rfl,zu⟩;refine⟨⟨fun p l h _=>Ra.1.first _ _ (RI p l h) (sZ _),fun p l x q x' q' h hD h0 h1=>?_⟩,fun p l x q h h0=>Ycg ha hi.1 p _ x q (RI p l h) (sZ _) h0⟩;have h':=RI p l h;have k1:=h'.app;have k2:=k1.next;obtain⟨m,k3,k4⟩:=Z88 ho k2;have k5:=k2.app;have k6:=k5.next;obtain⟨xb,qb,k7⟩:=Rb.1.first _ _ k6 hD;have hop:OB m≠0:=zx
 unfold Vx;rw[Cc<|Ra.1.read _ _ _ _ _ _ h' (sZ _) h0<|(k1.A7 rfl).trans k3];dsimp only;rw[if_neg hop,Rl<|(k5.A7 rfl).trans k7,Cc<|Rb.1.read _ _ _ _ x' q' k6 hD k7 (by
  rw[<- h1];congr 1
  unfold Iq;simp only[Bq,BO]
  omega),k4]
def Rt (r:R):A ⊕ G->R
 | .inl a=>{r with body:=r.body++[a]}
 | .inr g=>{r with guards:=r.guards++[g]}
structure lX (t:ByteArray) (y:A ⊕ G):Prop where
 first: ∀ p l,At t p (ML y++l)->JF l-> ∃ x q,BD t p= .ok ((),x,q)
 read: ∀ r p l x q x' q',(r.body.length<4\/ ∃ g,y= .inr g)->(r.guards.length<4\/ ∃ a,y= .inl a)->At t p (ML y++l)->JF l->BD t p= .ok ((),x,q)->BD t (p+(ML y).length)= .ok ((),x',q')->Qi t r x q= .ok (Rt r y,x',q')
def Z22 (hw:ER a=0)(hk:XK a)(hi:UN a):lX t (.inl a):=by
 have R:=vz (t:=t) hw hk hi;refine⟨R.first,fun r p l x q x' q' hb _ h hD h0 h1=>?_⟩;have hb4:r.body.length<4:=by
  rcases hb with h | ⟨g,h⟩
  ·exact h
  ·cases h
 have k1:=(Zc (ig hw).1 h).1;have hR:=R.read p l x q x' q' h hD h0 h1;rw[k1]at h0;cases h0;have hwd:GM a.name=true:=by have:=Z7y (s:=bl a.name) (by rw[IQ];exact(ig hw).1);rw[IQ]at this;exact this
 unfold Qi;rw[if_pos ⟨hwd,Z5y hk⟩,Cc hR,if_neg zx];rfl
def Zy1 (hg:ZR g)(hi:Zr g):lX t (.inr g):=by
 have R:=Zyi (t:=t) hg hi;refine⟨R.1.first,fun r p l x q x' q' _ hb h hD h0 h1=>?_⟩;have hb4:r.guards.length<4:=by
  rcases hb with h | ⟨a,h⟩
  ·exact h
  ·cases h
 have hR:=R.1.read p l x q x' q' h hD h0 h1;unfold Qi;rw[if_neg<|R.2 p l x q h h0,Cc hR,if_neg zx];rfl
end
end Go.W
namespace Go.P
def Zng:Bj 51:=DL func51 zt rfl
def vJ {a:Nat->Addr}{B D b:Nat}{s:ByteArray}{w:World}{vs:List Value}{x:A}(Z:Aa a w)(PW:Oa w)(hg:23<=B)(h:Ak 78 B b s w)(hB:B<=w.heap.size)(hS:FM B w D vs x)(Az:ER x=0)(hs:s.size+(Ec x).length<999000000):
  Calls prog 51 #[.pointer<|Qb b 0,.agg vs.toArray] w (Df 78 B b (s++ba (Ec x)) w):=by
 obtain⟨hn,hl,DN⟩:=kD Az;obtain⟨p,c,rfl,ht,hc,hrow⟩:=hS;have hz:(Ec x).length=x.name.size+(Ar [44,32] BM x.terms).length+2:=by
  unfold Ec;rw[Bq,IR];simp;omega
 have E:AC (s++ba (Ec x)=s++x.name++b1 40++ba (Ar [44,32] BM x.terms)++b1 41):=⟨by
  unfold Ec;rw[Dz,IQ,show ba (40::(Ar [44,32] BM x.terms++[41]))=b1 40++(ba (Ar [44,32] BM x.terms)++b1 41)from by rw[show b1 40=ba [40]from Vv 40,show b1 41=ba [41]from Vv 41,<- Dz,<- Dz];rfl];simp only[Bw]⟩
 have ZZ:=AA fun u (hu:Fr B b w u)=>AF (XZ Z hg hu) (PW.fr hg hu.below);have B0:=AA<|(Fr.refl B b w).alloc hB<|.cells #[.string x.name,.slice p x.terms.length c] 95;have Ew:=AU hB B0.out.size;have C1:=AA<|KT FX (h.alloc<|.cells #[.string x.name,.slice p x.terms.length c] 95).drew x.name zx Ew;have AX:b<w.heap.size:=by obtain⟨_,_,_,q,_,_⟩:=h.form;exact q.lt
 have L0:=AA<|AJ.new w #[.string x.name,.slice p x.terms.length c] 95;have Dw:=G6;have C2:=AA fun u (hu:Ak 78 B b (s++x.name) u) (hf:Fr B b w u)=>Jn FX hu 40 zx (by rw[Ae];omega) (AU hB hf.size);have CM:=AA (fun u (hu:Ak 78 B b (s++x.name++b1 40) u) (hf:Fr B b w u)=>Zhs (c:=c) (B:=B) (D:=D) (sp:=ba [44,32]) Znh (first:=#[.pointer<|Qb b 0]) (cap:=#[]) (f:=BM) hu (by rw[Ae,Ae,E6,MO];omega) (hrow.carry fun _ _ _ r=>r.carry (Go.W.Below.carry hf.below lr) lr) (AU hB hf.size) fun u2 vs y s' hy Dh hf2 hS hz=>vI 0 zx (ZZ.out _<|hf.trans hf2).1 (ZZ.out _<|hf.trans hf2).2 hg Dh (AU hB (hf.trans hf2).size) hS (DN y hy) hz);have C4:=AA fun u (hu:Ak 78 B b (s++x.name++b1 40++ba (Ar [44,32] BM x.terms)) u) (hf:Fr B b w u)=>Jn FX hu 41 zx (by rw[Ae,Ae,Ae,E6,Bh];omega) (AU hB hf.size);clear h hrow DN Az hs hz Z PW;go_in
 go_wp2
 go_region_with (go_at_call 78;refine C1.out.mono ?_;rintro e w1 ⟨rfl,hb1,Ag⟩)
 have F1:=AA<|AF hb1<|B0.out.drew.trans Ag;have L1:=AA<|Ag.blk (L:=w.heap.size) L0.out zx zu;clear hb1 Ag C1;go_wp2_with fail
 refine(C2.out _ F1.out.1 F1.out.2).mono ?_;rintro e w2 ⟨rfl,hb2,hw2⟩;have F2:=AA<|AF hb2<|F1.out.2.trans hw2;obtain⟨y0,y1,sf⟩:=(hw2.blk (L:=w.heap.size) L1.out zx zu).two;clear hb2 hw2 C2;go_wp2_with fail
 refine(CM.out _ F2.out.1 F2.out.2).mono ?_;rintro e w3 ⟨rfl,hb3,hw3⟩;rw[MO]at hb3;have F3:=AA<|AF hb3<|F2.out.2.trans hw3;clear hb3 hw3 CM;go_wp2_with fail
 refine(C4.out _ F3.out.1 F3.out.2).mono ?_;rintro e w4 ⟨rfl,hb4,hw4⟩;have F4:=AA<|AF hb4<|F3.out.2.trans hw4;clear hb4 hw4 C4;go_wp2
 go_end0
 exact⟨rfl,by rw[E.out];exact F4.out.1,F4.out.2⟩
end Go.P
namespace Go.W
variable {r:R}
def Zwp (r:R):(Ld r).foldl Rt Jh={r with head:=Jh.head}:=by
 have h1: ∀ (l:List A) (r0:R),(l.map<|Sum.inl (β:=G)).foldl Rt r0={r0 with body:=r0.body++l}:=fun l=>by
  induction l with
  | nil=>intro r0;simp
  | cons a l ih=>intro r0;rw[List.map_cons,List.foldl_cons,ih];simp[Rt]
 have h2: ∀ (l:List G) (r0:R),(l.map<|Sum.inr (α:=A)).foldl Rt r0={r0 with guards:=r0.guards++l}:=fun l=>by
  induction l with
  | nil=>intro r0;simp
  | cons a l ih=>intro r0;rw[List.map_cons,List.foldl_cons,ih];simp[Rt]
 unfold Ld;rw[List.foldl_append,h1,h2];simp[Jh]
def WI (l:By):Prop:=(∃ r,l=59::r)\/ ∃ r,l=32::111::114::32::r
def WI.del {l:By}(h:WI l):JF l:=by
 rcases h with⟨r,rfl⟩ | ⟨r,rfl⟩
 ·exact⟨59,r,rfl,zu⟩
 ·exact⟨32,_,rfl,zu⟩
section
variable {t:ByteArray} {p q q':Nat} {l:By} {x x':Tk}
def wm (h:At t p (32::111::114::32::l)):BD t p= .ok ((),⟨p+1,ba [111,114],0,0,⟨#[]⟩⟩,p+3)/\BD t (p+3)=BD t (p+4):=by
 refine⟨(h.A7 rfl).trans<|At.word (s:=[111,114]) h.next zu (fun c r e=>by cases e;rfl) fun h=>absurd h zu,?_⟩;exact At.A7 (c:=32) h.next.next.next rfl
def WI.tok (hD:WI l)(h:At t p l)(h0:BD t p= .ok ((),x,q)):x.text.toList≠[44]:=by
 rcases hD with⟨r,rfl⟩ | ⟨r,rfl⟩
 ·rw[h.one zu]at h0;cases h0;exact P8 (s:=[59]) zu
 ·rw[(wm h).1]at h0;cases h0;exact P8 (s:=[111,114]) zu
def Yck (t:ByteArray):xD t WI [32,111,114,32] [111,114]:=⟨fun l=>Or.inr ⟨l,rfl⟩,fun _ _ h=>⟨_,_,(wm h).1,Lm _,(wm h).2⟩⟩
def Zsj: ∀ (ys:List (A ⊕ G)) (y:A ⊕ G) (n:Nat) (r:R) (p:Nat) (x:Tk) (q:Nat),(∀ z,z∈y::ys->lX t z)->ys.length<n->r.body.length+((y::ys).filterMap fun z=>z.getLeft?).length<=4->r.guards.length+((y::ys).filterMap fun z=>z.getRight?).length<=4->At t p (ML y++(ys.flatMap (fun z=>[44,32]++ML z)++l))->JF l->BD t p= .ok ((),x,q)->BD t (p+(ML y++ys.flatMap fun z=>[44,32]++ML z).length)= .ok ((),x',q')->x'.text.toList≠[44]->Iw t n r x q= .ok ((y::ys).foldl Rt r,x',q')
 | [],y,n,r,p,x,q,P,hn,hb,hg,h,hD,h0,h1,hne=>by
  obtain⟨n,rfl⟩: ∃ m,n=m+1:=⟨n-1,zx⟩;have Vk:BD t (p+(ML y).length)= .ok ((),x',q'):=by
   have e:ML y++([]:List (A ⊕ G)).flatMap (fun z=>[44,32]++ML z)=ML y:=zw
   rw[e]at h1;exact h1
  have hb':r.body.length<4\/ ∃ g,y= .inr g:=by
   cases y with
   | inl a=>simp at hb;exact Or.inl zx
   | inr g=>exact Or.inr ⟨g,rfl⟩
  have Gz:r.guards.length<4\/ ∃ a,y= .inl a:=by
   cases y with
   | inr a=>simp at hg;exact Or.inl zx
   | inl g=>exact Or.inr ⟨g,rfl⟩
  rw[Iw,Cc<|(P y<|List.mem_cons_self ..).read r p l x q x' q' hb' Gz h hD h0 Vk,if_neg hne];rfl
 | z::ys,y,n,r,p,x,q,P,hn,hb,hg,h,hD,h0,h1,hne=>by
  obtain⟨n,rfl⟩: ∃ m,n=m+1:=⟨n-1,zx⟩;have h':At t p (ML y++([44,32]++(ML z++(ys.flatMap (fun z=>[44,32]++ML z)++l)))):=by
   rw[List.flatMap_cons]at h;simpa only[GY]using h
  have hs:=At.app h';obtain⟨xs,qs,k1,k2,k3⟩:=(vw t).read _ _ hs;have hz:=At.app hs;have rY:JF (ys.flatMap (fun z=>[44,32]++ML z)++l):=by
   cases ys with
   | nil=>exact hD
   | cons w ys=>exact⟨44,_,rfl,Or.inl rfl⟩
  obtain⟨xz,qz,k4⟩:=(P z<|List.mem_cons_of_mem _<|List.mem_cons_self ..).first _ _ hz rY;have hb':r.body.length<4\/ ∃ g,y= .inr g:=by
   cases y with
   | inl a=>simp at hb;exact Or.inl zx
   | inr g=>exact Or.inr ⟨g,rfl⟩
  have Gz:r.guards.length<4\/ ∃ a,y= .inl a:=by
   cases y with
   | inr a=>simp at hg;exact Or.inl zx
   | inl g=>exact Or.inr ⟨g,rfl⟩
  have hb2:(Rt r y).body.length+((z::ys).filterMap fun z=>z.getLeft?).length<=4:=by
   cases y with
   | inl a=>
    rw[List.filterMap_cons]at hb;simp only[Sum.getLeft?_inl,BO]at hb;simp only[Rt,Bq,BO,D7];omega
   | inr g=>
    rw[List.filterMap_cons]at hb;simp only[Sum.getLeft?_inr]at hb;exact hb
  have hg2:(Rt r y).guards.length+((z::ys).filterMap fun z=>z.getRight?).length<=4:=by
   cases y with
   | inr a=>
    rw[List.filterMap_cons]at hg;simp only[Sum.getRight?_inr,BO]at hg;simp only[Rt,Bq,BO,D7];omega
   | inl g=>
    rw[List.filterMap_cons]at hg;simp only[Sum.getRight?_inl]at hg;exact hg
  rw[Iw,Cc<|(P y<|List.mem_cons_self ..).read r p _ x q xs qs hb' Gz h' ((vw t).del _) h0 k1,if_pos k2,Rl<|k3.trans k4];rw[Zsj ys z n (Rt r y) _ xz qz (fun w hw=>P w (List.mem_cons_of_mem _ hw)) (by simp at hn;omega) hb2 hg2 hz hD k4 (by
   rw[<- h1];congr 1
   simp only[List.flatMap_cons,Bq,Nat.add_assoc]) hne]
  rfl
def uf (h:GX r=0):Ld r≠[]/\r.body.length<=4/\r.guards.length<=4/\(∀ a∈r.body,ER a=0)/\(∀ g∈r.guards,ZR g)/\r.guards.all (fun g=>Ez [g.a,g.b] r.body)=true:=by
 unfold GX at h;split at h
 ·cases h
 rename_i h1;split at h
 ·cases h
 rename_i h2;split at h
 ·rename_i h';exact absurd h h'
 rename_i h3;have h4:=vD h;have side: ∀ (b:List A) (y:T),MU b y=0->A9 0 y=0/\Ez [y] b=true:=fun b y hy=>by
  unfold MU at hy;split at hy
  ·rename_i h';exact absurd hy h'
  ·rename_i h5;split at hy
   ·cases hy
   ·rename_i h6;exact⟨Decidable.not_not.1 h5,by simpa using h6⟩
 have gd: ∀ g∈r.guards,ZR g/\Ez [g.a,g.b] r.body=true:=fun g hg=>by
  have:=h4 g hg
  unfold MP at this;split at this
  ·cases this
  ·rename_i h5;split at this
   ·rename_i h';exact absurd this h'
   ·rename_i h6;obtain⟨k1,k2⟩:=side _ _<|Decidable.not_not.1 h6;obtain⟨k3,k4⟩:=side _ _ this;refine⟨⟨h5,k1,k3⟩,?_⟩;simp only[Ez,List.all_cons,List.all_nil,Bool.and_true,Bool.and_eq_true]at k2 k4⊢;exact⟨k2,k4⟩
 refine⟨fun h0=>h1 ?_,zx,zx,vD<|Decidable.not_not.1 h3,fun g hg=>(gd g hg).1,UI.2 fun g hg=>(gd g hg).2⟩
 have:=congrArg List.length h0
 simp[Ld]at this;simp[this]
def Zrr (hw:GX r=0)(hk:Vu r)(hi:(∀ a∈r.body,UN a)/\ ∀ g∈r.guards,Zr g):(∀ p l,At t p (Eb r++l)->WI l-> ∃ x q,BD t p= .ok ((),x,q))/\ ∀ p l x q x' q',At t p (Eb r++l)->WI l->BD t p= .ok ((),x,q)->BD t (p+(Eb r).length)= .ok ((),x',q')->MN t x q= .ok ({r with head:=Jh.head},x',q'):=by
 obtain⟨hne,hb4,hg4,hA,hG,hall⟩:=uf hw;have P: ∀ z,z∈Ld r->lX t z:=fun z hz=>by
  unfold Ld at hz;rcases CY.1 hz with hz | hz
  ·obtain⟨a,ha,rfl⟩:=List.mem_map.1 hz;exact Z22 (hA a ha) (hk a ha)<|hi.1 a ha
  ·obtain⟨g,hg,rfl⟩:=List.mem_map.1 hz;exact Zy1 (hG g hg)<|hi.2 g hg
 have f1:((Ld r).filterMap fun z=>z.getLeft?).length<=4:=by
  have:(Ld r).filterMap (fun z=>z.getLeft?)=r.body:=by simp[Ld,List.filterMap_append,List.filterMap_map,Function.comp_def]
  rw[this];exact hb4
 have f2:((Ld r).filterMap fun z=>z.getRight?).length<=4:=by
  have:(Ld r).filterMap (fun z=>z.getRight?)=r.guards:=by simp[Ld,List.filterMap_append,List.filterMap_map,Function.comp_def]
  rw[this];exact hg4
 have f3:(Ld r).length<=8:=by simp[Ld];omega
 have fold:=Zwp r;have RI: ∀ y ys,Ld r=y::ys-> ∀ p l,At t p (Eb r++l)->At t p (ML y++(ys.flatMap (fun z=>[44,32]++ML z)++l)):=fun y ys e p l h=>by
  unfold Eb at h;rw[e,Ar,GY]at h;exact h
 obtain⟨y,ys,e⟩: ∃ y ys,Ld r=y::ys:=by
  cases he:Ld r with
  | nil=>exact absurd he hne
  | cons y ys=>exact⟨y,ys,rfl⟩
 refine⟨fun p l h hD=>?_,fun p l x q x' q' h hD h0 h1=>?_⟩
 ·refine(P y (by rw[e];exact List.mem_cons_self ..)).first _ _ (RI y ys e p l h) ?_;cases ys with
  | nil=>exact hD.del
  | cons w ys=>exact⟨44,_,rfl,Or.inl rfl⟩
 ·have hx:=hD.tok h.app h1;rw[e]at P f1 f2 f3 fold
  have:=Zsj ys y 9 Jh p x q P (by simp at f3;omega) (by simpa[Jh]using f1) (by simpa[Jh]using f2) (RI y ys e p l h) hD.del h0 (by
   rw[<- h1];unfold Eb;rw[e,Ar]) hx
  rw[fold]at this;unfold MN;rw[Cc this,if_pos hall]
end
end Go.W
namespace Go.W
variable {s:ByteArray}
def PH (r:R):By:=Ec r.head++(32::60::45::32::Eb r)
def Qm (c:List R):By:=Oc++(32::105::102::32::Ar [32,111,114,32] Eb c)
abbrev U4:=A ⊕ (R ⊕ List R)
def Nc:U4->By
 | .inl a=>Ec a
 | .inr (.inl r)=>PH r
 | .inr (.inr c)=>Qm c
def Rj (b:Bk):List U4:=b.facts.map .inl++(b.rules.map (fun r=> .inr (.inl r))++b.checks.map fun c=> .inr (.inr c))
def LW (b:Bk):By:=(Rj b).flatMap fun i=>Nc i++[59,10]
def UD (b:Bk):U4->Bk
 | .inl a=>{b with facts:=b.facts++[a]}
 | .inr (.inl r)=>{b with rules:=b.rules++[r]}
 | .inr (.inr c)=>{b with checks:=b.checks++[c]}
def Zwe (b:Bk):(Rj b).foldl UD ⟨[],[],[]⟩=b:=by
 have h1: ∀ (l:List A) (b:Bk),(l.map fun a=>(.inl a:U4)).foldl UD b={b with facts:=b.facts++l}:=fun l=>by
  induction l with
  | nil=>intro b;simp
  | cons a l ih=>intro b;rw[List.map_cons,List.foldl_cons,ih];simp[UD]
 have h2: ∀ (l:List R) (b:Bk),(l.map fun r=>(.inr (.inl r):U4)).foldl UD b={b with rules:=b.rules++l}:=fun l=>by
  induction l with
  | nil=>intro b;simp
  | cons a l ih=>intro b;rw[List.map_cons,List.foldl_cons,ih];simp[UD]
 have h3: ∀ (l:List (List R)) (b:Bk),(l.map fun c=>(.inr (.inr c):U4)).foldl UD b={b with checks:=b.checks++l}:=fun l=>by
  induction l with
  | nil=>intro b;simp
  | cons a l ih=>intro b;rw[List.map_cons,List.foldl_cons,ih];simp[UD]
 unfold Rj;rw[List.foldl_append,List.foldl_append,h1,h2,h3];simp
def U3 (b:Bk):U4->Prop
 | .inl _=>b.facts.length<24
 | .inr (.inl _)=>b.rules.length<24
 | .inr (.inr _)=>b.checks.length<24
section
variable {t:ByteArray}
structure iP (t:ByteArray) (i:U4):Prop where
 first: ∀ p l,At t p (Nc i++59::l)-> ∃ x q,BD t p= .ok ((),x,q)/\JA x=false
 read: ∀ b p l x q x' q',U3 b i->At t p (Nc i++59::l)->BD t p= .ok ((),x,q)->BD t (p+(Nc i).length)= .ok ((),x',q')->(if x.text.toList=Oc then Rf t b x q else Ns t b x q)= .ok (UD b i,x',q')
def uT {p:Nat}(h:s.size≠0):JA ⟨p,s,0,0,⟨#[]⟩⟩=false:=by
 unfold JA;simp[h]
def Zsc (h:En s=true):s.size≠0:=by
 unfold En at h;simp only[Bool.and_eq_true,decide_eq_true_eq]at h;omega
def Zsa (h:TZ s=false):s.toList≠Oc:=by
 intro e;unfold TZ at h;rw[e]at h;revert h
 decide
def Z9y (l:By):JF (59::l):=⟨59,l,rfl,zu⟩
def Yb1 {a:A}(hw:PP a=0)(hk:XK a)(hi:UN a):iP t (.inl a):=by
 have hA:ER a=0/\Ez a.terms []=true:=by
  unfold PP at hw;split at hw
  ·rename_i h';exact absurd hw h'
  ·rename_i h1;split at hw
   ·cases hw
   ·rename_i h2;exact⟨Decidable.not_not.1 h1,by simpa using h2⟩
 have hn:=(ig hA.1).1;refine⟨fun p l h=>⟨_,_,(Zc hn h).1,uT<|Zsc hn⟩,fun b p l x q x' q' hr h h0 h1=>?_⟩;have R:=(vz (t:=t) hA.1 hk hi).read p _ x q x' q' h (Z9y l) h0 h1;have k1:=(Zc hn h).1;rw[k1]at h0;cases h0;have k2:=(At.app h).one zu;have e1:x'.text.toList≠[60,45]:=by
  rw[k2]at h1;cases h1;exact P8 (s:=[59]) zu
 have kK:b.facts.length<24:=hr;rw[if_neg<|Zsa hk];unfold Ns;rw[Cc R,if_neg e1,if_neg (by rw[hA.2];simp),if_neg zx];rfl
def Ycw {r:R}(hw:MV r=0)(hk:XK r.head/\Vu r)(hi:UM r):iP t (.inr<|.inl r):=by
 have hA:ER r.head=0/\GX r=0/\Ez r.head.terms r.body=true:=by
  unfold MV at hw;split at hw
  ·rename_i h';exact absurd hw h'
  ·rename_i h1;split at hw
   ·rename_i h';exact absurd hw h'
   ·rename_i h2;split at hw
    ·cases hw
    ·rename_i h3;exact⟨Decidable.not_not.1 h1,Decidable.not_not.1 h2,by simpa using h3⟩
 have hn:=(ig hA.1).1;have RI: ∀ p l,At t p (Nc (.inr<|.inl r)++59::l)->At t p (Ec r.head++32::60::45::32::(Eb r++59::l)):=fun p l h=>by
  have e:Nc (.inr<|.inl r)=Ec r.head++(32::60::45::32::Eb r):=rfl;rw[e]at h;simpa using h
 refine⟨fun p l h=>⟨_,_,(Zc hn<|RI p l h).1,uT<|Zsc hn⟩,fun b p l x q x' q' hr h h0 h1=>?_⟩;have h':=RI p l h;have k2:=At.app h';have k3:=k2.next.iM;have k4:=k2.next.next.next;have hB:=Zrr (t:=t) hA.2.1 hk.2 hi.2;obtain⟨xb,qb,k5⟩:=hB.1 _ _ k4.next<|Or.inl ⟨l,rfl⟩;have R:=(vz (t:=t) hA.1 hk.1 hi.1).read p _ x q _ _ h' ⟨32,_,rfl,zu⟩ h0<|(k2.A7 rfl).trans k3;have k6:=hB.2 _ _ xb qb x' q' k4.next (Or.inl ⟨l,rfl⟩) k5 (by
  rw[<- h1];congr 1
  show _=p+(Ec r.head++(32::60::45::32::Eb r)).length;simp only[Bq,BO]
  omega)
 rw[(Zc hn h').1]at h0;cases h0;have kK:b.rules.length<24:=hr;rw[if_neg<|Zsa hk.1];unfold Ns;rw[Cc R,if_pos<|Lm _,Rl<|(k4.A7 rfl).trans k5,Cc k6,if_neg (by rw[hA.2.2];simp),if_neg zx];rfl
def Z8l {c:List R}(hw:Hq c=0)(hk: ∀ r∈c,Vu r)(hi: ∀ r∈c,UM r):iP t (.inr<|.inr c):=by
 have hC:c≠[]/\c.length<=4/\ ∀ r∈c,Og r=0:=by
  unfold Hq at hw;split at hw
  ·cases hw
  ·rename_i h1;obtain⟨h2,h3⟩:=jI hw;exact⟨fun h=>h1 (by rw[h];rfl),h2,h3⟩
 have hR: ∀ r∈c,XI t WI Eb (MN t) r:=fun r hr=>by
  have hb:=hC.2.2 r hr;unfold Og at hb;split at hb
  ·cases hb
  ·rename_i h1;have hB:=Zrr (t:=t) hb (hk r hr) (hi r hr).2;have e:({r with head:=Jh.head}:R)=r:=by
    obtain⟨⟨n,ts⟩,bo,gs⟩:=r;have h2:n=⟨#[]⟩:=iX (by
     have: ¬ (n.size≠0\/0<ts.length):=h1
     omega)
    have h3:ts=[]:=Ht (by
     have: ¬ (n.size≠0\/0<ts.length):=h1
     omega)
    rw[h2,h3];rfl
   rw[e]at hB;exact⟨hB.1,hB.2⟩
 have ifw:En (ba [105,102])=true:=zu
 have RI: ∀ p l,At t p (Nc (.inr<|.inr c)++59::l)->At t p (Oc++32::105::102::32::(Ar [32,111,114,32] Eb c++59::l)):=fun p l h=>by
  have e:Nc (.inr<|.inr c)=Oc++(32::105::102::32::Ar [32,111,114,32] Eb c):=rfl;rw[e]at h;simpa using h
 have tok: ∀ p l,At t p (Nc (.inr<|.inr c)++59::l)->BD t p= .ok ((),⟨p,ba Oc,0,0,⟨#[]⟩⟩,p+5):=fun p l h=>At.word (s:=Oc) (RI p l h) zu (fun c r e=>by cases e;rfl) (fun h=>absurd h zu);refine⟨fun p l h=>⟨_,_,tok p l h,uT (show(ba Oc).size≠0 by decide)⟩,fun b p l x q x' q' hr h h0 h1=>?_⟩;have h':=RI p l h;rw[tok p l h]at h0;cases h0;have k2:At t (p+5) (32::105::102::32::(Ar [32,111,114,32] Eb c++59::l)):=At.app (a:=Oc) h';have k3:BD t (p+5+1)= .ok ((),⟨p+5+1,ba [105,102],0,0,⟨#[]⟩⟩,p+5+1+2):=At.word (s:=[105,102]) k2.next ifw (fun c r e=>by cases e;rfl) fun h=>absurd h zu;have k4:At t (p+5+1+2) (32::(Ar [32,111,114,32] Eb c++59::l)):=k2.next.next.next;obtain⟨y,ys,rfl⟩: ∃ y ys,c=y::ys:=by
  cases c with
  | nil=>exact absurd rfl hC.1
  | cons y ys=>exact⟨y,ys,rfl⟩
 have k5:At t (p+5+1+2+1) (Eb y++(ys.flatMap (fun z=>[32,111,114,32]++Eb z)++59::l)):=by
  have:=k4.next
  rw[Ar,GY]at this;exact this
 have hD:WI (ys.flatMap (fun z=>[32,111,114,32]++Eb z)++59::l):=by
  cases ys with
  | nil=>exact Or.inl ⟨l,rfl⟩
  | cons w ys=>exact Or.inr ⟨_,rfl⟩
 obtain⟨xb,qb,k6⟩:=(hR y<|List.mem_cons_self ..).first _ _ k5 hD;have eH:At t (p+(Nc<|.inr<|.inr<|y::ys).length) (59::l):=At.app h;have e1:x'.text.toList≠[111,114]:=by
  rw[eH.one zu]at h1;cases h1;exact P8 (s:=[59]) zu
 have k7:=uN (most:=4) (Yck t) ys y 5 [] _ xb qb hR (by have:=hC.2.1;simp at this;omega) (by have:=hC.2.1;simp at this⊢;omega) k5 (Or.inl ⟨l,rfl⟩) k6 (x':=x') (q':=q') (by
  rw[<- h1];congr 1
  show _=p+(Oc++(32::105::102::32::Ar [32,111,114,32] Eb (y::ys))).length;rw[Ar];simp only[Bq,BO,show Oc.length=5 from rfl]
  omega) e1
 have kK:b.checks.length<24:=hr;rw[if_pos<|Lm _];unfold Rf Ti;rw[Rl<|(k2.A7 rfl).trans k3,iw (s:=[105,102]) (Lm _)<|(k4.A7 rfl).trans k6,Cc k7,if_neg zx];rfl
def wJ {α β:Type}(l:List α):(l.filterMap fun _=>(none:Option β)).length=0:=by
 induction l with
 | nil=>rfl
 | cons a l ih=>rw[List.filterMap_cons];exact ih
def pU (b:Bk) (is:List U4):Prop:=b.facts.length+(is.filterMap Sum.getLeft?).length<=24/\b.rules.length+(is.filterMap fun i=>i.getRight?.bind Sum.getLeft?).length<=24/\b.checks.length+(is.filterMap fun i=>i.getRight?.bind Sum.getRight?).length<=24
def Zr9: ∀ (is:List U4) (b:Bk) (n p:Nat),(∀ i,i∈is->iP t i)->is.length<n->pU b is->At t p (is.flatMap fun i=>Nc i++[59,10])-> ∃ x q,BD t p= .ok ((),x,q)/\ ∃ x' q',Le t n b x q= .ok (is.foldl UD b,x',q')
 | [],b,n,p,_,hn,_,h=>by
  obtain⟨n,rfl⟩: ∃ m,n=m+1:=⟨n-1,zx⟩;refine⟨_,_,At.SN h,ED t.size,t.size,?_⟩;rw[Le,if_pos (show JA (ED t.size)=true by show(decide ((⟨#[]⟩:ByteArray).size=0) && decide ((0:Int)=0))=true;decide)];rfl
 | i::is,b,n,p,P,hn,hc,h=>by
  obtain⟨n,rfl⟩: ∃ m,n=m+1:=⟨n-1,zx⟩;have h':At t p (Nc i++59::10::is.flatMap fun i=>Nc i++[59,10]):=by
   rw[List.flatMap_cons]at h;simpa using h
  have Pi:=P i<|List.mem_cons_self ..;obtain⟨x,q,k1,k2⟩:=Pi.first p _ h';have k3:=At.app h';have k4:BD t (p+(Nc i).length)= .ok ((),⟨p+(Nc i).length,ba [59],0,0,⟨#[]⟩⟩,p+(Nc i).length+1):=k3.one zu;have room:U3 b i/\pU (UD b i) is:=by
   obtain⟨c1,c2,c3⟩:=hc;rcases i with a | r | c
   ·simp only[List.filterMap_cons,Sum.getLeft?_inl,Sum.getRight?_inl,Option.bind_none,BO]at c1 c2 c3;exact⟨show b.facts.length<24 by omega,show(b.facts++[a]).length+_<=24 by simp;omega,c2,c3⟩
   ·simp only[List.filterMap_cons,Sum.getLeft?_inr,Sum.getLeft?_inl,Sum.getRight?_inr,Sum.getRight?_inl,Option.bind_some,BO]at c1 c2 c3;exact⟨show b.rules.length<24 by omega,c1,show(b.rules++[r]).length+_<=24 by simp;omega,c3⟩
   ·simp only[List.filterMap_cons,Sum.getLeft?_inr,Sum.getRight?_inr,Option.bind_some,BO]at c1 c2 c3;exact⟨show b.checks.length<24 by omega,c1,c2,show(b.checks++[c]).length+_<=24 by simp;omega⟩
  obtain⟨x2,q2,k5,x',q',k6⟩:=Zr9 is (UD b i) n (p+(Nc i).length+1+1) (fun j hj=>P j (List.mem_cons_of_mem _ hj)) (by simp at hn;omega) room.2 k3.next.next;refine⟨x,q,k1,x',q',?_⟩;rw[Le,if_neg (by rw[k2];simp),Cc<|Pi.read b p _ x q _ _ room.1 h' k1 k4,iw (s:=[59]) (Lm _)<|(k3.next.A7 rfl).trans k5,k6];rfl
end
def Zyz {b:Bk}(hw:GV b=0)(hk:lY b)(hi:Na b)(h8:(LW b).length<=8000):Et (ba<|LW b) (Jj<|ba<|LW b)= .ok b:=by
 have hB:ES PP 24 b.facts=0/\ES MV 24 b.rules=0/\ES Hq 24 b.checks=0:=by
  unfold GV at hw;split at hw
  ·rename_i h';exact absurd hw h'
  ·rename_i h1;split at hw
   ·rename_i h';exact absurd hw h'
   ·rename_i h2;exact⟨Decidable.not_not.1 h1,Decidable.not_not.1 h2,hw⟩
 obtain⟨n1,f1⟩:=jI hB.1;obtain⟨n2,f2⟩:=jI hB.2.1;obtain⟨n3,f3⟩:=jI hB.2.2;have P: ∀ i,i∈Rj b->iP (ba<|LW b) i:=fun i UZ=>by
  unfold Rj at UZ;rcases CY.1 UZ with UZ | UZ
  ·obtain⟨a,ha,rfl⟩:=List.mem_map.1 UZ;exact Yb1 (f1 a ha) (hk.facts a ha)<|hi.1 a ha
  ·rcases CY.1 UZ with UZ | UZ
   ·obtain⟨r,hr,rfl⟩:=List.mem_map.1 UZ;exact Ycw (f2 r hr) (hk.rules r hr)<|hi.2.1 r hr
   ·obtain⟨c,hc,rfl⟩:=List.mem_map.1 UZ;exact Z8l (f3 c hc) (hk.checks c hc)<|hi.2.2 c hc
 have hn:pU ⟨[],[],[]⟩ (Rj b):=by
  refine⟨?_,?_,?_⟩
  ·simpa[Rj,List.filterMap_append,List.filterMap_map,Function.comp_def,wJ]using n1
  ·simpa[Rj,List.filterMap_append,List.filterMap_map,Function.comp_def,wJ]using n2
  ·simpa[Rj,List.filterMap_append,List.filterMap_map,Function.comp_def,wJ]using n3
 obtain⟨x,q,k1,x',q',k2⟩:=Zr9 (t:=ba<|LW b) (Rj b) ⟨[],[],[]⟩ 73 0 P (by simp[Rj];omega) hn ⟨by rw[MO];rfl,Ii _⟩;rw[Zwe]at k2;unfold Et;rw[if_neg (by rw[Bh];omega),Cc k1];unfold Jj;rw[k2]
end Go.W
namespace Go.W
variable {m k:Nat}{x:T}
def Z90 {α:Type}(s:By)(f:α->By)(l m:List α):Ar s f (l++m)=Ar s f l++((if l.length=0\/m.length=0 then []else s)++Ar s f m):=by
 cases l with
 | nil=>simp[Ar]
 | cons x l=>cases m with
  | nil=>simp[Ar]
  | cons y m=>simp[Ar]
def Z09 {α β:Type}(s:By)(f:α->By)(g:β->α)(l:List β):Ar s f (l.map g)=Ar s (fun x=>f (g x)) l:=by
 cases l with
 | nil=>rfl
 | cons x l=>simp[Ar,List.flatMap_map]
def Zz9 (r:R):Eb r=Ar [44,32] Ec r.body++((if r.body.length=0\/r.guards.length=0 then []else [44,32])++Ar [44,32] Iq r.guards):=by
 unfold Eb Ld;rw[Z90,Z09,Z09,Nw,Nw];rfl
def vL (b:Bk):LW b=Ed Ec b.facts++(Ed PH b.rules++Ed Qm b.checks):=by
 unfold LW Rj Ed;rw[List.flatMap_append,List.flatMap_append,List.flatMap_map,List.flatMap_map,List.flatMap_map];rfl
def jL {α:Type}{f:α->By}: ∀ {l:List α},(∀ x,x∈l->(f x).length<=m)->(l.flatMap f).length<=l.length*m
 | [],_=>zw
 | x::r,h=>by
  rw[List.flatMap_cons,Bq,BO,Nat.add_mul,Nat.one_mul]
  have:=jL (l:=r) fun y hy=>h y (List.mem_cons_of_mem _ hy)
  have:=h x List.mem_cons_self
  omega
def wK {α:Type}{f:α->By}{l:List α}(hl:l.length<=k)(h: ∀ x,x∈l->(f x).length<=m):(Ed f l).length<=k*(m+2):=by
 have:=jL (f:=fun x=>f x++[59,10]) (m:=m+2) (l:=l) fun x hx=>by rw[Bq];have:=h x hx;exact Nat.add_le_add_right this 2
 exact AU this<|Nat.mul_le_mul_right _ hl
def jE {α:Type}{s:By}{f:α->By}{l:List α}(hl:l.length<=k)(h: ∀ x,x∈l->(f x).length<=m):(Ar s f l).length<=k*(m+s.length):=by
 refine AU ?_<|Nat.mul_le_mul_right _ hl;cases l with
 | nil=>simp[Ar]
 | cons x r=>
  rw[Ar,Bq,BO,Nat.add_mul,Nat.one_mul]
  have:=jL (f:=fun y=>s++f y) (m:=m+s.length) (l:=r) fun y hy=>by rw[Bq];have:=h y<|List.mem_cons_of_mem _ hy;omega
  have:=h x List.mem_cons_self
  omega
def Z6y (s:By):(s.flatMap Em).length<=s.length*6:=jL fun c _=>by
 unfold Em;split
 ·simp
 ·split <;> simp[Hz]
def Z5m (s:By):(s.flatMap Hz).length<=s.length*2:=jL fun c _=>by simp[Hz]
def nP {d:Nat}(h:A9 d x=0)(hi:Ey x.i)(m:Nat)(hm:d≠3-> ∀ y,y∈x.l->(BM y).length<=m):(BM x).length<=400+6*(m+2):=by
 obtain⟨Ej,h6,DN,hk⟩:=Xy h;have hI:=Lib.itoa_length_le x.i (by have:=hi.1;omega) (by have:=hi.2;omega);have hq:=Z6y<|bl x.t;have hh:=Z5m<|bl x.t;have hb:=IR x.t;have hs:x.k=7->(Ar [44,32] BM x.l).length<=6*(m+2):=fun h7=>jE h6 (hm zx);cases x with
 | mk k i t l=>
  simp only[T.k,T.i,T.t,T.l]at*;rw[BM,uk];split
  ·rw[BO];omega
  ·split
   ·omega
   ·split
    ·simp only[BO,Bq,D7];omega
    ·split
     ·simp only[BO];omega
     ·split
      ·simp only[BO];omega
      ·split
       ·split
        ·show 4<=_;omega
        ·show 5<=_;omega
       ·have:=hs zx
        simp only[BO,Bq,D7];omega
def wT (h:A9 0 x=0)(hi:InT 3 x):(BM x).length<=110000:=by
 have b3: ∀ y,A9 3 y=0->InT 0 y->(BM y).length<=412:=fun y hy q=>nP hy q.i 0 fun h=>absurd rfl h;have b2: ∀ y,A9 2 y=0->InT 1 y->(BM y).length<=2884:=fun y hy q=>nP hy q.i 412 fun _ z hz=>b3 z ((Xy hy).2.2.1 z hz) (q.2 z hz);have XG: ∀ y,A9 1 y=0->InT 2 y->(BM y).length<=17716:=fun y hy q=>nP hy q.i 2884 fun _ z hz=>b2 z ((Xy hy).2.2.1 z hz) (q.2 z hz)
 have:=nP h hi.i 17716 fun _ z hz=>XG z ((Xy h).2.2.1 z hz) (hi.2 z hz)
 omega
def wP {x:A}(h:ER x=0)(hi:UN x):(Ec x).length<=700000:=by
 obtain⟨h1,h2,h3⟩:=kD h
 have:=jE (s:=[44,32]) (f:=BM) (m:=110000) h2 fun y hy=>wT (h3 y hy) (hi y hy)
 have e2:([44,32]:By).length=2:=rfl;have hb:=IR x.name;unfold Ec;simp only[BO,Bq,D7];simp only[e2]at this;omega
def Zpx (op:Int):(Vs op).length<=2:=by
 unfold Vs;generalize op.toNat-1=k;match k with
 | 0=>decide
 | 1=>decide
 | 2=>decide
 | 3=>decide
 | 4=>decide
 | 5=>decide
 | 6=>decide
 | k+7=>show(bl ⟨#[]⟩).length<=2;decide
def Zv6 {x:G}(h:A9 0 x.a=0/\A9 0 x.b=0)(hi:Zr x):(Iq x).length<=230000:=by
 have:=wT h.1 hi.1
 have:=wT h.2 hi.2
 have:=Zpx x.op
 unfold Iq;simp only[BO,Bq];omega
def Zox {x:R}(h:GX x=0)(hi:UM x):(Eb x).length<=4000000:=by
 obtain⟨_,h1,h2,h3,h4,_⟩:=uf h;have a:=jE (s:=[44,32]) (f:=Ec) (m:=700000) h1 fun y hy=>wP (h3 y hy) (hi.2.1 y hy);have b:=jE (s:=[44,32]) (f:=Iq) (m:=230000) h2 fun y hy=>Zv6 (h4 y hy).2 (hi.2.2 y hy);have e2:([44,32]:By).length=2:=rfl;simp only[e2]at a b;rw[Zz9];simp only[Bq];split
 ·rw[D7];omega
 ·rw[e2];omega
def Zze {x:R}(h:MV x=0)(hi:UM x):(PH x).length<=4800000:=by
 obtain⟨q1,q2⟩:=Ie h
 have:=wP q1 hi.1
 have:=Zox (Ie q2).1 hi
 unfold PH;simp only[BO,Bq];omega
def Zvg {x:List R}(h:Hq x=0)(hi: ∀ r,r∈x->UM r):(Qm x).length<=16100000:=by
 obtain⟨q1,q2⟩:=yz h;have a:=jE (s:=[32,111,114,32]) (f:=Eb) (m:=4000000) q1 fun y hy=>Zox (q2 y hy) (hi y hy);have e4:([32,111,114,32]:By).length=4:=rfl;have e5:Oc.length=5:=rfl;simp only[e4]at a;unfold Qm;simp only[BO,Bq,e5];omega
def Znb {x:Bk}(h:GV x=0)(hi:Na x):(LW x).length<900000000:=by
 obtain⟨SX,h⟩:=Ie h;obtain⟨SV,SQ⟩:=Ie h;have a:=wK (f:=Ec) (m:=700000) (JP SX).1 fun y hy=>wP (Ie<|(JP SX).2 y hy).1 (hi.1 y hy);have b:=wK (f:=PH) (m:=4800000) (JP SV).1 fun y hy=>Zze ((JP SV).2 y hy) (hi.2.1 y hy);have c:=wK (f:=Qm) (m:=16100000) (JP SQ).1 fun y hy=>Zvg ((JP SQ).2 y hy) (hi.2.2 y hy);rw[vL];simp only[Bq];omega
end Go.W
namespace Go.W
def Yce {op:Int}(h: ¬ (op<1\/7<op)): ∃ k m,op=((k+1:Nat):Int)/\k<7/\JO[k]?=some m/\Vs op=bl m/\m.size<=2:=by
 obtain⟨k,hk⟩: ∃ k:Nat,op=((k+1:Nat):Int):=⟨op.toNat-1,zx⟩;have h7:k<7:=zx
 have hl:k<JO.length:=h7;have hm:Vs op=bl JO[k]:=by
  unfold Vs;rw[show op.toNat-1=k by omega,List.getD_eq_getElem?_getD,DK hl];rfl
 refine⟨k,JO[k],hk,h7,DK hl,hm,?_⟩
 have:=Zpx op
 rw[hm,IR]at this;exact this
end Go.W
namespace Go.P
variable {a:Nat->Addr}{B D b:Nat}{s:ByteArray}{w:World}{vs:List Value}
def Ztm:Bj 159:=DL func159 zt rfl
def Zvy:Bj 105:=DL func105 zt rfl
def Z27 {x:G}(Z:Aa a w)(PW:Oa w)(hg:23<=B)(h:Ak 78 B b s w)(hB:B<=w.heap.size)(hS:LY B w D vs x)(Az:ZR x)(hs:s.size+(Iq x).length<999000000):
  Calls prog 159 #[.pointer<|Qb b 0,.agg vs.toArray] w (Df 78 B b (s++ba (Iq x)) w):=by
 obtain⟨hop,VS,UW⟩:=Az;obtain⟨k,m,hk,aQ,hm,Sv,S8⟩:=Yce hop;obtain⟨va,vb,rfl,ho,ha,hb⟩:=hS;have hz:(Iq x).length=(BM x.a).length+m.size+(BM x.b).length+2:=by
  unfold Iq;simp only[Bq,BO,Sv,IR];omega
 have E:AC (s++ba (Iq x)=s++ba (BM x.a)++b1 32++m++b1 32++ba (BM x.b)):=⟨by
  unfold Iq;rw[Sv,Dz,show ba (32::(bl m++32::BM x.b))=b1 32++(m++(b1 32++ba (BM x.b)))from by
   rw[show b1 32=ba [32]from Vv 32,<- IQ m,MO,<- Dz,<- Dz,<- Dz];rfl]
  simp only[Bw]⟩
 have ZZ:=AA fun u (hu:Fr B b w u)=>AF (XZ Z hg hu) (PW.fr hg hu.below);have MM:=AA fun u (hu:Fr B b w u) j y hj=>(ZZ.out u hu).1.ops j y hj;have AX:b<w.heap.size:=by obtain⟨_,_,_,q,_,_⟩:=h.form;exact q.lt
 have CA:=AA fun u (hu:Ak 78 B b s u) (hf:Fr B b w u)=>vI 0 zx (ZZ.out _ hf).1 (ZZ.out _ hf).2 hg hu (AU hB hf.size) (Dn.carry ha<|Go.W.Below.carry hf.below lr) VS zx;have CB:=AA fun u (hu:Ak 78 B b (s++ba (BM x.a)++b1 32++m++b1 32) u) (hf:Fr B b w u)=>vI 0 zx (ZZ.out _ hf).1 (ZZ.out _ hf).2 hg hu (AU hB hf.size) (Dn.carry hb<|Go.W.Below.carry hf.below lr) UW (by rw[Ae,Ae,Ae,Ae,E6,Bh];omega);have C1:=AA fun u (hu:Ak 78 B b (s++ba (BM x.a)) u) (hf:Fr B b w u)=>Jn FX hu 32 zx (by rw[Ae,Bh];omega) (AU hB hf.size);have C2:=AA fun u (hu:Ak 78 B b (s++ba (BM x.a)++b1 32) u) (hf:Fr B b w u)=>KT FX hu m (by rw[Ae,Ae,E6,Bh];omega) (AU hB hf.size);have C3:=AA fun u (hu:Ak 78 B b (s++ba (BM x.a)++b1 32++m) u) (hf:Fr B b w u)=>Jn FX hu 32 zx (by rw[Ae,Ae,Ae,E6,Bh];omega) (AU hB hf.size);obtain⟨p1,c1,rfl,_⟩:=ha;obtain⟨p2,c2,rfl,_⟩:=hb;rw[hk];have B0:=AA<|(Fr.refl B b w).alloc hB<|.cells #[.int .i64 ((k+1:Nat):Int),.int .i64 x.a.k,.int .i64 x.a.i,.string x.a.t,.slice p1 x.a.l.length c1,.int .i64 x.b.k,.int .i64 x.b.i,.string x.b.t,.slice p2 x.b.l.length c2] 102;have L0:=AA<|AJ.new w #[.int .i64 ((k+1:Nat):Int),.int .i64 x.a.k,.int .i64 x.a.i,.string x.a.t,.slice p1 x.a.l.length c1,.int .i64 x.b.k,.int .i64 x.b.i,.string x.b.t,.slice p2 x.b.l.length c2] 102;have CX:=AA<|CA.out _ (h.alloc<|.cells #[.int .i64 ((k+1:Nat):Int),.int .i64 x.a.k,.int .i64 x.a.i,.string x.a.t,.slice p1 x.a.l.length c1,.int .i64 x.b.k,.int .i64 x.b.i,.string x.b.t,.slice p2 x.b.l.length c2] 102) B0.out;have HM:=AA hm;clear h hs hz hop hk ho Z PW CA Sv S8 VS UW hm;go_in
 go_wp2_with fail
 refine CX.out.mono ?_;rintro e w1 ⟨rfl,hb1,Ag⟩;have F1:=AA<|AF hb1<|B0.out.trans Ag;have L1:=AA<|Ag.blk (L:=w.heap.size) L0.out zx zu;clear hb1 Ag CX;go_wp2_with fail
 refine(C1.out _ F1.out.1 F1.out.2).mono ?_;rintro e w2 ⟨rfl,hb2,hw2⟩;have F2:=AA<|AF hb2<|F1.out.2.trans hw2;have L2:=AA<|hw2.blk (L:=w.heap.size) L1.out zx zu;obtain⟨y0,y1,y2,y3,y4,y5,y6,y7,y8,sf⟩:=L2.out.nine;have mk:=MM.out _ F2.out.2 k m HM.out;have hk7':(k:Int)<7:=zx
 have hwr:IntKind.i64.wrap (k:Int)=(k:Int):=by rw[IntKind.wrap_i64];omega
 have C2':=AA<|C2.out _ F2.out.1.drew F2.out.2.drew;clear hb2 hw2 C1 C2 MM;go_wp2
 go_region_with (go_at_call 78;refine C2'.out.mono ?_;rintro e w3 ⟨rfl,hb3,hw3⟩)
 have F3:=AA<|AF hb3<|F2.out.2.drew.trans hw3;have L3:=AA<|hw3.blk (L:=w.heap.size) L2.out zx zu;clear hb3 hw3 C2' mk y0 y1 y2 y3 y4 y5 y6 y7 y8 sf;go_wp2_with fail
 refine(C3.out _ F3.out.1 F3.out.2).mono ?_;rintro e w4 ⟨rfl,hb4,hw4⟩;have F4:=AA<|AF hb4<|F3.out.2.trans hw4;obtain⟨y0,y1,y2,y3,y4,y5,y6,y7,y8,sf⟩:=(hw4.blk (L:=w.heap.size) L3.out zx zu).nine;clear hb4 hw4 C3;go_wp2_with fail
 refine(CB.out _ F4.out.1 F4.out.2).mono ?_;rintro e w5 ⟨rfl,Bf,Pe⟩;have F5:=AA<|AF Bf<|F4.out.2.trans Pe;clear Bf Pe CB;go_wp2
 go_end0
 exact⟨rfl,by rw[E.out];exact F5.out.1,F5.out.2⟩
def Zws {x:R}(Z:Aa a w)(PW:Oa w)(hg:23<=B)(h:Ak 78 B b s w)(hB:B<=w.heap.size)(hS:GR B w D vs x)(Az:GX x=0)(hs:s.size+(Eb x).length<999000000):
  Calls prog 105 #[.pointer<|Qb b 0,.agg vs.toArray] w (Df 78 B b (s++ba (Eb x)) w):=by
 obtain⟨_,_,_,fG,fF,_⟩:=uf Az;obtain⟨va,p1,c1,p2,c2,rfl,⟨p0,c0,rfl,_⟩,_,hr1,_,hr2⟩:=hS;have e2:([44,32]:By).length=2:=rfl;have hE:(¬ (0<x.body.length/\0<x.guards.length)/\ba (Eb x)=ba (Ar [44,32] Ec x.body)++ba (Ar [44,32] Iq x.guards)/\(Eb x).length=(Ar [44,32] Ec x.body).length+(Ar [44,32] Iq x.guards).length)\/((0<x.body.length/\0<x.guards.length)/\ba (Eb x)=ba (Ar [44,32] Ec x.body)++(ba [44,32]++ba (Ar [44,32] Iq x.guards))/\(Eb x).length=(Ar [44,32] Ec x.body).length+2+(Ar [44,32] Iq x.guards).length):=by
  rw[Zz9];by_cases h0:x.body.length=0\/x.guards.length=0
  ·rw[if_pos h0];exact .inl ⟨zx,by rw[FK,Dz],by rw[FK,Bq]⟩
  ·rw[if_neg h0];exact .inr ⟨zx,by rw[Dz,Dz],by rw[Bq,Bq,e2];omega⟩
 have ZZ:=AA fun u (hu:Fr B b w u)=>AF (XZ Z hg hu) (PW.fr hg hu.below);have B0:=AA<|(Fr.refl B b w).alloc hB<|.cells #[.string x.head.name,.slice p0 x.head.terms.length c0,.slice p1 x.body.length c1,.slice p2 x.guards.length c2] 98;have L0:=AA<|AJ.new w #[.string x.head.name,.slice p0 x.head.terms.length c0,.slice p1 x.body.length c1,.slice p2 x.guards.length c2] 98;have AX:b<w.heap.size:=by obtain⟨_,_,_,q,_,_⟩:=h.form;exact q.lt
 have Dw:=G6;have Fp:s.size+(Ar [44,32] Ec x.body).length+(Ar [44,32] Iq x.guards).length<999000000:=by rcases hE with⟨_,_,q⟩ | ⟨_,_,q⟩ <;> omega
 have C1:=AA (Zmt (c:=c1) (B:=B) (D:=D) (sp:=ba [44,32]) Zng (first:=#[.pointer<|Qb b 0]) (cap:=#[]) (f:=Ec) (h.alloc<|.cells #[.string x.head.name,.slice p0 x.head.terms.length c0,.slice p1 x.body.length c1,.slice p2 x.guards.length c2] 98) (by rw[MO];omega) (hr1.carry fun _ _ _ r=>r.carry (Go.W.Below.carry B0.out.below lr) lr) (AU hB B0.out.size) fun u2 vs y s' hy Dh hf2 hS hz=>vJ (ZZ.out _<|B0.out.trans hf2).1 (ZZ.out _<|B0.out.trans hf2).2 hg Dh (AU hB (B0.out.trans hf2).size) hS (fG y hy) hz);have CM:=AA (fun u s2 (hs2:s2.size+(Ar [44,32] Iq x.guards).length<999000000) (hu:Ak 78 B b s2 u) (hf:Fr B b w u)=>Zlt (c:=c2) (B:=B) (D:=D) (sp:=ba [44,32]) Ztm (first:=#[.pointer<|Qb b 0]) (cap:=#[]) (f:=Iq) hu (by rw[MO];omega) (hr2.carry fun _ _ _ r=>r.carry (Go.W.Below.carry hf.below lr) lr) (AU hB hf.size) fun u2 vs y s' hy Dh hf2 hS hz=>Z27 (ZZ.out _<|hf.trans hf2).1 (ZZ.out _<|hf.trans hf2).2 hg Dh (AU hB (hf.trans hf2).size) hS (fF y hy) hz);have HE:=AA hE;have CS:=AA fun u (hu:Ak 78 B b (s++ba (Ar [44,32] Ec x.body)) u) (hf:Fr B b w u)=>KT FX hu (ba [44,32]) (by rw[Ae,Bh,Bh,e2];omega) (AU hB hf.size);clear h hr1 hr2 fG fF Az Z PW hE e2;go_in
 go_wp2_with fail
 refine C1.out.mono ?_;rintro e w1 ⟨rfl,hb1,Ag⟩;rw[MO]at hb1;have F1:=AA<|AF hb1<|B0.out.trans Ag;have L1:=AA<|Ag.blk (L:=w.heap.size) L0.out zx zu;clear hb1 Ag C1;obtain⟨y0,y1,y2,y3,sf⟩:=L1.out.four;rcases HE.out with⟨g,e,hz⟩ | ⟨⟨g1,g2⟩,e,hz⟩
 ·have E:=AA e;have C2:=AA<|CM.out _ _ (by rw[Ae,Bh];omega) F1.out.1 F1.out.2;clear e CM CS HE hz Fp hs;by_cases h0:0<x.body.length
  ·have gi:0<(x.body.length:Int):=zx
   have gj: ¬ 0<(x.guards.length:Int):=zx
   clear g h0;go_wp2_with fail
   refine C2.out.mono ?_;rintro e w2 ⟨rfl,hb2,hw2⟩;rw[MO]at hb2;have F2:=AA<|AF hb2<|F1.out.2.trans hw2;clear hb2 hw2 C2;go_wp2
   go_end0
   exact⟨rfl,by rw[E.out,<- Bw];exact F2.out.1,F2.out.2⟩
  ·have gi: ¬ 0<(x.body.length:Int):=zx
   clear g h0;go_wp2_with fail
   refine C2.out.mono ?_;rintro e w2 ⟨rfl,hb2,hw2⟩;rw[MO]at hb2;have F2:=AA<|AF hb2<|F1.out.2.trans hw2;clear hb2 hw2 C2;go_wp2
   go_end0
   exact⟨rfl,by rw[E.out,<- Bw];exact F2.out.1,F2.out.2⟩
 ·have E:=AA e;have gi:0<(x.body.length:Int):=zx
  have gj:0<(x.guards.length:Int):=zx
  have C2:=AA<|CS.out _ F1.out.1 F1.out.2;have CN:=AA fun u=>CM.out u (s++ba (Ar [44,32] Ec x.body)++ba [44,32]) (by rw[Ae,Ae,Bh,Bh,show([44,32]:By).length=2 from rfl];omega);clear e CM CS HE hz Fp hs g1 g2;go_wp2_with fail
  refine C2.out.mono ?_;rintro e w2 ⟨rfl,hb2,hw2⟩;have F2:=AA<|AF hb2<|F1.out.2.trans hw2;clear y0 y1 y2 y3 sf;obtain⟨y0,y1,y2,y3,sf⟩:=(hw2.blk (L:=w.heap.size) L1.out zx zu).four;clear hb2 hw2 C2;go_wp2_with fail
  refine(CN.out _ F2.out.1 F2.out.2).mono ?_;rintro e w3 ⟨rfl,hb3,hw3⟩;rw[MO]at hb3;have F3:=AA<|AF hb3<|F2.out.2.trans hw3;clear hb3 hw3 CN;go_wp2
  go_end0
  exact⟨rfl,by rw[E.out,<- Bw,<- Bw];exact F3.out.1,F3.out.2⟩
end Go.P
namespace Go.P
variable {a:Nat->Addr}{B D b:Nat}{s:ByteArray}{w:World}{vs:List Value}
def Zvz:Bj 53:=DL func53 zt rfl
def Ztl:Bj 55:=DL func55 zt rfl
def Z6t {x:R}(Z:Aa a w)(PW:Oa w)(hg:23<=B)(h:Ak 78 B b s w)(hB:B<=w.heap.size)(hS:GR B w D vs x)(Az:MV x=0)(hs:s.size+(PH x).length<999000000):
  Calls prog 53 #[.pointer<|Qb b 0,.agg vs.toArray] w (Df 78 B b (s++ba (PH x)) w):=by
 obtain⟨YU,Ot⟩:=Ie Az;have Ot:=(Ie Ot).1;have e4:([32,60,45,32]:By).length=4:=rfl;have hz:(PH x).length=(Ec x.head).length+4+(Eb x).length:=by
  unfold PH;simp only[Bq,BO];omega
 have E:AC (s++ba (PH x)=s++ba (Ec x.head)++ba [32,60,45,32]++ba (Eb x)):=⟨by
  unfold PH;rw[Dz,show ba (32::60::45::32::Eb x)=ba [32,60,45,32]++ba (Eb x)from Dz [32,60,45,32]<|Eb x];simp only[Bw]⟩
 have ZZ:=AA fun u (hu:Fr B b w u)=>AF (XZ Z hg hu) (PW.fr hg hu.below);have CB:=AA fun u (hu:Ak 78 B b (s++ba (Ec x.head)++ba [32,60,45,32]) u) (hf:Fr B b w u)=>Zws (ZZ.out _ hf).1 (ZZ.out _ hf).2 hg hu (AU hB hf.size) (GR.carry hS<|Go.W.Below.carry hf.below lr) Ot (by rw[Ae,Ae,Bh,Bh,e4];omega);obtain⟨va,p1,c1,p2,c2,rfl,hA,_,hr1,_,hr2⟩:=hS;have CA:=AA fun u (hu:Ak 78 B b s u) (hf:Fr B b w u)=>vJ (ZZ.out _ hf).1 (ZZ.out _ hf).2 hg hu (AU hB hf.size) (FM.carry hA<|Go.W.Below.carry hf.below lr) YU zx;have CS:=AA fun u (hu:Ak 78 B b (s++ba (Ec x.head)) u) (hf:Fr B b w u)=>KT FX hu (ba [32,60,45,32]) (by rw[Ae,Bh,Bh,e4];omega) (AU hB hf.size);obtain⟨p0,c0,rfl,_⟩:=hA;have B0:=AA<|(Fr.refl B b w).alloc hB<|.cells #[.string x.head.name,.slice p0 x.head.terms.length c0,.slice p1 x.body.length c1,.slice p2 x.guards.length c2] 98;have L0:=AA<|AJ.new w #[.string x.head.name,.slice p0 x.head.terms.length c0,.slice p1 x.body.length c1,.slice p2 x.guards.length c2] 98;have AX:b<w.heap.size:=by obtain⟨_,_,_,q,_,_⟩:=h.form;exact q.lt
 have C1:=AA<|CA.out _ (h.alloc<|.cells #[.string x.head.name,.slice p0 x.head.terms.length c0,.slice p1 x.body.length c1,.slice p2 x.guards.length c2] 98) B0.out;clear h hr1 hr2 Az hs hz CA Z PW e4;go_in
 go_wp2_with fail
 refine C1.out.mono ?_;rintro e w1 ⟨rfl,hb1,Ag⟩;have F1:=AA<|AF hb1<|B0.out.trans Ag;have L1:=AA<|Ag.blk (L:=w.heap.size) L0.out zx zu;clear hb1 Ag C1;go_wp2_with fail
 refine(CS.out _ F1.out.1 F1.out.2).mono ?_;rintro e w2 ⟨rfl,hb2,hw2⟩;have F2:=AA<|AF hb2<|F1.out.2.trans hw2;obtain⟨y0,y1,y2,y3,sf⟩:=(hw2.blk (L:=w.heap.size) L1.out zx zu).four;clear hb2 hw2 CS;go_wp2_with fail
 refine(CB.out _ F2.out.1 F2.out.2).mono ?_;rintro e w3 ⟨rfl,hb3,hw3⟩;have F3:=AA<|AF hb3<|F2.out.2.trans hw3;clear hb3 hw3 CB;go_wp2
 go_end0
 exact⟨rfl,by rw[E.out];exact F3.out.1,F3.out.2⟩
def Z26 {x:List R}(Z:Aa a w)(PW:Oa w)(hg:23<=B)(h:Ak 78 B b s w)(hB:B<=w.heap.size)(hS:P6 B w D vs x)(Az:Hq x=0)(hs:s.size+(Qm x).length<999000000):
  Calls prog 55 #[.pointer<|Qb b 0,.agg vs.toArray] w (Df 78 B b (s++ba (Qm x)) w):=by
 obtain⟨p,c,rfl,_,hr⟩:=hS;have e9:([99,104,101,99,107,32,105,102,32]:By).length=9:=rfl;have hL:Qm x=[99,104,101,99,107,32,105,102,32]++Ar [32,111,114,32] Eb x:=rfl;have hz:(Qm x).length=9+(Ar [32,111,114,32] Eb x).length:=by rw[hL,Bq,e9]
 have E:AC (s++ba (Qm x)=s++ba [99,104,101,99,107,32,105,102,32]++ba (Ar [32,111,114,32] Eb x)):=⟨by rw[hL,Dz,Bw]⟩;have ZZ:=AA fun u (hu:Fr B b w u)=>AF (XZ Z hg hu) (PW.fr hg hu.below);have B0:=AA<|(Fr.refl B b w).alloc hB<|.cells #[.slice p x.length c] 65;have L0:=AA<|AJ.new w #[.slice p x.length c] 65;have AX:b<w.heap.size:=by obtain⟨_,_,_,q,_,_⟩:=h.form;exact q.lt
 have Dw:=G6;have CS:=AA<|KT FX (h.alloc<|.cells #[.slice p x.length c] 65) (ba [99,104,101,99,107,32,105,102,32]) (by rw[Bh,e9];omega)<|AU hB B0.out.size;have CM:=AA (fun u (hu:Ak 78 B b (s++ba [99,104,101,99,107,32,105,102,32]) u) (hf:Fr B b w u)=>Zmu (c:=c) (B:=B) (D:=D) (sp:=ba [32,111,114,32]) Zvy (first:=#[.pointer<|Qb b 0]) (cap:=#[]) (f:=Eb) hu (by rw[MO,Ae,Bh,e9];omega) (hr.carry fun _ _ _ r=>r.carry (Go.W.Below.carry hf.below lr) lr) (AU hB hf.size) fun u2 vs y s' hy Dh hf2 hS hz=>Zws (ZZ.out _<|hf.trans hf2).1 (ZZ.out _<|hf.trans hf2).2 hg Dh (AU hB (hf.trans hf2).size) hS (Yf0 Az y hy) hz);clear h hr Az hs hz hL e9 Z PW;go_in
 go_wp2_with fail
 refine CS.out.mono ?_;rintro e w1 ⟨rfl,hb1,Ag⟩;have F1:=AA<|AF hb1<|B0.out.trans Ag;have y0:w1.cell? ⟨w.heap.size,0,none⟩=some (.slice p x.length c):=(Ag.blk (L:=w.heap.size) L0.out zx zu).cell 0;clear hb1 Ag CS;go_wp2_with fail
 refine(CM.out _ F1.out.1 F1.out.2).mono ?_;rintro e w2 ⟨rfl,hb2,hw2⟩;rw[MO]at hb2;have F2:=AA<|AF hb2<|F1.out.2.trans hw2;clear hb2 hw2 CM;go_wp2
 go_end0
 exact⟨rfl,by rw[E.out];exact F2.out.1,F2.out.2⟩
def Z25 {x:Bk}(Z:Aa a w)(PW:Oa w)(hg:23<=B)(h:Ak 78 B b s w)(hB:B<=w.heap.size)(hS:DW B w D vs x)(Az:GV x=0)(hs:s.size+(LW x).length<999000000):
  Calls prog 25 #[.pointer<|Qb b 0,.agg vs.toArray] w (Df 78 B b (s++ba (LW x)) w):=by
 obtain⟨SX,Az⟩:=Ie Az;obtain⟨SV,SQ⟩:=Ie Az;obtain⟨p,c,p1,c1,p2,c2,rfl,_,hr,_,hr1,_,hr2⟩:=hS;have hz:(LW x).length=(Ed Ec x.facts).length+((Ed PH x.rules).length+(Ed Qm x.checks).length):=by rw[vL,Bq,Bq]
 have E:AC (s++ba (LW x)=s++ba (Ed Ec x.facts)++ba (Ed PH x.rules)++ba (Ed Qm x.checks)):=⟨by rw[vL,Dz,Dz,Bw,Bw]⟩;have ZZ:=AA fun u (hu:Fr B b w u)=>AF (XZ Z hg hu) (PW.fr hg hu.below);have B0:=AA<|(Fr.refl B b w).alloc hB<|.cells #[.slice p x.facts.length c,.slice p1 x.rules.length c1,.slice p2 x.checks.length c2] 38;have L0:=AA<|AJ.new w #[.slice p x.facts.length c,.slice p1 x.rules.length c1,.slice p2 x.checks.length c2] 38;have AX:b<w.heap.size:=by obtain⟨_,_,_,q,_,_⟩:=h.form;exact q.lt
 have Dw:=G6;have C1:=AA (Zp5 (c:=c) (B:=B) (D:=D) Zng (first:=#[.pointer<|Qb b 0]) (cap:=#[]) (f:=Ec) (h.alloc<|.cells #[.slice p x.facts.length c,.slice p1 x.rules.length c1,.slice p2 x.checks.length c2] 38) zx (hr.carry fun _ _ _ r=>r.carry (Go.W.Below.carry B0.out.below lr) lr) (AU hB B0.out.size) fun u2 vs y s' hy Dh hf2 hS hz=>vJ (ZZ.out _<|B0.out.trans hf2).1 (ZZ.out _<|B0.out.trans hf2).2 hg Dh (AU hB (B0.out.trans hf2).size) hS (Ie<|(JP SX).2 y hy).1 hz);have CM:=AA (fun u (hu:Ak 78 B b (s++ba (Ed Ec x.facts)) u) (hf:Fr B b w u)=>Zp6 (c:=c1) (B:=B) (D:=D) Zvz (first:=#[.pointer<|Qb b 0]) (cap:=#[]) (f:=PH) hu (by rw[Ae,Bh];omega) (hr1.carry fun _ _ _ r=>r.carry (Go.W.Below.carry hf.below lr) lr) (AU hB hf.size) fun u2 vs y s' hy Dh hf2 hS hz=>Z6t (ZZ.out _<|hf.trans hf2).1 (ZZ.out _<|hf.trans hf2).2 hg Dh (AU hB (hf.trans hf2).size) hS ((JP SV).2 y hy) hz);have CN:=AA (fun u (hu:Ak 78 B b (s++ba (Ed Ec x.facts)++ba (Ed PH x.rules)) u) (hf:Fr B b w u)=>Zoa (c:=c2) (B:=B) (D:=D) Ztl (first:=#[.pointer<|Qb b 0]) (cap:=#[]) (f:=Qm) hu (by rw[Ae,Ae,Bh,Bh];omega) (hr2.carry fun _ _ _ r=>r.carry (Go.W.Below.carry hf.below lr) lr) (AU hB hf.size) fun u2 vs y s' hy Dh hf2 hS hz=>Z26 (ZZ.out _<|hf.trans hf2).1 (ZZ.out _<|hf.trans hf2).2 hg Dh (AU hB (hf.trans hf2).size) hS ((JP SQ).2 y hy) hz);clear h hr hr1 hr2 Az SX SV SQ hs hz Z PW;go_in
 go_wp2_with fail
 refine C1.out.mono ?_;rintro e w1 ⟨rfl,hb1,Ag⟩;have F1:=AA<|AF hb1<|B0.out.trans Ag;have L1:=AA<|Ag.blk (L:=w.heap.size) L0.out zx zu;obtain⟨y0,y1,y2,sf⟩:=L1.out.three;clear hb1 Ag C1;go_wp2_with fail
 refine(CM.out _ F1.out.1 F1.out.2).mono ?_;rintro e w2 ⟨rfl,hb2,hw2⟩;have F2:=AA<|AF hb2<|F1.out.2.trans hw2;have L2:=AA<|hw2.blk (L:=w.heap.size) L1.out zx zu;clear y0 y1 y2 sf hb2 hw2 CM;obtain⟨y0,y1,y2,sf⟩:=L2.out.three;go_wp2_with fail
 refine(CN.out _ F2.out.1 F2.out.2).mono ?_;rintro e w3 ⟨rfl,hb3,hw3⟩;have F3:=AA<|AF hb3<|F2.out.2.trans hw3;clear hb3 hw3 CN;go_wp2
 go_end0
 exact⟨rfl,by rw[E.out];exact F3.out.1,F3.out.2⟩
end Go.P
namespace Go.P
variable {a:Nat->Addr}{w:World}{B D:Nat}{vs:List Value}{x:Bk}
def Aa.most (h:Aa a w):23<=w.heap.size:=by
 obtain⟨_,_,h1⟩:=h
 have:=(h1 (23-1) 0 zu).1
 omega
def Z6s (V:E8)(Z:Aa a w)(PW:Oa w)(hB:B<=w.heap.size)(hS:DW B w D vs x)(hn:GV x=0)(hi:Na x):
  Calls prog 15 #[.agg vs.toArray] w fun e w'=>e= .returned (.tuple #[.string<|ba<|LW x,.nilIface])/\Bl w w':=by
 have C1:=AA fun u (hu:Bl w u)=>nV V (Z.below hu) (AU hB hu.size) (DW.carry hS<|BJ hu hB);have CB:=AA fun u v b (hu:Bl w u) (hv:w.heap.size<=v) (qC:v<=u.heap.size) (hb:Ak 78 v b ByteArray.empty u)=>Z25 (Z.below hu) (PW.fr Z.most hu) (AU Z.most hv) hb qC (DW.carry (DW.carry hS<|BJ hu hB)<|Dy.up<|AU hB hv) hn (by have:=Znb hn hi;simp;omega);have eZ:=Znb hn hi;obtain⟨p,c,p1,c1,p2,c2,rfl,_⟩:=hS;rw[hn]at C1;clear Z PW hn hi;go_in
 go_wp2_with fail
 refine(C1.out _<|(AQ w.heap.size w).alloc lr _).mono ?_;rintro e w1 ⟨rfl,hb⟩;have B1:=AA<|((AQ w.heap.size w).alloc lr _).trans<|hb.mono zw;have L1:=AA<|PO (AJ.new w #[.slice p x.facts.length c,.slice p1 x.rules.length c1,.slice p2 x.checks.length c2] 38) hb;have hs1:=B1.out.size;clear hb;have y0:=fun o=>(L1.out.alloc o).three.1;have y1:=fun o=>(L1.out.alloc o).three.2.1;have y2:=fun o=>(L1.out.alloc o).three.2.2.1;have BN:=AA<|Lib.fresh_isBuilder 78 5 w1;have CC:=AA<|CB.out _ w1.heap.size _ (B1.out.alloc hs1 _) zx zw (show Ak 78 w1.heap.size w1.heap.size ByteArray.empty (w1.alloc<|.cells #[.pointer none,.slice none 0 0] 78)from BN.out);clear CB C1 BN;rw[Ih];go_wp2_with fail
 refine CC.out.mono ?_;rintro e w2 ⟨rfl,hb2,hw2⟩;rw[show ByteArray.empty++ba (LW x)=ba (LW x)by simp]at hb2;have B2:=AA<|(B1.out.alloc hs1 _).trans<|hw2.below.mono hs1;have CS:=AA<|wG hb2 (by rw[Bh];omega) (by have:=hw2.size;simp at this;omega);clear y0 y1 y2 hb2 hw2 CC eZ;go_wp2_with (go_at_call 26;refine mq CS.out ?_;rintro w4 hb4)
 go_ret2
 exact⟨rfl,B2.out.trans<|hb4.mono hs1⟩
def Z28 (V:E8)(Z:Aa a w)(PW:Oa w)(hB:B<=w.heap.size)(hS:DW B w D vs x)(hn:GV x=0)(hi:Na x):Calls prog 6 #[.agg vs.toArray] w fun e w'=>e= .returned (.tuple #[.string<|ba<|LW x,.int .i64 0])/\Bl w w':=by
 have C:=AA fun u (hu:Bl w u)=>Z6s V (Z.below hu) (PW.fr Z.most hu) (AU hB hu.size) (DW.carry hS<|BJ hu hB) hn hi;have N:=AA bX;obtain⟨p,c,p1,c1,p2,c2,rfl,_⟩:=hS;clear Z PW hn hi;generalize ba (LW x)=t at*;go_in
 go_wp2_with fail
 refine(C.out _<|(AQ _ w).alloc lr _).mono ?_;rintro e w1 ⟨rfl,hb⟩;have B1:=AA<|((AQ w.heap.size w).alloc lr _).trans<|hb.mono zw;clear hb;go_wp2_with fail
 refine(N.out _).mono ?_;rintro e w2 ⟨rfl,rfl⟩;go_wp2
 go_ret2
 exact⟨rfl,B1.out⟩
end Go.P
namespace Go.P
variable {w:World}
structure Txs (L:Nat) (w:World) (pb:Option Addr) (nb cb:Nat) (bs:List Bk):Prop where
 b0:w.cell? ⟨L,0,none⟩=some (.slice pb nb cb)
 eb:bs.length=nb
 lb:nb<=65536
 rb:Ap 3 (Jl w.heap.size w 4) pb bs
 gb: ∀ x,x∈bs-> ∃ t,Et t (Jj t)= .ok x
def Kp.txs {L n:Nat}{u:World}(h:Kp L u n)(hn:n<=65536)(hb:Bl u w): ∃ pb nb cb bs,Txs L w pb nb cb bs:=by
 obtain⟨vb,vp,vk,vc,vy,vr,vd,bs,ys,rs,ds,Fb,Fy,Fr,Fd,H0,_,_,_,l1,l2,l3,l4,l5,l6⟩:=h;have H:=H0.later hb;obtain⟨pb,cb,rfl,_,rb⟩:=AO.rowOf (Q':=Jl w.heap.size w 4) H.rb H.nb.lt fun _ _ _ _ _ hcc IJ hG q=>Dq.at_ q hG IJ hcc;exact⟨pb,_,cb,bs,H.blk.cell 0,rfl,zx,rb,l5⟩
def Yfj (w:World) (n:Nat) (iv:Value) (wr:World):Prop:= ∃ k:Nat,k<=n/\iv= .int .i64 (k:Int)/\Bl w wr
def Z7q {a:Nat->Addr}{p:Option Addr}{c:Nat}{xs:List (Int×Int×ByteArray)}(V:E8)(CL:Ig)(h:oC w p xs)(hl:xs.length<140737488355328)(Z:Aa a w)(E:OQ a w)(PW:Oa w):Calls prog 3 #[.slice p xs.length c] w fun e w'=>e= .returned (.bool true)/\Bl w w':=by
 have CT:=AA<|Yaf (c:=c) h hl Z E;have CA:=AA fun u (hu:Bl w u)=>Z4m V CL (Z.below hu) (E.below hu);have CE:=AA fun u (hu:Bl w u) vs x (hS:DW u.heap.size u 3 vs x) (hn:GV x=0)=>Z28 V (Z.below hu) (PW.fr Z.most hu) lr hS hn (hS.VL zx);have CD:=AA fun u (hu:Bl w u) t (ht:t.size<1000000000)=>vW t ht (Z.below hu) (E.below hu);clear h Z E V CL PW;go_in
 go_wp2_with fail
 refine CT.out.mono ?_;rintro e w1 (⟨rfl,rfl⟩ | ⟨rfl,hk,hn,hb1⟩)
 ·clear CT CA CE CD;go_wp2
  go_ret
  exact⟨rfl,AQ _ _⟩
 have B1:=AA hb1;have HK:=AA<|AF hk hn;clear hk hn hb1 CT;go_wp2_with fail
 refine(CA.out _ B1.out).mono ?_;rintro e w2 ⟨rfl,hb2⟩;obtain⟨pb,nb,cb,bs,hw⟩:=HK.out.1.txs HK.out.2 hb2;have B2:=tr B1 hb2;have HW:=AA hw;have zi:=hw.lb;have HC:=AA fun u (hu:Bl w2 u)=>Aq hw.b0 hu;clear hw hb2 HK CA B1;go_wp2
 go_loopw [5] (fun iv wr=>Yfj w2 nb iv wr) (fun iv _=>nb-(intOf iv).toNat)
 case atStart=>exact⟨0,zx,rfl,AQ _ _⟩
 case round=>
  obtain⟨k,hk,rfl,AX⟩:=hrel;have HB:=AA AX;have k0:=HC.out wr AX;clear AX;by_cases hlt:k<nb
  ·have Dk:k<bs.length:=by rw[HW.out.eb];exact hlt
   obtain⟨b,o,rfl,hx⟩:=HW.out.rb.get k Dk;obtain⟨tx,YF⟩:=HW.out.gb bs[k]<|KV Dk;have hr:=AA<|Zy0 YF;have aP:=AA<|Z21 YF;obtain⟨_,p1,c1,p2,c2,p3,c3,x0,x1,x2,hS⟩:=hx.vals;have HX:=AA fun u (hu:Bl w2 u)=>AF (Aq x0 hu) (AF (Aq x1 hu)<|Aq x2 hu);have HS:=AA fun u (hu:Bl w2 u)=>DW.carry hS (Go.W.Below.carry hu hu.size);have HA:=AA fun u (hu:Bl w2 u)=>hx.carry (Go.W.Below.carry hu hu.size) lr;have iB:=AA<|hS.VL zx;clear x0 x1 x2 hS hx YF;generalize bs[k]=x at*;obtain⟨y0,y1,y2⟩:=HX.out wr HB.out;go_wp2_with fail
   refine(CE.out _ (tr B2 HB.out).out _ _ (HS.out _ HB.out) hr.out).mono ?_;rintro e w3 ⟨rfl,hb3⟩;have B3:=tr HB hb3;clear hb3 y0 y1 y2 k0;have HT:=AA<|AF (Bh<|LW x)<|Zyz hr.out aP.out iB.out;obtain⟨t,ht⟩: ∃ t,AC (ba (LW x)=t):=⟨_,⟨rfl⟩⟩;rw[ht.out]at HT⊢;by_cases hz:8000<t.size
   ·have g1:(8000:Int)<(t.size:Int):=zx
    clear hz;go_wp2
    exact⟨⟨k+1,zx,by go_num,B3.out⟩,by simp[intOf];omega⟩
   have g1: ¬ (8000:Int)<(t.size:Int):=zx
   have CX:=AA<|CD.out w3 (tr B2 B3.out).out t zx;rw[HT.out.2 (by have:=HT.out.1;omega)]at CX;clear hz;go_wp2_with fail
   refine CX.out.mono ?_;rintro e w4 ⟨⟨⟨q1,e1,d1⟩,⟨q2,e2,d2⟩,q3,e3,d3⟩,m,ps,rfl,hk4,hb4⟩;rcases hk4 with⟨⟨_,h⟩,_⟩ | ⟨rfl,x',F,h,hO,hF⟩
   ·cases h
   cases h;have B4:=tr B3 hb4;have HO:=AA<|Dq.toS hO hF.lt;have k0:=fun ob=>HC.out (w4.alloc ob) (B4.out.alloc B4.out.size ob);clear CX hO hF hb4;simp only[SL]at HO⊢;go_wp2_with fail
   have M:=AA<|AJ.new w4 #[.slice q1 e1 d1,.slice q2 e2 d2,.slice q3 e3 d3] 38;have Yj:=AA<|Go.W.Below.carry (B':=(w4.alloc<|.cells #[.slice q1 e1 d1,.slice q2 e2 d2,.slice q3 e3 d3] 38).heap.size) ((AQ w4.heap.size w4).alloc lr<|.cells #[.slice q1 e1 d1,.slice q2 e2 d2,.slice q3 e3 d3] 38) zw;have B5:=AA<|B4.out.alloc B4.out.size<|.cells #[.slice q1 e1 d1,.slice q2 e2 d2,.slice q3 e3 d3] 38;clear k0;generalize w4.alloc (.cells #[.slice q1 e1 d1,.slice q2 e2 d2,.slice q3 e3 d3] 38)=W5 at*;refine(CE.out _ (tr B2 B5.out).out _ _ (DW.carry HO.out Yj.out) hr.out).mono ?_;rintro e w6 ⟨rfl,Gs⟩;rw[ht.out];have B6:=tr B5 Gs;have M6:=AA<|M.out.of<|Gs.block _ M.out.lt;have S6:=AA<|DW.carry (DW.carry HO.out Yj.out)<|Go.W.Below.carry Gs Gs.size;have k0:=HC.out w6 B6.out;clear Gs Yj M HO B5;go_wp2_with fail
   refine(Zt8 (D:=2) lr (HA.out w6 B6.out) (DW.at S6.out (Dy.up lr) M6.out.lt fun j _=>by rw[Hr];exact(M6.out.cell j).trans Array.getElem?_toList.symm)).mono ?_;rintro e w7 ⟨rfl,Eu⟩;have B7:=tr B6 Eu;have e1:(t.toList==t.toList)=true:=zw
   clear Eu k0;go_wp2
   exact⟨⟨k+1,zx,by go_num,B7.out⟩,by simp[intOf];omega⟩
  ·obtain rfl:k=nb:=zx
   go_wp2
   go_ret
   exact⟨rfl,B2.out.trans<|HB.out.mono B2.out.size⟩
end Go.P
