import Derived.Test.YtmebjfclpalmaaaGreatDoorW03
import Derived.Test.YtmebjfclpalmaaaGreatDoorW04
set_option maxRecDepth 100000
set_option maxHeartbeats 8000000
set_option linter.unusedSimpArgs false
open Go.Proofs Go.RowKit Go.W Tryz
namespace Go.P
variable {a:Nat->Addr}{B D:Nat}{w:World}{vs:List Value}{x:A}
theorem Zhw (V:Zav)(Z:Zao a w)(hB:B<=w.heap.size)(hS:Ze4 B w D vs x):
  Calls prog 140 #[.agg vs.toArray] w (Zde a (Zcs x) w):=by
 obtain⟨p,c,rfl,ht,hc,hrow⟩:=hS;have F:Box (Zcs x=if Zdm x.name=false then 2 else Zb3 (Zau 0) 6 x.terms):=⟨rfl⟩;have C1:=Zaa (fun u=>Zls x.name u ht);have C2:=Zaa (fun u (hu:Below w.heap.size w u)=>Zpb (c:=c) (m:=6) (B:=B) Zl6 (first:=#[.int .i64 0]) (cap:=#[]) (f:=Zau 0) (Z.below hu) (hrow.carry fun _ _ _ r=>r.carry (Za4 hu hB) lr) (Ydc hB hu.size) fun u2 vs y hy hu2 hS=>Zpe V a 0 (by omega) ((Z.below hu).below hu2) (Ydc hB (Ydc hu.size hu2.size)) hS);have ZZ:=Zaa Z;have hl:=hrow.len;clear hrow Z hc;generalize Zcs x=ans at*;generalize Zdm x.name=b1 at*;go_in
 go_wp2_with fail
 refine(C1.out _).mono ?_;rintro e w1 ⟨rfl,hb⟩;have BB:=Zaa (((Ydb w.heap.size w).alloc lr _).trans (hb.mono (by simp)));obtain⟨c0,c1,sf⟩:=(Zcq (Blk.new w #[.string x.name,.slice p x.terms.length c] 112) hb).two;have z2:=(ZZ.out.below BB.out).c2;clear hb;cases b1 with
 | false=>
  go_wp2
  go_ret
  exact⟨by rw[F.out];rfl,BB.out⟩
 | true=>
  go_wp2_with fail
  refine(C2.out _ BB.out).mono ?_;rintro e w2 ⟨rfl,hb⟩;go_wp2
  go_ret
  exact⟨by rw[F.out];rfl,BB.out.trans (hb.mono BB.out.size)⟩
theorem Zsy (V:Zav)(Z:Zao a w)(hB:B<=w.heap.size)(hS:Ze4 B w D vs x):
  Calls prog 91 #[.agg vs.toArray] w (Zde a (Zd2 x) w):=by
 have C1:=Zaa (fun u (hu:Below w.heap.size w u)=>Zhw V (Z.below hu) (Ydc hB hu.size) (Ze4.carry hS (Za4 hu hB)));obtain⟨p,c,rfl,ht,hc,hrow⟩:=hS;have F:Box (Zd2 x=if Zcs x≠0 then Zcs x else if Zc4 x.terms []=false then 5 else 0):=⟨rfl⟩;have C2:=Zaa (fun u (hu:Below w.heap.size w u)=>Zdg (c:=c) (p':=none) (ys:=[]) (c':=0) (B:=B) (hrow.carry fun _ _ _ r=>r.carry (Za4 hu hB) lr) ⟨by simp,fun i x h=>by simp at h⟩ (Ydc hB hu.size));have ZZ:=Zaa Z;clear hrow Z hc;generalize Zd2 x=ans at*;generalize Zcs x=n1 at*;generalize Zc4 x.terms []=b1 at*;go_in
 go_wp2_with fail
 refine(C1.out _ ((Ydb w.heap.size w).alloc lr _)).mono ?_;rintro e w1 ⟨rfl,hb⟩;have BB:=Zaa (((Ydb w.heap.size w).alloc lr _).trans (hb.mono (by simp)));obtain⟨c0,c1,sf⟩:=(Zcq (Blk.new w #[.string x.name,.slice p x.terms.length c] 112) hb).two;clear hb;by_cases hn:n1=0
 ·rw[hn,Za0];go_wp2_with fail
  refine(C2.out _ BB.out).mono ?_;rintro e w2 ⟨rfl,hb⟩;have z5:=(ZZ.out.below (tr BB hb).out).c5;cases b1;all_goals
   go_wp2
   go_ret
   exact⟨by rw[F.out,if_neg (by omega)];rfl,BB.out.trans (hb.mono BB.out.size)⟩
 ·rw[Zaf _ hn];go_wp2
  go_ret
  exact⟨by rw[F.out,if_pos hn,Zaf _ hn];rfl,BB.out⟩
theorem Zc2.at_ {B':Nat}{x:T}{b o:Nat}(h:Zc2 B w D vs x)(hB:B<=B')(hb:b < B')(hc: ∀ j,j < 4->w.cell? ⟨b,o+j,none⟩=vs[j]?):Zbl B' w (D+1) b o x:=by
 obtain⟨p,c,rfl,ht,hk,hi,hl,hr⟩:=h;exact⟨hb,_,hc 0 (by omega),hc 1 (by omega),hc 2 (by omega),hc 3 (by omega),rfl,rfl,rfl,hk,hi,ht,p,c,rfl,hl,hr.carry fun _ _ _ q=>q.carry (Zc1.up hB) lr⟩
theorem Zqc (V:Zav){x:G}{p':Option Addr}{ys:List A}{c':Nat}(Z:Zao a w)(hB:B<=w.heap.size)(hS:Zgb B w D vs x)(hrow':Zan 2 (Zbb B w (D+1)) p' ys):
  Calls prog 183 #[.agg vs.toArray,.slice p' ys.length c'] w (Zde a (Zfl ys x) w):=by
 obtain⟨va,vb,rfl,ho,ha,hb⟩:=hS;have C1:=Zaa (fun u (hu:Below w.heap.size w u)=>Zpe V a 0 (by omega) (Z.below hu) (Ydc hB hu.size) (Zc2.carry ha (Za4 hu hB)));have C2:=Zaa (fun u (hu:Below w.heap.size w u)=>Zpe V a 0 (by omega) (Z.below hu) (Ydc hB hu.size) (Zc2.carry hb (Za4 hu hB)));have D1:=Zaa (fun u (hu:Below w.heap.size w u) t e (hk:w.heap.size<=t) (hL:Blk u t va.toArray e)=>Zdg (p:=some ⟨t,0,none⟩) (xs:=[x.a]) (c:=1) (c':=c') (B:=u.heap.size) ⟨by simp,fun i y h=>by
  obtain⟨rfl,rfl⟩:i=0/\x.a=y:=by
   match i,h with
   | 0,h=>exact⟨rfl,by simpa using h⟩
  exact⟨t,0,rfl,Zc2.at_ (Zc2.carry ha (Za4 hu hB)) (Ydc hB hu.size) hL.lt fun j _=>by rw[Yex,Yey,Yd7,hL.cell];simp⟩⟩ (hrow'.carry fun _ _ _ r=>(r.carry (Za4 hu hB) lr).carry (Zc1.up (Ydc hB hu.size)) lr) lr)
 have D2:=Zaa (fun u (hu:Below w.heap.size w u) t e (hk:w.heap.size<=t) (hL:Blk u t vb.toArray e)=>Zdg (p:=some ⟨t,0,none⟩) (xs:=[x.b]) (c:=1) (c':=c') (B:=u.heap.size) ⟨by simp,fun i y h=>by
  obtain⟨rfl,rfl⟩:i=0/\x.b=y:=by
   match i,h with
   | 0,h=>exact⟨rfl,by simpa using h⟩
  exact⟨t,0,rfl,Zc2.at_ (Zc2.carry hb (Za4 hu hB)) (Ydc hB hu.size) hL.lt fun j _=>by rw[Yex,Yey,Yd7,hL.cell];simp⟩⟩ (hrow'.carry fun _ _ _ r=>(r.carry (Za4 hu hB) lr).carry (Zc1.up (Ydc hB hu.size)) lr) lr)
 obtain⟨p1,c1,rfl,_⟩:=ha;obtain⟨p2,c2,rfl,_⟩:=hb;have hl':=hrow'.len;have ZZ:=Zaa Z;clear hrow' Z;have F:Box (Zfl ys x=if x.op < 1\/7 < x.op then 2 else if Zcl ys x.a≠0 then Zcl ys x.a else Zcl ys x.b):=⟨rfl⟩;have F1:Box (Zcl ys x.a=if Zau 0 x.a≠0 then Zau 0 x.a else if Zc4 [x.a] ys=false then 5 else 0):=⟨rfl⟩;have F2:Box (Zcl ys x.b=if Zau 0 x.b≠0 then Zau 0 x.b else if Zc4 [x.b] ys=false then 5 else 0):=⟨rfl⟩;generalize Zfl ys x=ans at*;generalize x.op=op at*;have i0: ∀ w,(Instr.index 308 (.agg #[.int .i64 x.a.k,.int .i64 x.a.i,.string x.a.t,.slice p1 x.a.l.length c1,.int .i64 x.b.k,.int .i64 x.b.i,.string x.b.t,.slice p2 x.b.l.length c2]) (.int .i64 0)).run prog w= .ok (.agg #[.int .i64 x.a.k,.int .i64 x.a.i,.string x.a.t,.slice p1 x.a.l.length c1]) w:=fun _=>by kernel_rfl
 have i1: ∀ w,(Instr.index 308 (.agg #[.int .i64 x.a.k,.int .i64 x.a.i,.string x.a.t,.slice p1 x.a.l.length c1,.int .i64 x.b.k,.int .i64 x.b.i,.string x.b.t,.slice p2 x.b.l.length c2]) (.int .i64 1)).run prog w= .ok (.agg #[.int .i64 x.b.k,.int .i64 x.b.i,.string x.b.t,.slice p2 x.b.l.length c2]) w:=fun _=>by kernel_rfl
 have z2:=fun o=>Zab ZZ.out.c2 ((Ydb _ w).alloc lr o);by_cases hop:op < 1\/7 < op
 ·have F0:Box (ans=2):=⟨by rw[F.out,if_pos hop]⟩;clear F F1 F2 C1 C2 D1 D2;go_in
  rcases hop with h | h
  ·go_wp2
   go_ret
   exact⟨by rw[F0.out];rfl,(Ydb w.heap.size w).alloc lr _⟩
  ·have h': ¬ op < 1:=by omega
   go_wp2
   go_ret
   exact⟨by rw[F0.out];rfl,(Ydb w.heap.size w).alloc lr _⟩
 have F0:Box (ans=if Zcl ys x.a≠0 then Zcl ys x.a else Zcl ys x.b):=⟨by rw[F.out,if_neg hop]⟩;have h1: ¬ op < 1:=by omega
 have h2: ¬ 7 < op:=by omega
 clear F hop z2;generalize Zau 0 x.a=na at*;generalize Zau 0 x.b=nb at*;generalize Zc4 [x.a] ys=ba at*;generalize Zc4 [x.b] ys=bb at*;generalize Zcl ys x.a=sa at*;generalize Zcl ys x.b=sb at*;have B0:=Zaa ((Ydb w.heap.size w).alloc lr (.cells #[.int .i64 op,.int .i64 x.a.k,.int .i64 x.a.i,.string x.a.t,.slice p1 x.a.l.length c1,.int .i64 x.b.k,.int .i64 x.b.i,.string x.b.t,.slice p2 x.b.l.length c2] 119));go_in
 go_wp2
 refine Ye7 3 ?_;rw[Ye5];go_wp2_with fail
 refine(C1.out _ (B0.out.alloc B0.out.size _)).mono ?_;rintro e w1 ⟨rfl,hb⟩;have B1:=Zaa ((B0.out.alloc B0.out.size _).trans (hb.mono (by simp;omega)));have L1:=Zaa (Zcq (Blk.new _ #[.int .i64 x.a.k,.int .i64 x.a.i,.string x.a.t,.slice p1 x.a.l.length c1] 117) hb);obtain⟨y0,y1,y2,y3,sf⟩:=L1.out.four;simp only[Ydm]at y0 y1 y2 y3 sf;have hs1:=B1.out.size;clear hb;by_cases hna:na=0
 ·have F3:Box (sa=if ba=false then 5 else 0):=⟨by rw[F1.out,if_neg (by omega)]⟩;clear F1;rw[hna,Za0];go_wp2_with fail
  refine(D1.out _ (B1.out.alloc hs1 _) _ _ hs1 (Blk.new w1 _ _)).mono ?_;rintro e w2 ⟨rfl,hb⟩;have B2:=Zaa ((B1.out.alloc hs1 _).trans (hb.mono (by simp;omega)));have z5:=(ZZ.out.below B2.out).c5;have hs2:=B2.out.size;clear hb y0 y1 y2 y3 sf;cases ba with
  | false=>
   have F4:Box (ans=5):=⟨by rw[F0.out,F3.out];rfl⟩;go_wp2
   go_ret
   exact⟨by rw[F4.out];rfl,B2.out⟩
  | true=>
   have F4:Box (ans=sb):=⟨by rw[F0.out,F3.out];rfl⟩;clear F0 F3 C1 D1 z5;go_wp2_with fail
   rw[Ye5];go_wp2_with fail
   refine(C2.out _ (B2.out.alloc hs2 _)).mono ?_;rintro e w3 ⟨rfl,hb⟩;have B3:=Zaa ((B2.out.alloc hs2 _).trans (hb.mono (by simp;omega)));obtain⟨y0,y1,y2,y3,sf⟩:=(Zcq (Blk.new _ #[.int .i64 x.b.k,.int .i64 x.b.i,.string x.b.t,.slice p2 x.b.l.length c2] 117) hb).four;have hs3:=B3.out.size;clear hb;by_cases hnb:nb=0
   ·have F5:Box (sb=if bb=false then 5 else 0):=⟨by rw[F2.out,if_neg (by omega)]⟩;clear F2;rw[hnb,Za0];go_wp2_with fail
    refine(D2.out _ (B3.out.alloc hs3 _) _ _ hs3 (Blk.new w3 _ _)).mono ?_;rintro e w4 ⟨rfl,hb⟩;have B4:=Zaa ((B3.out.alloc hs3 _).trans (hb.mono (by simp;omega)));have z5:=(ZZ.out.below B4.out).c5;clear hb y0 y1 y2 y3 sf;cases bb with
    | false=>
     go_wp2
     go_ret
     exact⟨by rw[F4.out,F5.out];rfl,B4.out⟩
    | true=>
     go_wp2_with fail
     rw[Ye5];go_wp2
     go_ret
     exact⟨by rw[F4.out,F5.out];rfl,B4.out⟩
   ·have F3:Box (ans=nb):=⟨by rw[F4.out,F2.out,if_pos hnb]⟩;rw[Zaf _ hnb];go_wp2
    go_ret
    exact⟨by rw[F3.out,Zaf _ hnb];rfl,B3.out⟩
 ·have F3:Box (ans=na):=⟨by rw[F0.out,F1.out,if_pos hna,if_pos hna]⟩;rw[Zaf _ hna];go_wp2
  go_ret
  exact⟨by rw[F3.out,Zaf _ hna];rfl,B1.out⟩
end Go.P
namespace Go.P
variable {a:Nat->Addr}{B D:Nat}{w:World}{vs:List Value}{x:R}
theorem Zv7:Zaq 140:=Zam func140 (by kernel_rfl) rfl
theorem Zv9:Zaq 91:=Zam func91 (by kernel_rfl) rfl
theorem Zwa:Zaq 93:=Zam func93 (by kernel_rfl) rfl
theorem Zv8:Zaq 184:=Zam func184 (by kernel_rfl) rfl
theorem Ztw:Zaq 95:=Zam func95 (by kernel_rfl) rfl
theorem Ztv:Zaq 182:=Zam func182 (by kernel_rfl) rfl
theorem Zqa (V:Zav){x:G}{p':Option Addr}{ys:List A}{c' b:Nat}(Z:Zao a w)(hB:B<=w.heap.size)(hS:Zgb B w D vs x)(hrow':Zan 2 (Zbb B w (D+1)) p' ys)(hc:w.cell? ⟨b,2,none⟩=some (.slice p' ys.length c')):
  Calls prog 182 #[.agg vs.toArray,.pointer (some ⟨b,0,none⟩)] w (Zde a (Zfl ys x) w):=by
 have C1:=Zaa (fun u (hu:Below w.heap.size w u)=>Zqc V (c':=c') (Z.below hu) (Ydc hB hu.size) (Zgb.carry hS (Za4 hu hB)) (hrow'.carry fun _ _ _ r=>r.carry (Za4 hu hB) lr));have c2:=fun o=>Zab hc ((Ydb _ w).alloc lr o);obtain⟨va,vb,rfl,_,⟨p1,c1,rfl,_⟩,p2,c3,rfl,_⟩:=hS;clear Z hrow';go_in
 go_wp2_with fail
 refine(C1.out _ ((Ydb w.heap.size w).alloc lr _)).mono ?_;rintro e w1 ⟨rfl,hb⟩;go_wp2_with fail
 go_ret
 exact⟨rfl,((Ydb w.heap.size w).alloc lr _).trans (hb.mono (by simp))⟩
theorem Zle (V:Zav)(Z:Zao a w)(hB:B<=w.heap.size)(hS:Zf7 B w D vs x):
  Calls prog 142 #[.agg vs.toArray] w (Zde a (Zbo x) w):=by
 obtain⟨va,p1,c1,p2,c2,rfl,⟨p0,c0,rfl,_⟩,_,hr1,_,hr2⟩:=hS;have hl1:=hr1.len;have hl2:=hr2.len;have F:Box (Zbo x=if x.body.length=0/\x.guards.length=0 then 2 else if 4 < x.body.length\/4 < x.guards.length then 4 else if Za2 Zcs x.body≠0 then Za2 Zcs x.body else Za2 (Zfl x.body) x.guards):=⟨rfl⟩;have C1:=Zaa (fun u (hu:Below w.heap.size w u)=>Ziq (a:=a) (c:=c1) (B:=B) Zv7 (first:=#[]) (cap:=#[]) (f:=Zcs) (hr1.carry fun _ _ _ r=>r.carry (Za4 hu hB) lr) (Ydc hB hu.size) fun u2 vs y hy hu2 hS=>Zhw V ((Z.below hu).below hu2) (Ydc hB (Ydc hu.size hu2.size)) hS);have C2:=Zaa (fun u (hu:Below w.heap.size w u) b (hc:u.cell? ⟨b,2,none⟩=some (.slice p1 x.body.length c1))=>Zmy (a:=a) (c:=c2) (B:=B) Ztv (first:=#[]) (cap:=#[.pointer (some ⟨b,0,none⟩)]) (f:=Zfl x.body) (hr2.carry fun _ _ _ r=>r.carry (Za4 hu hB) lr) (Ydc hB hu.size) fun u2 vs y hy hu2 hS=>Zqa V (c':=c1) ((Z.below hu).below hu2) (Ydc hB (Ydc hu.size hu2.size)) hS (hr1.carry fun _ _ _ r=>(r.carry (Za4 hu hB) lr).carry (Za4 hu2 (Ydc hB hu.size)) lr) (Zab hc hu2));have z2:=fun o=>Zab Z.c2 ((Ydb _ w).alloc lr o);have z4:=fun o=>Zab Z.c4 ((Ydb _ w).alloc lr o);have hmf: ∀ (fn:Fn) (first cap:Array Value) (w:World),(Instr.makeFunc fn first cap).run prog w= .ok (.func fn first cap) w:=fun _ _ _ _=>rfl;have B0:=Zaa ((Ydb w.heap.size w).alloc lr (.cells #[.string x.head.name,.slice p0 x.head.terms.length c0,.slice p1 x.body.length c1,.slice p2 x.guards.length c2] 115));clear hr1 hr2 Z;generalize Zbo x=ans at*;generalize Za2 Zcs x.body=n1 at*;generalize Za2 (Zfl x.body) x.guards=n2 at*;generalize x.body.length=l1 at*;generalize x.guards.length=l2 at*;have W:(((l1:Int)==0)=true/\((l2:Int)==0)=true/\ans=2)\/(((l1:Int)==0)=true/\((l2:Int)==0)=false/\decide ((4:Int) < l1)=false/\(4:Int) < l2/\ans=4)\/(((l1:Int)==0)=false/\(4:Int) < l1/\ans=4)\/(((l1:Int)==0)=false/\decide ((4:Int) < l1)=false/\(4:Int) < l2/\ans=4)
   \/(((l1:Int)==0)=true/\((l2:Int)==0)=false/\decide ((4:Int) < l1)=false/\decide ((4:Int) < l2)=false/\(n1≠0->ans=n1)/\(n1=0->ans=n2))\/(((l1:Int)==0)=false/\decide ((4:Int) < l1)=false/\decide ((4:Int) < l2)=false/\(n1≠0->ans=n1)/\(n1=0->ans=n2)):=by
  simp only[Yfb,Ye4,decide_eq_false_iff_not];have f2:(l1=0/\l2=0)->ans=2:=fun h=>by rw[F.out,if_pos h]
  have f4: ¬ (l1=0/\l2=0)->(4 < l1\/4 < l2)->ans=4:=fun h h'=>by rw[F.out,if_neg h,if_pos h']
  have f0: ¬ (l1=0/\l2=0)-> ¬ (4 < l1\/4 < l2)->(n1≠0->ans=n1)/\(n1=0->ans=n2):=fun h h'=>by rw[F.out,if_neg h,if_neg h'];exact⟨fun q=>if_pos q,fun q=>if_neg (by omega)⟩
  by_cases a1:l1=0
  ·by_cases a2:l2=0
   ·exact Or.inl ⟨by omega,by omega,f2 ⟨a1,a2⟩⟩
   ·by_cases a3:4 < l2
    ·exact Or.inr (Or.inl ⟨by omega,by omega,by omega,by omega,f4 (by omega) (by omega)⟩)
    ·exact Or.inr (Or.inr (Or.inr (Or.inr (Or.inl ⟨by omega,by omega,by omega,by omega,f0 (by omega) (by omega)⟩))))
  ·by_cases a2:4 < l1
   ·exact Or.inr (Or.inr (Or.inl ⟨by omega,by omega,f4 (by omega) (by omega)⟩))
   ·by_cases a3:4 < l2
    ·exact Or.inr (Or.inr (Or.inr (Or.inl ⟨by omega,by omega,by omega,f4 (by omega) (by omega)⟩)))
    ·exact Or.inr (Or.inr (Or.inr (Or.inr (Or.inr ⟨by omega,by omega,by omega,f0 (by omega) (by omega)⟩))))
 clear F;go_in
 rcases W with⟨g1,g2,r⟩ | ⟨g1,g2,g3,g4,r⟩ | ⟨g1,g2,r⟩ | ⟨g1,g2,g3,r⟩ | ⟨g1,g2,g3,g4,r⟩ | ⟨g1,g2,g3,r⟩;iterate 4
  have R:=Zaa r;clear r C1 C2;go_wp2_with fail
  go_ret
  exact⟨by rw[R.out];rfl,B0.out⟩
 all_goals
  have R:=Zaa r;clear r z2 z4;go_wp2_with fail
  refine(C1.out _ B0.out).mono ?_;rintro e w1 ⟨rfl,hb⟩;have B1:=tr B0 hb;obtain⟨y0,y1,y2,y3,sf⟩:=(Zcq (Blk.new w #[.string x.head.name,.slice p0 x.head.terms.length c0,.slice p1 l1 c1,.slice p2 l2 c2] 115) hb).four;have CC:=Zaa (C2.out _ B1.out _ y2);clear hb C1 C2;by_cases hn:n1=0
  ·rw[hn,Za0];go_wp2_with fail
   refine mq CC.out ?_;rintro w2 hb;go_wp2_with fail
   go_ret
   exact⟨by rw[R.out.2 hn];rfl,B1.out.trans (hb.mono B1.out.size)⟩
  ·rw[Zaf _ hn];go_wp2_with fail
   go_ret
   exact⟨by rw[R.out.1 hn,Zaf _ hn];rfl,B1.out⟩
theorem Zsz (V:Zav)(Z:Zao a w)(hB:B<=w.heap.size)(hS:Zf7 B w D vs x):
  Calls prog 93 #[.agg vs.toArray] w (Zde a (Zdr x) w):=by
 have C2:=Zaa (fun u (hu:Below w.heap.size w u)=>Zle V (Z.below hu) (Ydc hB hu.size) (Zf7.carry hS (Za4 hu hB)));obtain⟨va,p1,c1,p2,c2,rfl,hA,_,hr1,_,hr2⟩:=hS;have C1:=Zaa (fun u (hu:Below w.heap.size w u)=>Zhw V (Z.below hu) (Ydc hB hu.size) (Ze4.carry hA (Za4 hu hB)));obtain⟨p0,c0,rfl,_,_,hr0⟩:=hA;have C3:=Zaa (fun u (hu:Below w.heap.size w u)=>Zdg (c:=c0) (c':=c1) (B:=B) (hr0.carry fun _ _ _ r=>r.carry (Za4 hu hB) lr) (hr1.carry fun _ _ _ r=>r.carry (Za4 hu hB) lr) (Ydc hB hu.size));have F:Box (Zdr x=if Zcs x.head≠0 then Zcs x.head else if Zbo x≠0 then Zbo x else if Zc4 x.head.terms x.body=false then 5 else 0):=⟨rfl⟩;have ZZ:=Zaa Z;have B0:=Zaa ((Ydb w.heap.size w).alloc lr (.cells #[.string x.head.name,.slice p0 x.head.terms.length c0,.slice p1 x.body.length c1,.slice p2 x.guards.length c2] 115));clear hr0 hr1 hr2 Z;generalize Zdr x=ans at*;generalize Zcs x.head=n1 at*;generalize Zbo x=n2 at*;generalize Zc4 x.head.terms x.body=b3 at*;go_in
 go_wp2_with fail
 refine(C1.out _ B0.out).mono ?_;rintro e w1 ⟨rfl,hb⟩;have B1:=tr B0 hb;have L1:=Zaa (Zcq (Blk.new w #[.string x.head.name,.slice p0 x.head.terms.length c0,.slice p1 x.body.length c1,.slice p2 x.guards.length c2] 115) hb);clear hb;by_cases hn:n1=0
 ·obtain⟨y0,y1,y2,y3,sf⟩:=L1.out.four;rw[hn,Za0];go_wp2_with fail
  refine(C2.out _ B1.out).mono ?_;rintro e w2 ⟨rfl,hb⟩;have B2:=tr B1 hb;have L2:=Zaa (Zcq L1.out hb);clear y0 y1 y2 y3 sf hb;by_cases hn2:n2=0
  ·obtain⟨y0,y1,y2,y3,sf⟩:=L2.out.four;rw[hn2,Za0];go_wp2_with fail
   refine(C3.out _ B2.out).mono ?_;rintro e w3 ⟨rfl,hb⟩;have B3:=tr B2 hb;have z5:=(ZZ.out.below B3.out).c5;clear y0 y1 y2 y3 sf hb;cases b3;all_goals
    go_wp2_with fail
    go_ret
    exact⟨by rw[F.out,if_neg (by omega),if_neg (by omega)];rfl,B3.out⟩
  ·rw[Zaf _ hn2];go_wp2_with fail
   go_ret
   exact⟨by rw[F.out,if_neg (by omega),if_pos hn2,Zaf _ hn2];rfl,B2.out⟩
 ·rw[Zaf _ hn];go_wp2_with fail
  go_ret
  exact⟨by rw[F.out,if_pos hn,Zaf _ hn];rfl,B1.out⟩
end Go.P
namespace Go.P
variable {a:Nat->Addr}{B D:Nat}{w:World}{vs:List Value}
theorem Zl0 (V:Zav){x:R}(Z:Zao a w)(hB:B<=w.heap.size)(hS:Zf7 B w D vs x):
  Calls prog 184 #[.agg vs.toArray] w (Zde a (Zc9 x) w):=by
 have C2:=Zaa (fun u (hu:Below w.heap.size w u)=>Zle V (Z.below hu) (Ydc hB hu.size) (Zf7.carry hS (Za4 hu hB)));obtain⟨va,p1,c1,p2,c2,rfl,⟨p0,c0,rfl,_,_,hr0⟩,_,hr1,_,hr2⟩:=hS;have hl0:=hr0.len;have F:Box (Zc9 x=if x.head.name.size≠0\/0 < x.head.terms.length then 2 else Zbo x):=⟨rfl⟩;have z2:=fun o=>Zab Z.c2 ((Ydb _ w).alloc lr o);have e0:=Zec x.head.name;have B0:=Zaa ((Ydb w.heap.size w).alloc lr (.cells #[.string x.head.name,.slice p0 x.head.terms.length c0,.slice p1 x.body.length c1,.slice p2 x.guards.length c2] 115));clear hr0 hr1 hr2 Z;generalize Zc9 x=ans at*;generalize Zbo x=n2 at*;generalize x.head.terms.length=n at*;generalize x.head.name=nm at*;have W:((nm.toList==[])=false/\ans=2)\/((nm.toList==[])=true/\(0:Int) < n/\ans=2)\/((nm.toList==[])=true/\ ¬ 0 < n/\ans=n2):=by
  simp only[e0,decide_eq_false_iff_not,decide_eq_true_eq];have f1:(nm.size≠0\/0 < n)->ans=2:=fun h=>by rw[F.out,if_pos h]
  have f2: ¬ (nm.size≠0\/0 < n)->ans=n2:=fun h=>by rw[F.out,if_neg h]
  omega
 clear F e0;go_in
 rcases W with⟨g1,r⟩ | ⟨g1,g2,r⟩ | ⟨g1,g2,r⟩;iterate 2
  have R:=Zaa r;clear r C2;go_wp2_with fail
  go_ret
  exact⟨by rw[R.out];rfl,B0.out⟩
 have R:=Zaa r;clear r z2;go_wp2_with fail
 refine(C2.out _ B0.out).mono ?_;rintro e w1 ⟨rfl,hb⟩;go_wp2_with fail
 go_ret
 exact⟨by rw[R.out];rfl,B0.out.trans (hb.mono B0.out.size)⟩
theorem Zi4 (V:Zav){p:Option Addr}{xs:List R}{c:Nat}(Z:Zao a w)(hB:B<=w.heap.size)(hrow:Zan 4 (Zb5 B w (D+1)) p xs):
  Calls prog 144 #[.slice p xs.length c] w (Zde a (Zba xs) w):=by
 have C1:=Zaa (Zi3 (c:=c) (m:=4) (B:=B) Zv8 (first:=#[]) (cap:=#[]) (f:=Zc9) Z hrow hB fun u vs y hy hu hS=>Zl0 V (Z.below hu) (Ydc hB hu.size) hS);have F:Box (Zba xs=if xs.length=0 then 2 else Zb3 Zc9 4 xs):=⟨rfl⟩;have z2:=Z.c2;clear hrow Z;generalize Zb3 Zc9 4 xs=n1 at*;generalize Zba xs=ans at*;generalize xs.length=n at*;have W:(((n:Int)==0)=true/\ans=2)\/(((n:Int)==0)=false/\ans=n1):=by
  simp only[Yfb,Ye4];have f1:n=0->ans=2:=fun h=>by rw[F.out,if_pos h]
  have f2: ¬ n=0->ans=n1:=fun h=>by rw[F.out,if_neg h]
  omega
 clear F;go_in
 rcases W with⟨g1,r⟩ | ⟨g1,r⟩
 ·have R:=Zaa r;clear r C1;go_wp2_with fail
  go_ret
  exact⟨by rw[R.out];rfl,Ydb _ _⟩
 ·have R:=Zaa r;clear r z2;go_wp2_with fail
  refine mq C1.out ?_;rintro w1 hb;go_wp2_with fail
  go_ret
  exact⟨by rw[R.out];rfl,hb⟩
theorem Zqb (V:Zav){x:List R}(Z:Zao a w)(hB:B<=w.heap.size)(hS:Zh9 B w D vs x):
  Calls prog 95 #[.agg vs.toArray] w (Zde a (Zba x) w):=by
 obtain⟨p,c,rfl,_,hr⟩:=hS;have C1:=Zaa (fun u (hu:Below w.heap.size w u)=>Zi4 V (c:=c) (Z.below hu) (Ydc hB hu.size) (hr.carry fun _ _ _ r=>r.carry (Za4 hu hB) lr));have B0:=Zaa ((Ydb w.heap.size w).alloc lr (.cells #[.slice p x.length c] 72));clear hr Z;go_in
 go_wp2_with fail
 refine(C1.out _ B0.out).mono ?_;rintro e w1 ⟨rfl,hb⟩;go_wp2_with fail
 go_ret
 exact⟨rfl,B0.out.trans (hb.mono B0.out.size)⟩
theorem Zgt (V:Zav){x:Bk}(Z:Zao a w)(hB:B<=w.heap.size)(hS:Zbd B w D vs x):
  Calls prog 54 #[.agg vs.toArray] w (Zde a (Zck x) w):=by
 obtain⟨p,c,p1,c1,p2,c2,rfl,_,hr,_,hr1,_,hr2⟩:=hS;have C1:=Zaa (fun u (hu:Below w.heap.size w u)=>Zpa (c:=c) (m:=24) (B:=B) Zv9 (first:=#[]) (cap:=#[]) (f:=Zd2) (Z.below hu) (hr.carry fun _ _ _ r=>r.carry (Za4 hu hB) lr) (Ydc hB hu.size) fun u2 vs y hy hu2 hS=>Zsy V ((Z.below hu).below hu2) (Ydc hB (Ydc hu.size hu2.size)) hS);have C2:=Zaa (fun u (hu:Below w.heap.size w u)=>Zi3 (c:=c1) (m:=24) (B:=B) Zwa (first:=#[]) (cap:=#[]) (f:=Zdr) (Z.below hu) (hr1.carry fun _ _ _ r=>r.carry (Za4 hu hB) lr) (Ydc hB hu.size) fun u2 vs y hy hu2 hS=>Zsz V ((Z.below hu).below hu2) (Ydc hB (Ydc hu.size hu2.size)) hS);have C3:=Zaa (fun u (hu:Below w.heap.size w u)=>Zm3 (c:=c2) (m:=24) (B:=B) Ztw (first:=#[]) (cap:=#[]) (f:=Zba) (Z.below hu) (hr2.carry fun _ _ _ r=>r.carry (Za4 hu hB) lr) (Ydc hB hu.size) fun u2 vs y hy hu2 hS=>Zqb V ((Z.below hu).below hu2) (Ydc hB (Ydc hu.size hu2.size)) hS);have F:Box (Zck x=if Zb3 Zd2 24 x.facts≠0 then Zb3 Zd2 24 x.facts else if Zb3 Zdr 24 x.rules≠0 then Zb3 Zdr 24 x.rules else Zb3 Zba 24 x.checks):=⟨rfl⟩;have B0:=Zaa ((Ydb w.heap.size w).alloc lr (.cells #[.slice p x.facts.length c,.slice p1 x.rules.length c1,.slice p2 x.checks.length c2] 45));clear hr hr1 hr2 Z;generalize Zck x=ans at*;generalize Zb3 Zd2 24 x.facts=n1 at*;generalize Zb3 Zdr 24 x.rules=n2 at*;generalize Zb3 Zba 24 x.checks=n3 at*;have F1:Box ((n1≠0->ans=n1)/\(n1=0->n2≠0->ans=n2)/\(n1=0->n2=0->ans=n3)):=⟨fun h=>by rw[F.out,if_pos h],fun h h'=>by rw[F.out,if_neg (by omega),if_pos h'],fun h h'=>by rw[F.out,if_neg (by omega),if_neg (by omega)]⟩;clear F;go_in
 go_wp2_with fail
 refine(C1.out _ B0.out).mono ?_;rintro e w1 ⟨rfl,hb⟩;have B1:=tr B0 hb;have L1:=Zaa (Zcq (Blk.new w #[.slice p x.facts.length c,.slice p1 x.rules.length c1,.slice p2 x.checks.length c2] 45) hb);clear hb;by_cases hn:n1=0
 ·obtain⟨y0,y1,y2,sf⟩:=L1.out.three;rw[hn,Za0];go_wp2_with fail
  refine(C2.out _ B1.out).mono ?_;rintro e w2 ⟨rfl,hb⟩;have B2:=tr B1 hb;have L2:=Zaa (Zcq L1.out hb);clear y0 y1 y2 sf hb;by_cases hn2:n2=0
  ·obtain⟨y0,y1,y2,sf⟩:=L2.out.three;rw[hn2,Za0];go_wp2_with fail
   refine(C3.out _ B2.out).mono ?_;rintro e w3 ⟨rfl,hb⟩;go_wp2_with fail
   go_ret
   exact⟨by rw[F1.out.2.2 hn hn2];rfl,B2.out.trans (hb.mono B2.out.size)⟩
  ·rw[Zaf _ hn2];go_wp2_with fail
   go_ret
   exact⟨by rw[F1.out.2.1 hn hn2,Zaf _ hn2];rfl,B2.out⟩
 ·rw[Zaf _ hn];go_wp2_with fail
  go_ret
  exact⟨by rw[F1.out.1 hn,Zaf _ hn];rfl,B1.out⟩
end Go.P
namespace Go.W
variable {m:Nat}{x:T}
theorem Z31: ∀ f n,(Zq2 f n).size<=f+1
 | 0,n=>by rw[Zq2];exact Yec 1
 | f+1,n=>by
  rw[Zq2];split
  ·rw[Zae,Zco];have:=Z31 f (n / 128);omega
  ·rw[Zco];omega
theorem Zj4 (n:Nat):(Zel n).size<=11:=Z31 10 n
theorem Zth {α:Type}{f:α->ByteArray}: ∀ {l:List α},(∀ x,x∈l->(f x).size<=m)->(cat f l).size<=l.length*m
 | [],_=>by simp[cat]
 | x::r,h=>by
  rw[cat,Zae,Ydp,Nat.add_mul,Nat.one_mul]
  have:=Zth (l:=r) fun y hy=>h y (List.mem_cons_of_mem _ hy)
  have:=h x List.mem_cons_self
  omega
theorem Zds {α:Type}{f:α->ByteArray}{k:Nat}{l:List α}(hl:l.length<=k)(h: ∀ x,x∈l->(f x).size<=m):(Zaz f l).size<=11+k*m:=by
 rw[Zaz,Zae]
 have:=Zj4 l.length
 have:=Zth h
 have:=Nat.mul_le_mul_right m hl
 omega
theorem Zhr {d:Nat}(h:Zau d x=0)(m:Nat)(hm:d≠3-> ∀ y,Zau (d+1) y=0->(Zed y).size<=m):(Zed x).size<=100+6*m:=by
 obtain⟨h64,h6,hin,hk⟩:=okT h;rw[Zw2,Zae,Zco];split
 ·have:=Zj4 (Zjg x.i);omega
 ·split
  ·rw[Zco];omega
  ·split
   ·have:=Zds (f:=Zed) (m:=m) h6 fun y hy=>hm (by omega) y (hin y hy);omega
   ·rw[Zb4,Zae];have:=Zj4 x.t.size;omega
theorem Zja (h:Zau 0 x=0):(Zed x).size<=30000:=by
 have b3: ∀ y,Zau 3 y=0->(Zed y).size<=100:=fun y hy=>by have:=Zhr hy 0 (fun h=>absurd rfl h);omega
 have b2: ∀ y,Zau 2 y=0->(Zed y).size<=700:=fun y hy=>by have:=Zhr hy 100 fun _=>b3;omega
 have b1': ∀ y,Zau 1 y=0->(Zed y).size<=4300:=fun y hy=>by have:=Zhr hy 700 fun _=>b2;omega
 have:=Zhr h 4300 fun _=>b1'
 omega
theorem Zlx {x:A}(h:Zcs x=0):(Zli x).size<=200000:=by
 obtain⟨h1,h2,h3⟩:=okA h;rw[Zli,Zae,Zb4,Zae]
 have:=Zj4 x.name.size
 have:=Zds (f:=Zed) (m:=30000) h2 fun y hy=>Zja (h3 y hy)
 omega
theorem Z01 {l:List A}{x:G}(h:Zfl l x=0):(Zvh x).size<=70000:=by
 obtain⟨_,_,h3,h4⟩:=okG h;rw[Zvh,Zae,Zae,Zco]
 have:=Zja h3
 have:=Zja h4
 omega
theorem Zkv {x:R}(h:Zbo x=0):(Zb9 x).size<=1100000:=by
 obtain⟨h1,h2,h3,h4⟩:=okB h;rw[Zb9,Zae]
 have:=Zds (f:=Zli) (m:=200000) h1 fun y hy=>Zlx (h3 y hy)
 have:=Zds (f:=Zvh) (m:=70000) h2 fun y hy=>Z01 (h4 y hy)
 omega
theorem okE {x:List R}(h:Zba x=0):x.length<=4/\ ∀ y,y∈x->Zbo y=0:=by
 unfold Zba at h;split at h
 ·cases h
 ·refine⟨(Zbz h).1,fun y hy=>?_⟩
  have:=(Zbz h).2 y hy
  unfold Zc9 at this;split at this
  ·cases this
  ·exact this
theorem Zok {x:Bk}(h:Zck x=0):(Ze9 x).size < 900000000:=by
 obtain⟨ok1,h⟩:=Zeh h;obtain⟨ok2,ok3⟩:=Zeh h;rw[Ze9,Zae,Zae]
 have:=Zds (f:=Zli) (m:=200000) (Zbz ok1).1 fun y hy=>Zlx (Zeh ((Zbz ok1).2 y hy)).1
 have:=Zds (f:=Zvi) (m:=1300000) (Zbz ok2).1 fun y hy=>by
  obtain⟨q1,q2⟩:=Zeh ((Zbz ok2).2 y hy);rw[Zvi,Zae]
  have:=Zlx q1
  have:=Zkv (Zeh q2).1
  omega
 have:=Zds (f:=Zaz Zb9) (m:=5000000) (Zbz ok3).1 fun y hy=>by
  obtain⟨q1,q2⟩:=okE ((Zbz ok3).2 y hy)
  have:=Zds (f:=Zb9) (m:=1100000) q1 fun z hz=>Zkv (q2 z hz)
  omega
 omega
def Zh6 (x:Bk):Int:=if Zck x≠0 then Zck x else if 4000 < (Ze9 x).size then 4 else 0
def Zcd (x:Bk):ByteArray:=if Zh6 x=0 then Ze9 x else ByteArray.empty
end Go.W
namespace Go.P
theorem Zlo (V:Zav){a:Nat->Addr}{B D:Nat}{w:World}{vs:List Value}{x:Bk}(Z:Zao a w)(hB:B<=w.heap.size)(hS:Zbd B w D vs x):
  Calls prog 46 #[.agg vs.toArray] w fun e w'=>e= .returned (.tuple #[.string (Zcd x),Zcm a (Zh6 x)])/\Below w.heap.size w w':=by
 have C1:=Zaa (fun u (hu:Below w.heap.size w u)=>Zgt V (Z.below hu) (Ydc hB hu.size) (Zbd.carry hS (Za4 hu hB)));have CB:=Zaa (fun u v b (hu:Below w.heap.size w u) (hv:B<=v) (hvu:v<=u.heap.size) (hb:Bld 142 v b ByteArray.empty u) (hok:Zck x=0)=>Z0d hb hvu (Zbd.carry (Zbd.carry hS (Za4 hu hB)) (Zc1.up hv)) hok (by have:=Zok hok;simp;omega));have F:Box ((Zck x≠0->Zh6 x=Zck x/\Zcd x=ByteArray.empty)/\(Zck x=0->4000 < (Ze9 x).size->Zh6 x=4/\Zcd x=ByteArray.empty)/\(Zck x=0->(Ze9 x).size<=4000->Zh6 x=0/\Zcd x=Ze9 x)):=⟨by
  unfold Zcd Zh6;refine⟨fun h=>?_,fun h h'=>?_,fun h h'=>?_⟩
  ·rw[if_pos h,if_neg h];exact⟨rfl,rfl⟩
  ·rw[if_neg (by omega),if_pos h'];exact⟨rfl,rfl⟩
  ·rw[if_neg (by omega),if_neg (by omega)];exact⟨rfl,rfl⟩⟩
 have PB:=Zaa (Zok (x:=x));have ZZ:=Zaa Z;obtain⟨p,c,p1,c1,p2,c2,rfl,_⟩:=hS;clear Z;generalize Zck x=n1 at*;go_in
 go_wp2_with fail
 refine(C1.out _ ((Ydb w.heap.size w).alloc lr _)).mono ?_;rintro e w1 ⟨rfl,hb⟩;have B1:=Zaa (((Ydb w.heap.size w).alloc lr _).trans (hb.mono (by simp)));have L1:=Zaa (Zcq (Blk.new w #[.slice p x.facts.length c,.slice p1 x.rules.length c1,.slice p2 x.checks.length c2] 45) hb);have hs1:=B1.out.size;clear hb;by_cases hn:n1=0
 ·have y0:=fun o=>(L1.out.alloc o).three.1;have y1:=fun o=>(L1.out.alloc o).three.2.1;have y2:=fun o=>(L1.out.alloc o).three.2.2.1;have BN:=Zaa (Lib.fresh_isBuilder 142 5 w1);have CC:=Zaa (CB.out _ w1.heap.size _ (B1.out.alloc hs1 _) (by omega) (by simp) (show Bld 142 w1.heap.size w1.heap.size ByteArray.empty (w1.alloc (.cells #[.pointer none,.slice none 0 0] 142))from BN.out) hn);have F2:=Zaa (F.out.2.1 hn);have F3:=Zaa (F.out.2.2 hn);have hpb:=PB.out hn;clear CB C1 F BN PB;rw[hn,Za0];go_wp2_with fail
  refine CC.out.mono ?_;rintro e w2 ⟨rfl,hb2,hw2⟩;rw[show ByteArray.empty++Ze9 x=Ze9 x by simp]at hb2;have B2:=Zaa ((B1.out.alloc hs1 _).trans (hw2.below.mono hs1));have z4:=(ZZ.out.below B2.out).c4;have CL:=Zaa (Z9i hb2);have CS:=Zaa (Zrc hb2 (by omega) (by have:=hw2.size;simp at this;omega));clear y0 y1 y2 hb2 hw2 CC;generalize Ze9 x=s at*;by_cases hl:4000 < s.size
  ·have g1:(4000:Int) < (s.size:Int):=by omega
   go_wp2_with (go_at_call 74;refine mq CL.out ?_;rintro w3 rfl)
   go_quiet (fail)
   go_wp2
   go_ret2
   exact⟨by rw[(F2.out hl).1,(F2.out hl).2];rfl,Zb6 B2.out⟩
  ·have g1: ¬ (4000:Int) < (s.size:Int):=by omega
   clear z4;go_wp2_with (first | (go_at_call 74;refine mq CL.out ?_;rintro w3 rfl) | (go_at_call 64;refine mq CS.out ?_;rintro w4 hb4))
   go_ret2
   exact⟨by rw[(F3.out (by omega)).1,(F3.out (by omega)).2];rfl,B2.out.trans (hb4.mono hs1)⟩
 ·rw[Zaf _ hn];go_wp2
  go_ret2
  exact⟨by rw[(F.out.1 hn).1,(F.out.1 hn).2,Zaf _ hn];rfl,B1.out⟩
end Go.P
namespace Go.W
variable {w w':World}{vs:List Value}{F:List Nat}{r:Nat}
def Zkb:Zgj (ByteArray×Nat):=fun _ vs x F=>F=[]/\vs=Zey x
theorem Zkb.stable:Zc3 Zkb:=fun _ _ _ _ _ h _=>h
theorem Zkb.one {x:ByteArray×Nat}(h:Zkb w vs x F): ∀ u,u∈vs->u.oneCell'=true:=by
 obtain⟨_,rfl⟩:=h;intro u hu;simp[Zey]at hu;rcases hu with rfl | rfl | rfl | rfl <;> rfl
def Zqd:Zgj T:=fun _ vs x F=>F=[]/\ ∃ p c,vs=[.int .i64 x.k,.int .i64 x.i,.string x.t,.slice p x.l.length c]
theorem Zqd.stable:Zc3 Zqd:=fun _ _ _ _ _ h _=>h
theorem Zqd.one {x:T}(h:Zqd w vs x F): ∀ u,u∈vs->u.oneCell'=true:=by
 obtain⟨_,p,c,rfl⟩:=h;intro u hu;simp at hu;rcases hu with rfl | rfl | rfl | rfl <;> rfl
theorem Zgw.of {bs:List ByteArray}(h:Zgw w r bs)(hb:w'.heap[r]?=w.heap[r]?):Zgw w' r bs:=by
 obtain⟨es,c,h1,h2⟩:=h;exact⟨es,c,hb.trans h1,h2⟩
theorem Zew.of {fs:List (ByteArray×Nat)}(h:Zew w r fs)(hb:w'.heap[r]?=w.heap[r]?):Zew w' r fs:=by
 obtain⟨es,c,h1,h2⟩:=h;exact⟨es,c,hb.trans h1,h2⟩
def Ybq (vs:List T) (x:T):Nat:=(Zjq (Zed x) (vs.map Zed) 0).getD vs.length
def Z9o (vs:List T) (x:T):List T:=if(Zjq (Zed x) (vs.map Zed) 0).isSome then vs else vs++[x]
end Go.W
namespace Go.P
variable {w w':World}{p n B b:Nat}{fs:List (ByteArray×Nat)}{vs:List T}{F:List Nat}{s:ByteArray}
structure Wd (w:World) (p:Nat) (fs:List (ByteArray×Nat)) (vs:List T) (F:List Nat) (k r:Nat) (fv vv:Value) (Ff Fv:List Nat):Prop where
 blk:Blk w p #[fv,.map (some k),vv,.map (some r)] 317
 facts:Zag 321 8 Zkb w fv fs Ff
 vals:Zag 117 4 Zqd w vv vs Fv
 know:Zew w k fs
 num:Zgw w r (vs.map Zed)
 own:F=p::k::r::(Ff++Fv)
 new:Za7 0 w F
def Zd3 (w:World) (p:Nat) (fs:List (ByteArray×Nat)) (vs:List T) (F:List Nat):Prop:= ∃ k r fv vv Ff Fv,Wd w p fs vs F k r fv vv Ff Fv
theorem Zd3.of (h:Zd3 w p fs vs F)(hs:w.heap.size<=w'.heap.size)(hb: ∀ k,k∈F->w'.heap[k]?=w.heap[k]?):Zd3 w' p fs vs F:=by
 obtain⟨k,r,fv,vv,Ff,Fv,h⟩:=h;have e:=h.own;subst e;exact⟨k,r,fv,vv,Ff,Fv,h.blk.of (hb _ (by simp)),Zag.stable Zkb.stable _ _ _ _ _ h.facts fun j hj=>hb j (by simp[hj]),Zag.stable Zqd.stable _ _ _ _ _ h.vals fun j hj=>hb j (by simp[hj]),h.know.of (hb _ (by simp)),h.num.of (hb _ (by simp)),rfl,h.new.later lr hs⟩
theorem Zd3.lt (h:Zd3 w p fs vs F): ∀ k,k∈F->k < w.heap.size:=by
 obtain⟨k,r,fv,vv,Ff,Fv,h⟩:=h;exact h.new.lt
theorem Zd3.off {G:List Nat}(h:Zd3 w p fs vs F)(k:Off G w w')(hd: ∀ j,j∈F->j∉G):Zd3 w' p fs vs F:=
 h.of k.size fun j hj=>k.block j (h.lt j hj) (hd j hj)
def Txt (B b:Nat) (s:ByteArray) (w:World):Prop:= ∃ g c cur p T fb fg,B<=g/\w.heap[b]?=some (.cells #[p,.slice (some ⟨g,0,none⟩) s.size c] T fb)/\w.heap[g]?=some (.cells cur 5 fg)/\cur.toList.take s.size=Lib.strCells s/\s.size<=cur.size/\0 < s.size/\s.size < 1000000000/\c≠0
theorem Zma {a:Addr}{k:Nat}{c:Array Value}{e:TypeId}{fr:Nat×Nat}(h:w.heap[k]?=some (.cells c e fr)): ∃ fr',(w.freeze a n).heap[k]?=some (.cells c e fr'):=by
 unfold World.freeze;split
 ·exact⟨fr,h⟩
 ·simp only[Array.getElem?_modify,h];split
  ·exact⟨_,rfl⟩
  ·exact⟨fr,rfl⟩
theorem Txt.of {T:Nat}(h:Bld T B b s w)(hs:s.size < 1000000000)(h0:0 < s.size):Txt B b s w:=by
 obtain⟨p,va,vc,hbk,hown,hBb⟩:=h.form;rcases hown.2 with⟨_,hz⟩ | ⟨g,cap,cur,hv,hBg,hg,hnc,hcm,hcs,htk⟩
 ·omega
 injection hv with hv1 hv2 hv3;subst hv1 hv3;exact⟨g,vc,cur,p,T,(0,0),(0,0),hBg,hbk,hg,by simpa using htk,by omega,h0,hs,by omega⟩
theorem Txt.freeze {g:Nat}(h:Txt B b s w):Txt B b s (w.drew.freeze ⟨g,0,none⟩ n):=by
 obtain⟨g',c,cur,p,T,fb,fg,h1,h2,h3,h4⟩:=h;obtain⟨fb',k2⟩:=Zma (a:=⟨g,0,none⟩) (n:=n) (w:=w.drew) h2;obtain⟨fg',k3⟩:=Zma (a:=⟨g,0,none⟩) (n:=n) (w:=w.drew) h3;exact⟨g',c,cur,p,T,fb',fg',h1,k2,k3,h4⟩
theorem Zlz (h:Txt B b s w):
  Calls prog 64 #[.pointer (some ⟨b,0,none⟩)] w fun e w'=>e= .returned (.string s)/\Txt B b s w'/\Below B w w':=by
 have H:=Zaa h;obtain⟨g,c,cur,p,T,fb,fg,hBg,hb,hg,htk,hle,h0,hs,hc⟩:=h;have c1:w.cell? ⟨b,1,none⟩=some (.slice (some ⟨g,0,none⟩) s.size c):=cell_of_row w b 1 _ T fb hb;have hsh:w.drew.shape? g=some (5,cur.size):=by have hg':w.drew.heap[g]?=some (.cells cur 5 fg):=hg;simp[World.shape?,hg']
 have hne:s.data.toList≠[]:=fun q=>absurd h0 (by show ¬ 0 < s.data.size;rw[<- Yep,q];simp);have hSD:=fun u=>Lib.run_unsafeSliceData_row (P:=prog) u #[74] 208 ⟨g,0,none⟩ s.size c hc;have hUS:(Builtin.unsafeString_ #[208,3] 9 #[.pointer (some ⟨g,0,none⟩),.int .i64 (s.size:Int)]).run prog w.drew= .ok (.string s) (w.drew.freeze ⟨g,0,none⟩ s.size):=
  Lib.run_unsafeString_row w.drew 208 3 9 5 underlying208 Zno g cur.size hsh s.data.toList hne (by rw[Yep];exact hle) (by rw[Yep];show s.size<=_;omega) (fun j x hx=>by
   have hj:j < s.size:=by have:=(Ydl.1 hx).1;rwa [Yep]at this
   rw[Addr.add_lit,Yd7,show(w.drew).cell? ⟨g,j,none⟩=cur[j]? from cell_of_row w.drew g j cur 5 fg hg,<- Yee];have e1:(cur.toList.take s.size)[j]?=cur.toList[j]?:=List.getElem?_take_of_lt hj;rw[<- e1,htk];simp[Lib.strCells,hx])
 clear hsh hle hb hg htk;go_in
 go_wp2
 go_region
 all_goals (go_wp2;go_ret;exact⟨rfl,H.out.freeze,Lib.below_freeze ((Ydb B w).drew) (p:=⟨g,0,none⟩) hBg _⟩)
end Go.P
namespace Go.W
variable {e:TypeId}{s g cap j m:Nat}{w:World}{F:List Nat}{v:Value}
theorem Zag.last {α:Type}{Q:Zgj α}(hQ:Zc3 Q)(hF: ∀ w vs x F,Q w vs x F->F=[]){xs:List α}{y:α}(h:Zag e s Q w (.slice (some ⟨g,0,none⟩) (xs.length+1) cap) (xs++[y]) F):
  ∃ cur A cs R,Blk w g cur e/\cur=(A++(cs++R)).toArray/\A.length=xs.length*s/\cs.length=s/\Q w cs y []/\ ∀ w' cs' x,Blk w' g (A++(cs'++R)).toArray e->cs'.length=s->Q w' cs' x []->Zag e s Q w' (.slice (some ⟨g,0,none⟩) (xs.length+1) cap) (xs++[x]) F:=by
 obtain⟨zs,hown,hz,hx,rfl,hl⟩:=h;obtain⟨zs,z,rfl⟩: ∃ zs' z,zs=zs'++[z]:=by
  cases hzs:zs.reverse with
  | nil=>
   have:=List.reverse_eq_nil_iff.1 hzs
   subst this;simp at hx
  | cons z r=>exact⟨r.reverse,z,by have:=congrArg List.reverse hzs;simpa using this⟩
 rw[List.map_append]at hx;obtain⟨rfl,hy⟩:=List.append_inj' hx rfl;simp at hy;subst hy;obtain⟨hzl,hzq⟩:=hz z (by simp);have hz2:=hF _ _ _ _ hzq;rw[hz2]at hzq;have hall: ∀ (l:List (List Value×α×List Nat)),(∀ z,z∈l->z.1.length=s)->((l.map (·.1)).flatten).length=l.length*s:=by
  intro l;induction l with
  | nil=>intro _;simp
  | cons a l ih=>intro hh;simp[hh a (by simp),ih (fun z hz=>hh z (by simp[hz])),Nat.succ_mul,Nat.add_comm]
 have hA:=hall zs fun z hm=>(hz z (by simp[hm])).1;rcases hown.2 with⟨hv,h0⟩ | ⟨g',cap',cur,hv,h1,h2,h3,h4,h5,h6⟩
 ·simp at h0
 injection hv with hv1 hv2 hv3;injection hv1 with hv1;injection hv1 with hv1;subst hv1 hv3;have hcur:cur.toList=(zs.map (·.1)).flatten++(z.1++cur.toList.drop ((zs++[z]).length*s)):=by
  have e1:=List.take_append_drop ((zs++[z]).length*s) cur.toList;rw[h6]at e1;simpa using e1.symm
 refine⟨cur,(zs.map (·.1)).flatten,z.1,cur.toList.drop ((zs++[z]).length*s),h2,by rw[<- hcur],by rw[hA];simp,hzl,hzq,fun w' cs' x hb hc hq=>?_⟩;refine⟨zs++[(cs',x,[])],⟨by rw[List.map_append,List.flatten_append,Yeg,hA];simp[hc,Nat.succ_mul],.inr ⟨g,cap,_,by simp,h1,hb,by simpa using h3,h4,?_,?_⟩⟩,?_,by simp,by simp[hz2,Value.ownBlock],by simpa using hl⟩
 ·have:=congrArg List.length hcur
  simp[hzl,hc]at this⊢;omega
 ·rw[Yeg,List.length_singleton,Nat.succ_mul,<- hA,<- hc,<- Ydq];have e1:(zs.map (·.1)).flatten.length+cs'.length=((zs.map (·.1)).flatten++cs').length:=by simp
  rw[e1];simp only[List.take_left'];simp
 ·intro z' hm;rcases Ydk.1 hm with hm | hm
  ·refine⟨(hz z' (by simp[hm])).1,?_⟩;have hq':=(hz z' (by simp[hm])).2;have e:=hF _ _ _ _ hq';exact hQ w w' _ _ _ hq' (by rw[e];intro k hk;cases hk)
  ·simp at hm;subst hm;exact⟨hc,hq⟩
theorem Zag.own {α:Type}{Q:Zgj α}{n c:Nat}{xs:List α}(h:Zag e s Q w (.slice (some ⟨g,0,none⟩) n c) xs F):g∈F:=by
 obtain⟨_,_,_,_,rfl,_⟩:=h;simp[Value.ownBlock]
theorem Zs0.notNew {α:Type}{Q:Zgj α}{B:Nat}{w1:World}{xs:List α}{y:α}{F':List Nat}(h:Zs0 e s Q B w w1 xs F [] y g cap F')(hj:j < w.heap.size)(hn:j∉F):j∉F':=fun hF=>by
 rcases h.sub j hF with h | h | h
 ·exact hn h
 ·cases h
 ·omega
theorem Zag.nth {α:Type}{Q:Zgj α}{xs:List α}(h:Zag e s Q w v xs F)(i:Nat)(x:α)(hx:xs[i]?=some x): ∃ g cap cs G,v= .slice (some ⟨g,0,none⟩) xs.length cap/\g∈F/\Q w cs x G/\ ∀ j u,cs[j]?=some u->w.cell? ⟨g,i*s+j,none⟩=some u:=by
 obtain⟨zs,hown,hz,rfl,rfl,hl⟩:=h;rw[Yd5]at hx;obtain⟨z,hzi,rfl⟩:=Yd0.1 hx;obtain⟨hz1,hz2⟩:=hz z (Yeq hzi);have hil:=(Ydl.1 hzi).1;rcases hown.2 with⟨rfl,h0⟩ | ⟨g,cap,cur,rfl,h1⟩
 ·omega
 refine⟨g,cap,z.1,z.2.2,by simp,by simp[Value.ownBlock],hz2,fun j v hj=>?_⟩;have hj4:j < s:=by have:=(Ydl.1 hj).1;omega
 have hall: ∀ (l:List (List Value×α×List Nat)) (n:Nat),(∀ z,z∈l->z.1.length=s)->l[n]?=some z->(l.map (·.1)).flatten[n*s+j]?=some v:=by
  intro l;induction l with
  | nil=>intro n _ h;simp at h
  | cons a l ih=>
   intro n hh hn;have ha:=hh a (by simp);cases n with
   | zero=>
    simp at hn;subst hn;simp only[List.map_cons,List.flatten_cons,Yex,Yd7];rw[Yd4 (by omega)];exact hj
   | succ n=>
    simp only[List.map_cons,List.flatten_cons];rw[Yd1 (by rw[ha,Nat.succ_mul];omega),show(n+1)*s+j - a.1.length=n*s+j by rw[ha,Nat.succ_mul];omega];exact ih n (fun z hz=>hh z (by simp[hz])) (by simpa using hn)
 have:=hown.cells (g:=g) rfl (i*s+j) v (hall zs i (fun z hm=>(hz z hm).1) hzi)
 simpa[Addr.add_lit]using this
theorem Zg7 {A cs R:List Value}(hb:Blk w g (A++(cs++R)).toArray e)(hA:A.length=m)(j:Nat)(v:Value)(hj:cs[j]?=some v):w.cell? ⟨g,m+j,none⟩=some v:=by
 rw[hb.cell,Yd8,Yd1 (by omega),show m+j - A.length=j by omega,Yd4 (Ydl.1 hj).1,hj]
theorem Zm7 {A B R:List Value}{y:Value}(hA:A.length=m)(hB:B.length=j):(A++(B++y::R)).toArray.setIfInBounds (m+j) v=(A++(B++v::R)).toArray:=by
 rw[List.setIfInBounds_toArray,List.set_append_right _ _ (by omega),show m+j - A.length=j by omega,List.set_append_right _ _ (by omega),show j - B.length=0 by omega];rfl
end Go.W
namespace Go.W
theorem Zqd.nil: ∀ (w:World) (vs:List Value) (x:T) (F:List Nat),Zqd w vs x F->F=[]:=fun _ _ _ _ h=>h.1
def T0:T:= .mk 0 0 ⟨#[]⟩ []
theorem Zgw.lt {w:World}{r:Nat}{bs:List ByteArray}(h:Zgw w r bs):r < w.heap.size:=by
 obtain⟨es,c,h,_⟩:=h;exact(Ydo.1 h).1
end Go.W
namespace Go.P
variable {w w' W:World}{p k r g m:Nat}{fs:List (ByteArray×Nat)}{vs:List T}{F Ff Fv:List Nat}{fv vv v0 v1 v2 v3:Value}
theorem Zzj {P:Program}{c:Code}{K:Act->World->Prop}{Q:Exit->Act->World->Prop}{a:Act}(K3:Act->World->Prop)(h:c.wp P (Exit.then K3 Q) a w)(hk: ∀ a w,K3 a w->K a w):c.wp P (Exit.then K Q) a w:=
 Code.wp_mono (fun e a w q=>by cases e <;> first | exact hk _ _ q | exact q) h
theorem Wd.of (h:Wd w p fs vs F k r fv vv Ff Fv)(hs:w.heap.size<=w'.heap.size)(hb: ∀ k,k∈F->w'.heap[k]?=w.heap[k]?):Wd w' p fs vs F k r fv vv Ff Fv:=by
 have e:=h.own;subst e;exact⟨h.blk.of (hb _ (by simp)),Zag.stable Zkb.stable _ _ _ _ _ h.facts fun j hj=>hb j (by simp[hj]),Zag.stable Zqd.stable _ _ _ _ _ h.vals fun j hj=>hb j (by simp[hj]),h.know.of (hb _ (by simp)),h.num.of (hb _ (by simp)),rfl,h.new.later lr hs⟩
theorem Wd.below (h:Wd w p fs vs F k r fv vv Ff Fv)(hb:Below w.heap.size w w'):Wd w' p fs vs F k r fv vv Ff Fv:=h.of hb.size fun j hj=>hb.block j (h.new.lt j hj)
theorem Wd.apart (h:Wd w p fs vs F k r fv vv Ff Fv):(p≠k/\p≠r/\p∉Ff/\p∉Fv)/\(k≠r/\k∉Ff/\k∉Fv)/\(r∉Ff/\r∉Fv)/\Ff.Nodup/\Fv.Nodup/\ ∀ a,a∈Ff->a∉Fv:=by
 have nd:=h.new.once;rw[h.own]at nd;simp only[List.nodup_cons,Ydj,Ydk,not_or,Yem]at nd;exact⟨nd.1,nd.2.1,nd.2.2.1,nd.2.2.2.1,nd.2.2.2.2.1,fun a ha hb=>nd.2.2.2.2.2 a ha a hb rfl⟩
def Z7y (w6 W:World) (p o g m:Nat) (sv:Value) (cs:List Value):Prop:=(∀ e A old R,Blk w6 g (A++(old++R)).toArray e->A.length=m->old.length=cs.length->p≠g->Blk W g (A++(cs++R)).toArray e)/\(∀ e vs,Blk w6 p vs e->p≠g->Blk W p (vs.setIfInBounds o sv) e)/\(∀ j,j≠p->j≠g->W.heap[j]?=w6.heap[j]?)/\W.heap.size=w6.heap.size/\W.os=w6.os/\W.tape=w6.tape/\W.output=w6.output
theorem Yby {e:TypeId}{A old R:List Value}(h:Blk w g (A++(old++R)).toArray e)(hA:A.length=m)(ho:old.length=4):Blk ((((w.setCell ⟨g,m,none⟩ v0).setCell ⟨g,m+1,none⟩ v1).setCell ⟨g,m+2,none⟩ v2).setCell ⟨g,m+3,none⟩ v3) g (A++([v0,v1,v2,v3]++R)).toArray e:=by
 match old,ho with
 | [o0,o1,o2,o3],_=>
  have:=(((h.set (m+0) v0).set (m+1) v1).set (m+2) v2).set (m+3) v3
  rw[show([o0,o1,o2,o3]++R)=[]++o0::([o1,o2,o3]++R)from rfl,Zm7 (B:=[]) (j:=0) hA rfl]at this;rw[show([]++v0::([o1,o2,o3]++R))=[v0]++o1::([o2,o3]++R)from rfl,Zm7 (B:=[v0]) (j:=1) hA rfl]at this;rw[show([v0]++v1::([o2,o3]++R))=[v0,v1]++o2::([o3]++R)from rfl,Zm7 (B:=[v0,v1]) (j:=2) hA rfl]at this;rw[show([v0,v1]++v2::([o3]++R))=[v0,v1,v2]++o3::R from rfl,Zm7 (B:=[v0,v1,v2]) (j:=3) hA rfl]at this;exact this
theorem Z4h {o:Nat}{sv:Value}(h:W=((((w.setCell ⟨g,m,none⟩ v0).setCell ⟨g,m+1,none⟩ v1).setCell ⟨g,m+2,none⟩ v2).setCell ⟨g,m+3,none⟩ v3).setCell ⟨p,o,none⟩ sv\/W=((((w.setCell ⟨p,o,none⟩ sv).setCell ⟨g,m,none⟩ v0).setCell ⟨g,m+1,none⟩ v1).setCell ⟨g,m+2,none⟩ v2).setCell ⟨g,m+3,none⟩ v3):Z7y w W p o g m sv [v0,v1,v2,v3]:=by
 have hs: ∀ (u:World) a v,(u.setCell a v).heap.size=u.heap.size:=fun u a v=>by simp[World.setCell]
 have h1: ∀ (u:World) a v,(u.setCell a v).os=u.os:=fun _ _ _=>rfl;have h2: ∀ (u:World) a v,(u.setCell a v).tape=u.tape:=fun _ _ _=>rfl;have h3: ∀ (u:World) a v,(u.setCell a v).output=u.output:=fun _ _ _=>rfl;rcases h with rfl | rfl
 ·refine⟨fun e A old R h hA ho hn=>(Yby h hA ho).away p o (Ne.symm hn) sv,fun e vs h hn=>((((h.away g m hn v0).away g (m+1) hn v1).away g (m+2) hn v2).away g (m+3) hn v3).set o sv,fun j h1 h2=>?_,by rw[hs,hs,hs,hs,hs],by rw[h1,h1,h1,h1,h1],by rw[h2,h2,h2,h2,h2],by rw[h3,h3,h3,h3,h3]⟩;rw[Ydg _ _ _ _ h1,Ydg _ _ _ _ h2,Ydg _ _ _ _ h2,Ydg _ _ _ _ h2,Ydg _ _ _ _ h2]
 ·refine⟨fun e A old R h hA ho hn=>Yby (h.away p o (Ne.symm hn) sv) hA ho,fun e vs h hn=>((((h.set o sv).away g m hn v0).away g (m+1) hn v1).away g (m+2) hn v2).away g (m+3) hn v3,fun j h1 h2=>?_,by rw[hs,hs,hs,hs,hs],by rw[h1,h1,h1,h1,h1],by rw[h2,h2,h2,h2,h2],by rw[h3,h3,h3,h3,h3]⟩;rw[Ydg _ _ _ _ h2,Ydg _ _ _ _ h2,Ydg _ _ _ _ h2,Ydg _ _ _ _ h2,Ydg _ _ _ _ h1]
theorem Wd.appV {w4 W5 U w6:World}{F6:List Nat}{x:T}{g6 cap6:Nat}{q:Option Addr}{c:Nat}(D4:Wd w4 p fs vs F k r fv vv Ff Fv)(O5:Off [r] w4 W5)(HNM:Zgw W5 r ((vs.map Zed)++[Zed x]))(hU:Off [] W5 U)(happ:Zs0 117 4 Zqd 0 U w6 vs Fv [] T0 g6 cap6 F6)(hW:Z7y w6 W p 2 g6 (vs.length*4) (.slice (some ⟨g6,0,none⟩) (vs.length+1) cap6) [.int .i64 x.k,.int .i64 x.i,.string x.t,.slice q x.l.length c]):
  ∃ F',Zd3 W p fs (vs++[x]) F'/\Off F w4 W/\ ∀ i,i∈F'->i∈F\/w4.heap.size<=i:=by
 obtain⟨h1,h2,h3,h4,h5,h6,h7⟩:=hW;obtain⟨⟨pk,pr,pf,pv⟩,⟨kr,kf,kv⟩,⟨rf,rv⟩,nf,nv,fvd⟩:=D4.apart;have hown:=D4.own;have hltF:=D4.new.lt;rw[hown]at hltF;have s5:=O5.size;have sU:=hU.size;have s6:=happ.size;have up: ∀ j,j < w4.heap.size->j≠r->j∉Fv->w6.heap[j]?=w4.heap[j]?:=fun j hj hr hv=>(happ.same j (by omega) hv).trans ((hU.block j (by omega) (by simp)).trans (O5.block j hj (by simpa using hr)));have hsub: ∀ j,j∈F6->j∈Fv\/w4.heap.size<=j:=fun j hj=>by
  rcases happ.sub j hj with h | h | h
  ·exact .inl h
  ·cases h
  ·exact .inr (by omega)
 have nin: ∀ j,j < w4.heap.size->j∉Fv->j∉F6:=fun j hj hn hF=>(hsub j hF).elim hn (by omega);have lp:=hltF p (by simp);have lk:=hltF k (by simp);have lr:=hltF r (by simp);have lf: ∀ j,j∈Ff->j < w4.heap.size:=fun j hj=>hltF j (by simp[hj]);have hg6:g6∈F6:=happ.row.own;have hpg:p≠g6:=fun e=>nin p lp pv (e▸hg6);have upW: ∀ j,j < w4.heap.size->j≠r->j∉Fv->j≠p->W.heap[j]?=w4.heap[j]?:=fun j hj hr hv hp=>(h3 j hp (fun e=>nin j hj hv (e▸hg6))).trans (up j hj hr hv);have hrW:W.heap[r]?=W5.heap[r]?:=(h3 r (Ne.symm pr) (fun e=>nin r lr rv (e▸hg6))).trans ((happ.same r (by omega) rv).trans (hU.block r (by omega) (by simp)));obtain⟨cur,A,cs,R,hcb,hcur,hAl,hcl,_,hput⟩:=Zag.last Zqd.stable Zqd.nil happ.row;subst hcur;refine⟨p::k::r::(Ff++F6),⟨k,r,fv,.slice (some ⟨g6,0,none⟩) (vs.length+1) cap6,Ff,F6,?_,?_,?_,D4.know.of (upW k lk kr kv (Ne.symm pk)),?_,rfl,?_,fun _ _=>Yej _,?_⟩,?_,?_⟩
 ·exact h2 _ _ (D4.blk.of (up p lp pr pv)) hpg
 ·exact Zag.stable Zkb.stable _ _ _ _ _ D4.facts fun j hj=>upW j (lf j hj) (fun e=>rf (e▸hj)) (fvd j hj) (fun e=>pf (e▸hj))
 ·exact hput W _ x (h1 _ A cs R hcb hAl (by rw[hcl];rfl) hpg) rfl ⟨rfl,q,c,rfl⟩
 ·rw[List.map_append];exact HNM.of hrW
 ·simp only[List.nodup_cons,Ydj,Ydk,not_or,Yem];exact⟨⟨pk,pr,pf,nin p lp pv⟩,⟨kr,kf,nin k lk kv⟩,⟨rf,nin r lr rv⟩,nf,happ.new.once,fun a ha b hb e=>nin a (lf a ha) (fvd a ha) (e▸hb)⟩
 ·intro j hj
  have:=happ.new.lt
  simp only[Ydj,Ydk]at hj;rcases hj with rfl | rfl | rfl | hj | hj
  ·omega
  ·omega
  ·omega
  ·have:=lf j hj;omega
  ·have:=this j hj;omega
 ·refine⟨by rw[h5,happ.os,hU.os,O5.os],by rw[h6,happ.tape,hU.tape,O5.tape],by rw[h7,happ.output,hU.output,O5.output],by omega,fun j hj hn=>?_⟩;rw[hown]at hn;simp only[Ydj,Ydk,not_or]at hn;exact upW j hj hn.2.2.1 hn.2.2.2.2 hn.1
 ·intro i hi;rw[hown];simp only[Ydj,Ydk]at hi⊢;rcases hi with rfl | rfl | rfl | hi | hi
  ·simp
  ·simp
  ·simp
  ·simp[hi]
  ·rcases hsub i hi with h | h
   ·simp[h]
   ·exact .inr h
end Go.P
namespace Go.W
theorem Zag.at4 {e:TypeId}{w:World}{v:Value}{xs:List T}{F:List Nat}(h:Zag e 4 Zqd w v xs F)(i:Nat)(x:T)(hx:xs[i]?=some x): ∃ g cap q c,v= .slice (some ⟨g,0,none⟩) xs.length cap/\w.cell? ⟨g,i*4,none⟩=some (.int .i64 x.k)/\w.cell? ⟨g,i*4+1,none⟩=some (.int .i64 x.i)/\w.cell? ⟨g,i*4+2,none⟩=some (.string x.t)/\w.cell? ⟨g,i*4+3,none⟩=some (.slice q x.l.length c):=by
 obtain⟨g,cap,cs,G,rfl,_,⟨_,q,c,rfl⟩,key⟩:=h.nth i x hx;exact⟨g,cap,q,c,rfl,key 0 _ rfl,key 1 _ rfl,key 2 _ rfl,key 3 _ rfl⟩
end Go.W
namespace Go.P
theorem Zz1 {w:World}{p:Nat}{fs:List (ByteArray×Nat)}{vs:List T}{F:List Nat}(h:Zd3 w p fs vs F)(hm:w.cell? ⟨17,2,none⟩=some (.string ⟨#[60]⟩))(a b:Nat)(x y:T)(ha:vs[a]?=some x)(hb:vs[b]?=some y)(hxk:x.k=5)(hyk:y.k=5)(hlt:x.i < y.i):
  Calls prog 250 #[.pointer (some ⟨p,0,none⟩),.int .i64 3,.int .i64 (a:Int),.int .i64 (b:Int)] w fun e w'=>e= .returned (.bool true)/\Below w.heap.size w w':=by
 obtain⟨k,r,fv,vv,Ff,Fv,hw⟩:=h;obtain⟨g,cap,q,c,rfl,x0,x1,x2,x3⟩:=Zag.at4 hw.vals a x ha;obtain⟨g',cap',q',c',e,y0,y1,y2,y3⟩:=Zag.at4 hw.vals b y hb;injection e with e1 e2 e3;injection e1 with e1;injection e1 with e1;subst e1;have hal:(a:Int) < (vs.length:Int):=by have:=(Ydl.1 ha).1;omega
 have hbl:(b:Int) < (vs.length:Int):=by have:=(Ydl.1 hb).1;omega
 obtain⟨p0,p1,p2,p3,ps⟩:=hw.blk.four;have hgl:g < w.heap.size:=hw.new.lt g (by rw[hw.own];simp[hw.vals.own]);have hpl:=hw.blk.lt;have hml:17 < w.heap.size:=Zbi hm;rw[hxk]at x0;rw[hyk]at y0;have B2:=fun o o'=>(((Ydb w.heap.size w).alloc lr o).alloc (by simp) o').drew;clear hw ha hb hxk hyk;go_in
 go_wp2
 go_region
 all_goals
  go_wp2
  go_ret
  exact⟨rfl,B2 _ _⟩
end Go.P
