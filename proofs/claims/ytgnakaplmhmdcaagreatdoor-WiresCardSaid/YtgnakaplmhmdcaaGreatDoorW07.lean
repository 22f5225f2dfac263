import Derived.Test.YtgnakaplmhmdcaaGreatDoorW06
set_option maxRecDepth 100000
set_option maxHeartbeats 8000000
open Go.Proofs Go.RowKit Go.W
namespace Go.W
variable {q:Nat}
theorem Zyc {α:Type}(f:α->Bool){l:List α}(h:q < l.length):(l.drop q).any f=(f l[q] || (l.drop (q+1)).any f):=by
 rw[List.drop_eq_getElem_cons h,List.any_cons]
theorem Z7a {α:Type}(f:α->Bool){l:List α}(h:q < l.length):(l.drop q).all f=(f l[q] && (l.drop (q+1)).all f):=by
 rw[List.drop_eq_getElem_cons h,List.all_cons]
def Z7y {α:Type} (w:World) (f:α->Bool) (l:List α) (iv:Value) (wr:World):Prop:= ∃ q:Nat,q<=l.length/\iv= .int .i64 q/\(l.drop q).any f=l.any f/\Below w.heap.size w wr
def Ybn {α:Type} (w:World) (f:α->Bool) (l:List α) (iv:Value) (wr:World):Prop:= ∃ q:Nat,q<=l.length/\iv= .int .i64 q/\(l.drop q).all f=l.all f/\Below w.heap.size w wr
def Zu9 (s:ByteArray) (x:T):Bool:=Z6o x && decide (x.t=s)
def Zle (body:List A) (s:ByteArray):Bool:=body.any fun a=>a.terms.any (Zu9 s)
def Yaf (body:List A) (t:T):Bool:= !Z6o t || Zle body t.t
theorem Z9n (body:List A)(t:T):Yaf body t=(!decide (t.k=1) || Zle body t.t):=rfl
theorem Z3d (l:List T)(body:List A):Zcg l body=l.all (Yaf body):=rfl
end Go.W
namespace Go.P
variable {B D c:Nat}{w:World}{p:Option Addr}
theorem Znt {xs:List A}(s:ByteArray)(hrow:Zao 2 (Zbd B w (D+1)) p xs)(hB:B<=w.heap.size):
  Calls Tryz.prog 154 #[.slice p xs.length c,.string s] w fun e w'=>e= .returned (.bool (Zle xs s))/\Below w.heap.size w w':=by
 have hl:=hrow.len;have HR:=Zaa hrow;clear hrow;have F:Box (Zle xs s=xs.any fun a=>a.terms.any (Zu9 s)):=⟨rfl⟩;generalize Zle xs s=ans at*;go_enter Tryz.func154,Tryz.ntmps154
 go_wp2_with fail
 go_loopw [11] (fun iv wr=>Z7y w (fun a=>a.terms.any (Zu9 s)) xs iv wr) (fun iv _=>xs.length - (intOf iv).toNat)
 case atStart=>exact⟨0,by omega,rfl,rfl,Yct _ _⟩
 case round=>
  obtain⟨q,hq,rfl,hall,hbw⟩:=hrel;have AL:=Zaa hall;have HB:=Zaa hbw;by_cases hlt:q < xs.length
  ·have FD:=Zaa (Zyc (fun a:A=>a.terms.any (Zu9 s)) hlt);obtain⟨b1,o1,rfl,hx⟩:=HR.out.get q hlt;obtain⟨hb1,p1,c1,k0,k1,hS⟩:=(hx.carry (Za6 hbw hB) lr).vals;have hsz:=hbw.size;have BB:=Zaa (hbw.alloc hsz (.cells #[.string xs[q].name,.slice p1 xs[q].terms.length c1] 98));obtain⟨p2,c2,he,_,_,hr⟩:=hS.carry (Zfd (.cells #[.string xs[q].name,.slice p1 xs[q].terms.length c1] 98) (by omega));simp only[List.cons.injEq,Value.slice.injEq,and_true,true_and]at he;obtain⟨rfl,rfl⟩:=he;have hl2:=hr.len;have HR2:=Zaa hr;clear hall hbw hx hr;generalize xs[q].terms=ts at*;rename World=>wo
   go_wp2_with fail
   go_loopw [18] (fun iv wr=>Z7y (wo.alloc (.cells #[.string xs[q].name,.slice p1 ts.length c1] 98)) (Zu9 s) ts iv wr) (fun iv _=>ts.length - (intOf iv).toNat)
   case atStart=>exact⟨0,by omega,rfl,rfl,Yct _ _⟩
   case round=>
    obtain⟨k,hk,rfl,hall,hbw⟩:=hrel;have AL2:=Zaa hall;have HW:=Zaa hbw;have HB2:=Zaa (BB.out.trans (hbw.mono BB.out.size));by_cases hkt:k < ts.length
    ·have FD2:=Zaa (Zyc (Zu9 s) hkt);have VI:Box (Zu9 s ts[k]=(decide (ts[k].k=1) && decide (ts[k].t=s))):=⟨rfl⟩;obtain⟨b3,o3,rfl,hx⟩:=HR2.out.get k hkt;obtain⟨hb3,p3,c3,y0,y1,y2,y3,_⟩:=(hx.carry (Za6 hbw (by simp;omega)) lr).vals;have tb:=Zi7 ts[k].t s;generalize ts[k].k=kk at*;generalize ts[k].t=kt at*;generalize Zu9 s ts[k]=vi at*;clear hall hbw hx;go_wp2_with fail
     all_goals first
      | (go_ret;exact⟨Zb3 (by rw[F.out,<- AL.out,FD.out,<- AL2.out,FD2.out,VI.out];simp_all),HB2.out.alloc HB2.out.size _⟩)
      | (go_roundw
         case rel=>exact⟨k+1,by omega,by go_num,by rw[<- AL2.out,FD2.out,VI.out];simp_all,HW.out.alloc HW.out.size _⟩
         case measure=>simp[intOf];omega)
    ·obtain rfl:k=ts.length:=by omega
     go_wp2_with fail
     go_roundw
     case rel=>exact⟨q+1,by omega,by go_num,by rw[<- AL.out,FD.out,<- AL2.out,List.drop_length];rfl,HB2.out⟩
     case measure=>simp[intOf];omega
  ·obtain rfl:q=xs.length:=by omega
   go_wp2_with fail
   go_ret
   exact⟨Zb3 (by rw[F.out,<- AL.out,List.drop_length];rfl),HB.out⟩
theorem Zdb {xs:List T}{p':Option Addr}{ys:List A}{c':Nat}(hrow:Zao 4 (Zbl B w (D+1)) p xs)(hrow':Zao 2 (Zbd B w (D+1)) p' ys)(hB:B<=w.heap.size):
  Calls Tryz.prog 108 #[.slice p xs.length c,.slice p' ys.length c'] w fun e w'=>e= .returned (.bool (Zcg xs ys))/\Below w.heap.size w w':=by
 have hl:=hrow.len;have HR:=Zaa hrow;have HR':=Zaa hrow';clear hrow hrow';have F:=Zaa (Z3d xs ys);generalize Zcg xs ys=ans at*;go_enter Tryz.func108,Tryz.ntmps108
 go_wp2_with fail
 go_loopw [9] (fun iv wr=>Ybn w (Yaf ys) xs iv wr) (fun iv _=>xs.length - (intOf iv).toNat)
 case atStart=>exact⟨0,by omega,rfl,rfl,Yct _ _⟩
 case round=>
  obtain⟨q,hq,rfl,hall,hbw⟩:=hrel;have AL:=Zaa hall;have HB:=Zaa hbw;by_cases hlt:q < xs.length
  ·have FD:=Zaa (Z7a (Yaf ys) hlt);have VI:=Zaa (Z9n ys xs[q]);obtain⟨b1,o1,rfl,hx⟩:=HR.out.get q hlt;obtain⟨hb1,p1,c1,y0,y1,y2,y3,_⟩:=(hx.carry (Za6 hbw hB) lr).vals;have hsz:=hbw.size;have CH:=Zaa (fun u (hu:Below w.heap.size w u)=>Znt (c:=c') xs[q].t (HR'.out.carry fun _ _ _ r=>r.carry (Za6 hu hB) lr) (Ycu hB hu.size));generalize Zle ys xs[q].t=hv at*;generalize Yaf ys xs[q]=iv at*;generalize xs[q].k=kk at*;clear hall hbw hx;go_wp2_with (go_at_call 154;refine(CH.out _ (HB.out.alloc HB.out.size _)).mono ?_;rintro e w1 ⟨rfl,hb⟩)
   all_goals first
    | (go_ret;exact⟨Zb3 (by rw[F.out,<- AL.out,FD.out,VI.out];simp_all),(HB.out.alloc HB.out.size _).trans (hb.mono (by simp;omega))⟩)
    | (go_roundw
       case rel=>first | exact⟨q+1,by omega,by go_num,by rw[<- AL.out,FD.out,VI.out];simp_all,(HB.out.alloc HB.out.size _).trans (hb.mono (by simp;omega))⟩ | exact⟨q+1,by omega,by go_num,by rw[<- AL.out,FD.out,VI.out];simp_all,HB.out.alloc HB.out.size _⟩
       case measure=>simp[intOf];omega)
  ·obtain rfl:q=xs.length:=by omega
   go_wp2_with fail
   go_ret
   exact⟨Zb3 (by rw[F.out,<- AL.out,List.drop_length];rfl),HB.out⟩
end Go.P
namespace Go.P
variable {a:Nat->Addr}{B D:Nat}{w:World}{vs:List Value}{x:A}
theorem Zhc (V:Zbe)(Z:Zap a w)(hB:B<=w.heap.size)(hS:Zev B w D vs x):
  Calls Tryz.prog 107 #[.agg vs.toArray] w (Zc9 a (Zb9 x) w):=by
 obtain⟨p,c,rfl,ht,hc,hrow⟩:=hS;have F:Box (Zb9 x=if Zcp x.name=false then 2 else Zbw (Zal 0) 6 x.terms):=⟨rfl⟩;have C1:=Zaa (fun u=>Zlq x.name u ht);have C2:=Zaa (fun u (hu:Below w.heap.size w u)=>Zo3 (c:=c) (m:=6) (B:=B) Zls (first:=#[.int .i64 0]) (cap:=#[]) (f:=Zal 0) (Z.below hu) (hrow.carry fun _ _ _ r=>r.carry (Za6 hu hB) lr) (Ycu hB hu.size) fun u2 vs y hy hu2 hS=>Zod V a 0 (by omega) ((Z.below hu).below hu2) (Ycu hB (Ycu hu.size hu2.size)) hS);have ZZ:=Zaa Z;have hl:=hrow.len;clear hrow Z hc;generalize Zb9 x=ans at*;generalize Zcp x.name=b1 at*;go_enter Tryz.func107,Tryz.ntmps107
 go_wp2_with fail
 refine(C1.out _).mono ?_;rintro e w1 ⟨rfl,hb⟩;have BB:=Zaa (((Yct w.heap.size w).alloc lr _).trans (hb.mono (by simp)));obtain⟨c0,c1,sf⟩:=(Zci (Blk.new w #[.string x.name,.slice p x.terms.length c] 98) hb).two;have z2:=(ZZ.out.below BB.out).c2;clear hb;cases b1 with
 | false=>
  go_wp2_with fail
  go_ret
  exact⟨by rw[F.out];rfl,BB.out⟩
 | true=>
  go_wp2_with fail
  refine(C2.out _ BB.out).mono ?_;rintro e w2 ⟨rfl,hb⟩;go_wp2_with fail
  go_ret
  exact⟨by rw[F.out];rfl,BB.out.trans (hb.mono BB.out.size)⟩
theorem Zrv (V:Zbe)(Z:Zap a w)(hB:B<=w.heap.size)(hS:Zev B w D vs x):
  Calls Tryz.prog 49 #[.agg vs.toArray] w (Zc9 a (Zc5 x) w):=by
 have C1:=Zaa (fun u (hu:Below w.heap.size w u)=>Zhc V (Z.below hu) (Ycu hB hu.size) (Zev.carry hS (Za6 hu hB)));obtain⟨p,c,rfl,ht,hc,hrow⟩:=hS;have F:Box (Zc5 x=if Zb9 x≠0 then Zb9 x else if Zcg x.terms []=false then 5 else 0):=⟨rfl⟩;have C2:=Zaa (fun u (hu:Below w.heap.size w u)=>Zdb (c:=c) (p':=none) (ys:=[]) (c':=0) (B:=B) (hrow.carry fun _ _ _ r=>r.carry (Za6 hu hB) lr) ⟨by simp,fun i x h=>by simp at h⟩ (Ycu hB hu.size));have ZZ:=Zaa Z;clear hrow Z hc;generalize Zc5 x=ans at*;generalize Zb9 x=n1 at*;generalize Zcg x.terms []=b1 at*;go_enter Tryz.func49,Tryz.ntmps49
 go_wp2_with fail
 refine(C1.out _ ((Yct w.heap.size w).alloc lr _)).mono ?_;rintro e w1 ⟨rfl,hb⟩;have BB:=Zaa (((Yct w.heap.size w).alloc lr _).trans (hb.mono (by simp)));obtain⟨c0,c1,sf⟩:=(Zci (Blk.new w #[.string x.name,.slice p x.terms.length c] 98) hb).two;clear hb;by_cases hn:n1=0
 ·rw[hn,Zbb];go_wp2_with fail
  refine(C2.out _ BB.out).mono ?_;rintro e w2 ⟨rfl,hb⟩;have z5:=(ZZ.out.below (BB.out.trans (hb.mono BB.out.size))).c5;cases b1;all_goals
   go_wp2_with fail
   go_ret
   exact⟨by rw[F.out,if_neg (by omega)];rfl,BB.out.trans (hb.mono BB.out.size)⟩
 ·rw[Zah _ hn];go_wp2_with fail
  go_ret
  exact⟨by rw[F.out,if_pos hn,Zah _ hn];rfl,BB.out⟩
theorem Zcv.at_ {B':Nat}{x:T}{b o:Nat}(h:Zcv B w D vs x)(hB:B<=B')(hb:b < B')(hc: ∀ j,j < 4->w.cell? ⟨b,o+j,none⟩=vs[j]?):Zbl B' w (D+1) b o x:=by
 obtain⟨p,c,rfl,ht,hk,hi,hl,hr⟩:=h;exact⟨hb,_,hc 0 (by omega),hc 1 (by omega),hc 2 (by omega),hc 3 (by omega),rfl,rfl,rfl,hk,hi,ht,p,c,rfl,hl,hr.carry fun _ _ _ q=>q.carry (Zcw.up hB) lr⟩
theorem Zpj (V:Zbe){x:G}{p':Option Addr}{ys:List A}{c':Nat}(Z:Zap a w)(hB:B<=w.heap.size)(hS:Zf5 B w D vs x)(hrow':Zao 2 (Zbd B w (D+1)) p' ys):
  Calls Tryz.prog 157 #[.agg vs.toArray,.slice p' ys.length c'] w (Zc9 a (Ze5 ys x) w):=by
 obtain⟨va,vb,rfl,ho,ha,hb⟩:=hS;have C1:=Zaa (fun u (hu:Below w.heap.size w u)=>Zod V a 0 (by omega) (Z.below hu) (Ycu hB hu.size) (Zcv.carry ha (Za6 hu hB)));have C2:=Zaa (fun u (hu:Below w.heap.size w u)=>Zod V a 0 (by omega) (Z.below hu) (Ycu hB hu.size) (Zcv.carry hb (Za6 hu hB)));have D1:=Zaa (fun u (hu:Below w.heap.size w u) t e (hk:w.heap.size<=t) (hL:Blk u t va.toArray e)=>Zdb (p:=some ⟨t,0,none⟩) (xs:=[x.a]) (c:=1) (c':=c') (B:=u.heap.size) ⟨by simp,fun i y h=>by
  obtain⟨rfl,rfl⟩:i=0/\x.a=y:=by
   match i,h with
   | 0,h=>exact⟨rfl,by simpa using h⟩
  exact⟨t,0,rfl,Zcv.at_ (Zcv.carry ha (Za6 hu hB)) (Ycu hB hu.size) hL.lt fun j _=>by rw[Yef,Yeg,Ydp,hL.cell];simp⟩⟩ (hrow'.carry fun _ _ _ r=>(r.carry (Za6 hu hB) lr).carry (Zcw.up (Ycu hB hu.size)) lr) lr)
 have D2:=Zaa (fun u (hu:Below w.heap.size w u) t e (hk:w.heap.size<=t) (hL:Blk u t vb.toArray e)=>Zdb (p:=some ⟨t,0,none⟩) (xs:=[x.b]) (c:=1) (c':=c') (B:=u.heap.size) ⟨by simp,fun i y h=>by
  obtain⟨rfl,rfl⟩:i=0/\x.b=y:=by
   match i,h with
   | 0,h=>exact⟨rfl,by simpa using h⟩
  exact⟨t,0,rfl,Zcv.at_ (Zcv.carry hb (Za6 hu hB)) (Ycu hB hu.size) hL.lt fun j _=>by rw[Yef,Yeg,Ydp,hL.cell];simp⟩⟩ (hrow'.carry fun _ _ _ r=>(r.carry (Za6 hu hB) lr).carry (Zcw.up (Ycu hB hu.size)) lr) lr)
 obtain⟨p1,c1,rfl,_⟩:=ha;obtain⟨p2,c2,rfl,_⟩:=hb;have hl':=hrow'.len;have ZZ:=Zaa Z;clear hrow' Z;have F:Box (Ze5 ys x=if x.op < 1\/7 < x.op then 2 else if Zb1 ys x.a≠0 then Zb1 ys x.a else Zb1 ys x.b):=⟨rfl⟩;have F1:Box (Zb1 ys x.a=if Zal 0 x.a≠0 then Zal 0 x.a else if Zcg [x.a] ys=false then 5 else 0):=⟨rfl⟩;have F2:Box (Zb1 ys x.b=if Zal 0 x.b≠0 then Zal 0 x.b else if Zcg [x.b] ys=false then 5 else 0):=⟨rfl⟩;generalize Ze5 ys x=ans at*;generalize x.op=op at*;have i0: ∀ w,(Instr.index 295 (.agg #[.int .i64 x.a.k,.int .i64 x.a.i,.string x.a.t,.slice p1 x.a.l.length c1,.int .i64 x.b.k,.int .i64 x.b.i,.string x.b.t,.slice p2 x.b.l.length c2]) (.int .i64 0)).run Tryz.prog w= .ok (.agg #[.int .i64 x.a.k,.int .i64 x.a.i,.string x.a.t,.slice p1 x.a.l.length c1]) w:=fun _=>by kernel_rfl
 have i1: ∀ w,(Instr.index 295 (.agg #[.int .i64 x.a.k,.int .i64 x.a.i,.string x.a.t,.slice p1 x.a.l.length c1,.int .i64 x.b.k,.int .i64 x.b.i,.string x.b.t,.slice p2 x.b.l.length c2]) (.int .i64 1)).run Tryz.prog w= .ok (.agg #[.int .i64 x.b.k,.int .i64 x.b.i,.string x.b.t,.slice p2 x.b.l.length c2]) w:=fun _=>by kernel_rfl
 have z2:=fun o=>Zac ZZ.out.c2 ((Yct _ w).alloc lr o);by_cases hop:op < 1\/7 < op
 ·have F0:Box (ans=2):=⟨by rw[F.out,if_pos hop]⟩;clear F F1 F2 C1 C2 D1 D2;go_enter Tryz.func157,Tryz.ntmps157
  rcases hop with h | h
  ·go_wp2_with fail
   go_ret
   exact⟨by rw[F0.out];rfl,(Yct w.heap.size w).alloc lr _⟩
  ·have h': ¬ op < 1:=by omega
   go_wp2_with fail
   go_ret
   exact⟨by rw[F0.out];rfl,(Yct w.heap.size w).alloc lr _⟩
 have F0:Box (ans=if Zb1 ys x.a≠0 then Zb1 ys x.a else Zb1 ys x.b):=⟨by rw[F.out,if_neg hop]⟩;have h1: ¬ op < 1:=by omega
 have h2: ¬ 7 < op:=by omega
 clear F hop z2;generalize Zal 0 x.a=na at*;generalize Zal 0 x.b=nb at*;generalize Zcg [x.a] ys=ba at*;generalize Zcg [x.b] ys=bb at*;generalize Zb1 ys x.a=sa at*;generalize Zb1 ys x.b=sb at*;have B0:=Zaa ((Yct w.heap.size w).alloc lr (.cells #[.int .i64 op,.int .i64 x.a.k,.int .i64 x.a.i,.string x.a.t,.slice p1 x.a.l.length c1,.int .i64 x.b.k,.int .i64 x.b.i,.string x.b.t,.slice p2 x.b.l.length c2] 105));go_enter Tryz.func157,Tryz.ntmps157
 go_wp2_with fail
 refine wp_loop_rounds 3 ?_;rw[rounds_succ];go_wp2_with fail
 refine(C1.out _ (B0.out.alloc B0.out.size _)).mono ?_;rintro e w1 ⟨rfl,hb⟩;have B1:=Zaa ((B0.out.alloc B0.out.size _).trans (hb.mono (by simp;omega)));have L1:=Zaa (Zci (Blk.new _ #[.int .i64 x.a.k,.int .i64 x.a.i,.string x.a.t,.slice p1 x.a.l.length c1] 103) hb);obtain⟨y0,y1,y2,y3,sf⟩:=L1.out.four;simp only[Yc4]at y0 y1 y2 y3 sf;have hs1:=B1.out.size;clear hb;by_cases hna:na=0
 ·have F3:Box (sa=if ba=false then 5 else 0):=⟨by rw[F1.out,if_neg (by omega)]⟩;clear F1;rw[hna,Zbb];go_wp2_with fail
  refine(D1.out _ (B1.out.alloc hs1 _) _ _ hs1 (Blk.new w1 _ _)).mono ?_;rintro e w2 ⟨rfl,hb⟩;have B2:=Zaa ((B1.out.alloc hs1 _).trans (hb.mono (by simp;omega)));have z5:=(ZZ.out.below B2.out).c5;have hs2:=B2.out.size;clear hb y0 y1 y2 y3 sf;cases ba with
  | false=>
   have F4:Box (ans=5):=⟨by rw[F0.out,F3.out];rfl⟩;go_wp2_with fail
   go_ret
   exact⟨by rw[F4.out];rfl,B2.out⟩
  | true=>
   have F4:Box (ans=sb):=⟨by rw[F0.out,F3.out];rfl⟩;clear F0 F3 C1 D1 z5;go_wp2_with fail
   rw[rounds_succ];go_wp2_with fail
   refine(C2.out _ (B2.out.alloc hs2 _)).mono ?_;rintro e w3 ⟨rfl,hb⟩;have B3:=Zaa ((B2.out.alloc hs2 _).trans (hb.mono (by simp;omega)));obtain⟨y0,y1,y2,y3,sf⟩:=(Zci (Blk.new _ #[.int .i64 x.b.k,.int .i64 x.b.i,.string x.b.t,.slice p2 x.b.l.length c2] 103) hb).four;have hs3:=B3.out.size;clear hb;by_cases hnb:nb=0
   ·have F5:Box (sb=if bb=false then 5 else 0):=⟨by rw[F2.out,if_neg (by omega)]⟩;clear F2;rw[hnb,Zbb];go_wp2_with fail
    refine(D2.out _ (B3.out.alloc hs3 _) _ _ hs3 (Blk.new w3 _ _)).mono ?_;rintro e w4 ⟨rfl,hb⟩;have B4:=Zaa ((B3.out.alloc hs3 _).trans (hb.mono (by simp;omega)));have z5:=(ZZ.out.below B4.out).c5;clear hb y0 y1 y2 y3 sf;cases bb with
    | false=>
     go_wp2_with fail
     go_ret
     exact⟨by rw[F4.out,F5.out];rfl,B4.out⟩
    | true=>
     go_wp2_with fail
     rw[rounds_succ];go_wp2_with fail
     go_ret
     exact⟨by rw[F4.out,F5.out];rfl,B4.out⟩
   ·have F3:Box (ans=nb):=⟨by rw[F4.out,F2.out,if_pos hnb]⟩;rw[Zah _ hnb];go_wp2_with fail
    go_ret
    exact⟨by rw[F3.out,Zah _ hnb];rfl,B3.out⟩
 ·have F3:Box (ans=na):=⟨by rw[F0.out,F1.out,if_pos hna,if_pos hna]⟩;rw[Zah _ hna];go_wp2_with fail
  go_ret
  exact⟨by rw[F3.out,Zah _ hna];rfl,B1.out⟩
end Go.P
namespace Go.P
variable {a:Nat->Addr}{B D:Nat}{w:World}{vs:List Value}{x:R}
theorem Zw1:Zam 107:=Zak Tryz.func107 (by kernel_rfl) rfl
theorem Zvs:Zam 49:=Zak Tryz.func49 (by kernel_rfl) rfl
theorem Zv9:Zam 51:=Zak Tryz.func51 (by kernel_rfl) rfl
theorem Zv8:Zam 158:=Zak Tryz.func158 (by kernel_rfl) rfl
theorem Zub:Zam 53:=Zak Tryz.func53 (by kernel_rfl) rfl
theorem Ztd:Zam 156:=Zak Tryz.func156 (by kernel_rfl) rfl
theorem Zpq (V:Zbe){x:G}{p':Option Addr}{ys:List A}{c' b:Nat}(Z:Zap a w)(hB:B<=w.heap.size)(hS:Zf5 B w D vs x)(hrow':Zao 2 (Zbd B w (D+1)) p' ys)(hc:w.cell? ⟨b,2,none⟩=some (.slice p' ys.length c')):
  Calls Tryz.prog 156 #[.agg vs.toArray,.pointer (some ⟨b,0,none⟩)] w (Zc9 a (Ze5 ys x) w):=by
 have C1:=Zaa (fun u (hu:Below w.heap.size w u)=>Zpj V (c':=c') (Z.below hu) (Ycu hB hu.size) (Zf5.carry hS (Za6 hu hB)) (hrow'.carry fun _ _ _ r=>r.carry (Za6 hu hB) lr));have c2:=fun o=>Zac hc ((Yct _ w).alloc lr o);obtain⟨va,vb,rfl,_,⟨p1,c1,rfl,_⟩,p2,c3,rfl,_⟩:=hS;clear Z hrow';go_enter Tryz.func156,Tryz.ntmps156
 go_wp2_with fail
 refine(C1.out _ ((Yct w.heap.size w).alloc lr _)).mono ?_;rintro e w1 ⟨rfl,hb⟩;go_wp2_with fail
 go_ret
 exact⟨rfl,((Yct w.heap.size w).alloc lr _).trans (hb.mono (by simp))⟩
theorem Zkp (V:Zbe)(Z:Zap a w)(hB:B<=w.heap.size)(hS:Zfy B w D vs x):
  Calls Tryz.prog 110 #[.agg vs.toArray] w (Zc9 a (Za0 x) w):=by
 obtain⟨va,p1,c1,p2,c2,rfl,⟨p0,c0,rfl,_⟩,_,hr1,_,hr2⟩:=hS;have hl1:=hr1.len;have hl2:=hr2.len;have F:Box (Za0 x=if x.body.length=0/\x.guards.length=0 then 2 else if 4 < x.body.length\/4 < x.guards.length then 4 else if Zax Zb9 x.body≠0 then Zax Zb9 x.body else Zax (Ze5 x.body) x.guards):=⟨rfl⟩;have C1:=Zaa (fun u (hu:Below w.heap.size w u)=>Zii (a:=a) (c:=c1) (B:=B) Zw1 (first:=#[]) (cap:=#[]) (f:=Zb9) (hr1.carry fun _ _ _ r=>r.carry (Za6 hu hB) lr) (Ycu hB hu.size) fun u2 vs y hy hu2 hS=>Zhc V ((Z.below hu).below hu2) (Ycu hB (Ycu hu.size hu2.size)) hS);have C2:=Zaa (fun u (hu:Below w.heap.size w u) b (hc:u.cell? ⟨b,2,none⟩=some (.slice p1 x.body.length c1))=>Zms (a:=a) (c:=c2) (B:=B) Ztd (first:=#[]) (cap:=#[.pointer (some ⟨b,0,none⟩)]) (f:=Ze5 x.body) (hr2.carry fun _ _ _ r=>r.carry (Za6 hu hB) lr) (Ycu hB hu.size) fun u2 vs y hy hu2 hS=>Zpq V (c':=c1) ((Z.below hu).below hu2) (Ycu hB (Ycu hu.size hu2.size)) hS (hr1.carry fun _ _ _ r=>(r.carry (Za6 hu hB) lr).carry (Za6 hu2 (Ycu hB hu.size)) lr) (Zac hc hu2));have z2:=fun o=>Zac Z.c2 ((Yct _ w).alloc lr o);have z4:=fun o=>Zac Z.c4 ((Yct _ w).alloc lr o);have hmf: ∀ (fn:Fn) (first cap:Array Value) (w:World),(Instr.makeFunc fn first cap).run Tryz.prog w= .ok (.func fn first cap) w:=fun _ _ _ _=>rfl;have B0:=Zaa ((Yct w.heap.size w).alloc lr (.cells #[.string x.head.name,.slice p0 x.head.terms.length c0,.slice p1 x.body.length c1,.slice p2 x.guards.length c2] 101));clear hr1 hr2 Z;generalize Za0 x=ans at*;generalize Zax Zb9 x.body=n1 at*;generalize Zax (Ze5 x.body) x.guards=n2 at*;generalize x.body.length=l1 at*;generalize x.guards.length=l2 at*;have W:(((l1:Int)==0)=true/\((l2:Int)==0)=true/\ans=2)\/(((l1:Int)==0)=true/\((l2:Int)==0)=false/\decide ((4:Int) < l1)=false/\(4:Int) < l2/\ans=4)\/(((l1:Int)==0)=false/\(4:Int) < l1/\ans=4)\/(((l1:Int)==0)=false/\decide ((4:Int) < l1)=false/\(4:Int) < l2/\ans=4)
   \/(((l1:Int)==0)=true/\((l2:Int)==0)=false/\decide ((4:Int) < l1)=false/\decide ((4:Int) < l2)=false/\(n1≠0->ans=n1)/\(n1=0->ans=n2))\/(((l1:Int)==0)=false/\decide ((4:Int) < l1)=false/\decide ((4:Int) < l2)=false/\(n1≠0->ans=n1)/\(n1=0->ans=n2)):=by
  simp only[beq_iff_eq,beq_eq_false_iff_ne,decide_eq_false_iff_not];have f2:(l1=0/\l2=0)->ans=2:=fun h=>by rw[F.out,if_pos h]
  have f4: ¬ (l1=0/\l2=0)->(4 < l1\/4 < l2)->ans=4:=fun h h'=>by rw[F.out,if_neg h,if_pos h']
  have f0: ¬ (l1=0/\l2=0)-> ¬ (4 < l1\/4 < l2)->(n1≠0->ans=n1)/\(n1=0->ans=n2):=fun h h'=>by rw[F.out,if_neg h,if_neg h'];exact⟨fun q=>if_pos q,fun q=>if_neg (by omega)⟩
  by_cases a1:l1=0
  ·by_cases a2:l2=0
   ·exact Or.inl ⟨by omega,by omega,f2 ⟨a1,a2⟩⟩
   ·by_cases a3:4 < l2
    ·exact Or.inr (Or.inl ⟨by omega,by omega,by omega,by omega,f4 (by omega) (by omega)⟩)
    ·exact Or.inr (Or.inr (Or.inr (Or.inr (Or.inl ⟨by omega,by omega,by omega,by omega,f0 (by omega) (by omega)⟩))))
  ·by_cases a2:4 < l1
   ·exact Or.inr (Or.inr (Or.inl ⟨by omega,by omega,f4 (by omega) (by omega)⟩))
   ·by_cases a3:4 < l2
    ·exact Or.inr (Or.inr (Or.inr (Or.inl ⟨by omega,by omega,by omega,f4 (by omega) (by omega)⟩)))
    ·exact Or.inr (Or.inr (Or.inr (Or.inr (Or.inr ⟨by omega,by omega,by omega,f0 (by omega) (by omega)⟩))))
 clear F;go_enter Tryz.func110,Tryz.ntmps110
 rcases W with⟨g1,g2,r⟩ | ⟨g1,g2,g3,g4,r⟩ | ⟨g1,g2,r⟩ | ⟨g1,g2,g3,r⟩ | ⟨g1,g2,g3,g4,r⟩ | ⟨g1,g2,g3,r⟩;iterate 4
  have R:=Zaa r;clear r C1 C2;go_wp2_with fail
  go_ret
  exact⟨by rw[R.out];rfl,B0.out⟩
 all_goals
  have R:=Zaa r;clear r z2 z4;go_wp2_with fail
  refine(C1.out _ B0.out).mono ?_;rintro e w1 ⟨rfl,hb⟩;have B1:=Zaa (B0.out.trans (hb.mono B0.out.size));obtain⟨y0,y1,y2,y3,sf⟩:=(Zci (Blk.new w #[.string x.head.name,.slice p0 x.head.terms.length c0,.slice p1 l1 c1,.slice p2 l2 c2] 101) hb).four;have CC:=Zaa (C2.out _ B1.out _ y2);clear hb C1 C2;by_cases hn:n1=0
  ·rw[hn,Zbb];go_wp2_with fail
   refine CC.out.mono ?_;rintro e w2 ⟨rfl,hb⟩;go_wp2_with fail
   go_ret
   exact⟨by rw[R.out.2 hn];rfl,B1.out.trans (hb.mono B1.out.size)⟩
  ·rw[Zah _ hn];go_wp2_with fail
   go_ret
   exact⟨by rw[R.out.1 hn,Zah _ hn];rfl,B1.out⟩
theorem Zr6 (V:Zbe)(Z:Zap a w)(hB:B<=w.heap.size)(hS:Zfy B w D vs x):
  Calls Tryz.prog 51 #[.agg vs.toArray] w (Zc9 a (Zcr x) w):=by
 have C2:=Zaa (fun u (hu:Below w.heap.size w u)=>Zkp V (Z.below hu) (Ycu hB hu.size) (Zfy.carry hS (Za6 hu hB)));obtain⟨va,p1,c1,p2,c2,rfl,hA,_,hr1,_,hr2⟩:=hS;have C1:=Zaa (fun u (hu:Below w.heap.size w u)=>Zhc V (Z.below hu) (Ycu hB hu.size) (Zev.carry hA (Za6 hu hB)));obtain⟨p0,c0,rfl,_,_,hr0⟩:=hA;have C3:=Zaa (fun u (hu:Below w.heap.size w u)=>Zdb (c:=c0) (c':=c1) (B:=B) (hr0.carry fun _ _ _ r=>r.carry (Za6 hu hB) lr) (hr1.carry fun _ _ _ r=>r.carry (Za6 hu hB) lr) (Ycu hB hu.size));have F:Box (Zcr x=if Zb9 x.head≠0 then Zb9 x.head else if Za0 x≠0 then Za0 x else if Zcg x.head.terms x.body=false then 5 else 0):=⟨rfl⟩;have ZZ:=Zaa Z;have B0:=Zaa ((Yct w.heap.size w).alloc lr (.cells #[.string x.head.name,.slice p0 x.head.terms.length c0,.slice p1 x.body.length c1,.slice p2 x.guards.length c2] 101));clear hr0 hr1 hr2 Z;generalize Zcr x=ans at*;generalize Zb9 x.head=n1 at*;generalize Za0 x=n2 at*;generalize Zcg x.head.terms x.body=b3 at*;go_enter Tryz.func51,Tryz.ntmps51
 go_wp2_with fail
 refine(C1.out _ B0.out).mono ?_;rintro e w1 ⟨rfl,hb⟩;have B1:=Zaa (B0.out.trans (hb.mono B0.out.size));have L1:=Zaa (Zci (Blk.new w #[.string x.head.name,.slice p0 x.head.terms.length c0,.slice p1 x.body.length c1,.slice p2 x.guards.length c2] 101) hb);clear hb;by_cases hn:n1=0
 ·obtain⟨y0,y1,y2,y3,sf⟩:=L1.out.four;rw[hn,Zbb];go_wp2_with fail
  refine(C2.out _ B1.out).mono ?_;rintro e w2 ⟨rfl,hb⟩;have B2:=Zaa (B1.out.trans (hb.mono B1.out.size));have L2:=Zaa (Zci L1.out hb);clear y0 y1 y2 y3 sf hb;by_cases hn2:n2=0
  ·obtain⟨y0,y1,y2,y3,sf⟩:=L2.out.four;rw[hn2,Zbb];go_wp2_with fail
   refine(C3.out _ B2.out).mono ?_;rintro e w3 ⟨rfl,hb⟩;have B3:=Zaa (B2.out.trans (hb.mono B2.out.size));have z5:=(ZZ.out.below B3.out).c5;clear y0 y1 y2 y3 sf hb;cases b3;all_goals
    go_wp2_with fail
    go_ret
    exact⟨by rw[F.out,if_neg (by omega),if_neg (by omega)];rfl,B3.out⟩
  ·rw[Zah _ hn2];go_wp2_with fail
   go_ret
   exact⟨by rw[F.out,if_neg (by omega),if_pos hn2,Zah _ hn2];rfl,B2.out⟩
 ·rw[Zah _ hn];go_wp2_with fail
  go_ret
  exact⟨by rw[F.out,if_pos hn,Zah _ hn];rfl,B1.out⟩
end Go.P
namespace Go.P
variable {a:Nat->Addr}{B D:Nat}{w:World}{vs:List Value}
theorem Zk7 (V:Zbe){x:R}(Z:Zap a w)(hB:B<=w.heap.size)(hS:Zfy B w D vs x):
  Calls Tryz.prog 158 #[.agg vs.toArray] w (Zc9 a (Zcj x) w):=by
 have C2:=Zaa (fun u (hu:Below w.heap.size w u)=>Zkp V (Z.below hu) (Ycu hB hu.size) (Zfy.carry hS (Za6 hu hB)));obtain⟨va,p1,c1,p2,c2,rfl,⟨p0,c0,rfl,_,_,hr0⟩,_,hr1,_,hr2⟩:=hS;have hl0:=hr0.len;have F:Box (Zcj x=if x.head.name.size≠0\/0 < x.head.terms.length then 2 else Za0 x):=⟨rfl⟩;have z2:=fun o=>Zac Z.c2 ((Yct _ w).alloc lr o);have e0:=Zd0 x.head.name;have B0:=Zaa ((Yct w.heap.size w).alloc lr (.cells #[.string x.head.name,.slice p0 x.head.terms.length c0,.slice p1 x.body.length c1,.slice p2 x.guards.length c2] 101));clear hr0 hr1 hr2 Z;generalize Zcj x=ans at*;generalize Za0 x=n2 at*;generalize x.head.terms.length=n at*;generalize x.head.name=nm at*;have W:((nm.toList==[])=false/\ans=2)\/((nm.toList==[])=true/\(0:Int) < n/\ans=2)\/((nm.toList==[])=true/\ ¬ 0 < n/\ans=n2):=by
  simp only[e0,decide_eq_false_iff_not,decide_eq_true_eq];have f1:(nm.size≠0\/0 < n)->ans=2:=fun h=>by rw[F.out,if_pos h]
  have f2: ¬ (nm.size≠0\/0 < n)->ans=n2:=fun h=>by rw[F.out,if_neg h]
  omega
 clear F e0;go_enter Tryz.func158,Tryz.ntmps158
 rcases W with⟨g1,r⟩ | ⟨g1,g2,r⟩ | ⟨g1,g2,r⟩;iterate 2
  have R:=Zaa r;clear r C2;go_wp2_with fail
  go_ret
  exact⟨by rw[R.out];rfl,B0.out⟩
 have R:=Zaa r;clear r z2;go_wp2_with fail
 refine(C2.out _ B0.out).mono ?_;rintro e w1 ⟨rfl,hb⟩;go_wp2_with fail
 go_ret
 exact⟨by rw[R.out];rfl,B0.out.trans (hb.mono B0.out.size)⟩
theorem Zh4 (V:Zbe){p:Option Addr}{xs:List R}{c:Nat}(Z:Zap a w)(hB:B<=w.heap.size)(hrow:Zao 4 (Zb4 B w (D+1)) p xs):
  Calls Tryz.prog 112 #[.slice p xs.length c] w (Zc9 a (Zat xs) w):=by
 have C1:=Zaa (Zib (c:=c) (m:=4) (B:=B) Zv8 (first:=#[]) (cap:=#[]) (f:=Zcj) Z hrow hB fun u vs y hy hu hS=>Zk7 V (Z.below hu) (Ycu hB hu.size) hS);have F:Box (Zat xs=if xs.length=0 then 2 else Zbw Zcj 4 xs):=⟨rfl⟩;have z2:=Z.c2;clear hrow Z;generalize Zbw Zcj 4 xs=n1 at*;generalize Zat xs=ans at*;generalize xs.length=n at*;have W:(((n:Int)==0)=true/\ans=2)\/(((n:Int)==0)=false/\ans=n1):=by
  simp only[beq_iff_eq,beq_eq_false_iff_ne];have f1:n=0->ans=2:=fun h=>by rw[F.out,if_pos h]
  have f2: ¬ n=0->ans=n1:=fun h=>by rw[F.out,if_neg h]
  omega
 clear F;go_enter Tryz.func112,Tryz.ntmps112
 rcases W with⟨g1,r⟩ | ⟨g1,r⟩
 ·have R:=Zaa r;clear r C1;go_wp2_with fail
  go_ret
  exact⟨by rw[R.out];rfl,Yct _ _⟩
 ·have R:=Zaa r;clear r z2;go_wp2_with fail
  refine C1.out.mono ?_;rintro e w1 ⟨rfl,hb⟩;go_wp2_with fail
  go_ret
  exact⟨by rw[R.out];rfl,hb⟩
theorem Zpi (V:Zbe){x:List R}(Z:Zap a w)(hB:B<=w.heap.size)(hS:Ziw B w D vs x):
  Calls Tryz.prog 53 #[.agg vs.toArray] w (Zc9 a (Zat x) w):=by
 obtain⟨p,c,rfl,_,hr⟩:=hS;have C1:=Zaa (fun u (hu:Below w.heap.size w u)=>Zh4 V (c:=c) (Z.below hu) (Ycu hB hu.size) (hr.carry fun _ _ _ r=>r.carry (Za6 hu hB) lr));have B0:=Zaa ((Yct w.heap.size w).alloc lr (.cells #[.slice p x.length c] 67));clear hr Z;go_enter Tryz.func53,Tryz.ntmps53
 go_wp2_with fail
 refine(C1.out _ B0.out).mono ?_;rintro e w1 ⟨rfl,hb⟩;go_wp2_with fail
 go_ret
 exact⟨rfl,B0.out.trans (hb.mono B0.out.size)⟩
theorem Zgg (V:Zbe){x:Bk}(Z:Zap a w)(hB:B<=w.heap.size)(hS:Zbk B w D vs x):
  Calls Tryz.prog 26 #[.agg vs.toArray] w (Zc9 a (Zby x) w):=by
 obtain⟨p,c,p1,c1,p2,c2,rfl,_,hr,_,hr1,_,hr2⟩:=hS;have C1:=Zaa (fun u (hu:Below w.heap.size w u)=>Zo7 (c:=c) (m:=24) (B:=B) Zvs (first:=#[]) (cap:=#[]) (f:=Zc5) (Z.below hu) (hr.carry fun _ _ _ r=>r.carry (Za6 hu hB) lr) (Ycu hB hu.size) fun u2 vs y hy hu2 hS=>Zrv V ((Z.below hu).below hu2) (Ycu hB (Ycu hu.size hu2.size)) hS);have C2:=Zaa (fun u (hu:Below w.heap.size w u)=>Zib (c:=c1) (m:=24) (B:=B) Zv9 (first:=#[]) (cap:=#[]) (f:=Zcr) (Z.below hu) (hr1.carry fun _ _ _ r=>r.carry (Za6 hu hB) lr) (Ycu hB hu.size) fun u2 vs y hy hu2 hS=>Zr6 V ((Z.below hu).below hu2) (Ycu hB (Ycu hu.size hu2.size)) hS);have C3:=Zaa (fun u (hu:Below w.heap.size w u)=>Zmu (c:=c2) (m:=24) (B:=B) Zub (first:=#[]) (cap:=#[]) (f:=Zat) (Z.below hu) (hr2.carry fun _ _ _ r=>r.carry (Za6 hu hB) lr) (Ycu hB hu.size) fun u2 vs y hy hu2 hS=>Zpi V ((Z.below hu).below hu2) (Ycu hB (Ycu hu.size hu2.size)) hS);have F:Box (Zby x=if Zbw Zc5 24 x.facts≠0 then Zbw Zc5 24 x.facts else if Zbw Zcr 24 x.rules≠0 then Zbw Zcr 24 x.rules else Zbw Zat 24 x.checks):=⟨rfl⟩;have B0:=Zaa ((Yct w.heap.size w).alloc lr (.cells #[.slice p x.facts.length c,.slice p1 x.rules.length c1,.slice p2 x.checks.length c2] 38));clear hr hr1 hr2 Z;generalize Zby x=ans at*;generalize Zbw Zc5 24 x.facts=n1 at*;generalize Zbw Zcr 24 x.rules=n2 at*;generalize Zbw Zat 24 x.checks=n3 at*;have F1:Box ((n1≠0->ans=n1)/\(n1=0->n2≠0->ans=n2)/\(n1=0->n2=0->ans=n3)):=⟨fun h=>by rw[F.out,if_pos h],fun h h'=>by rw[F.out,if_neg (by omega),if_pos h'],fun h h'=>by rw[F.out,if_neg (by omega),if_neg (by omega)]⟩;clear F;go_enter Tryz.func26,Tryz.ntmps26
 go_wp2_with fail
 refine(C1.out _ B0.out).mono ?_;rintro e w1 ⟨rfl,hb⟩;have B1:=Zaa (B0.out.trans (hb.mono B0.out.size));have L1:=Zaa (Zci (Blk.new w #[.slice p x.facts.length c,.slice p1 x.rules.length c1,.slice p2 x.checks.length c2] 38) hb);clear hb;by_cases hn:n1=0
 ·obtain⟨y0,y1,y2,sf⟩:=L1.out.three;rw[hn,Zbb];go_wp2_with fail
  refine(C2.out _ B1.out).mono ?_;rintro e w2 ⟨rfl,hb⟩;have B2:=Zaa (B1.out.trans (hb.mono B1.out.size));have L2:=Zaa (Zci L1.out hb);clear y0 y1 y2 sf hb;by_cases hn2:n2=0
  ·obtain⟨y0,y1,y2,sf⟩:=L2.out.three;rw[hn2,Zbb];go_wp2_with fail
   refine(C3.out _ B2.out).mono ?_;rintro e w3 ⟨rfl,hb⟩;go_wp2_with fail
   go_ret
   exact⟨by rw[F1.out.2.2 hn hn2];rfl,B2.out.trans (hb.mono B2.out.size)⟩
  ·rw[Zah _ hn2];go_wp2_with fail
   go_ret
   exact⟨by rw[F1.out.2.1 hn hn2,Zah _ hn2];rfl,B2.out⟩
 ·rw[Zah _ hn];go_wp2_with fail
  go_ret
  exact⟨by rw[F1.out.1 hn,Zah _ hn];rfl,B1.out⟩
end Go.P
namespace Go.W
variable {m:Nat}{x:T}
theorem Z16: ∀ f n,(Zqx f n).size<=f+1
 | 0,n=>by rw[Zqx];exact Ydu 1
 | f+1,n=>by
  rw[Zqx];split
  ·rw[Zae,Zch];have:=Z16 f (n / 128);omega
  ·rw[Zch];omega
theorem Zm5 (n:Nat):(Zfi n).size<=11:=Z16 10 n
theorem Zu7 {α:Type}{f:α->ByteArray}: ∀ {l:List α},(∀ x,x∈l->(f x).size<=m)->(cat f l).size<=l.length*m
 | [],_=>by simp[cat]
 | x::r,h=>by
  rw[cat,Zae,Yc7,Nat.add_mul,Nat.one_mul]
  have:=Zu7 (l:=r) fun y hy=>h y (List.mem_cons_of_mem _ hy)
  have:=h x List.mem_cons_self
  omega
theorem Zdj {α:Type}{f:α->ByteArray}{k:Nat}{l:List α}(hl:l.length<=k)(h: ∀ x,x∈l->(f x).size<=m):(Za4 f l).size<=11+k*m:=by
 rw[Za4,Zae]
 have:=Zm5 l.length
 have:=Zu7 h
 have:=Nat.mul_le_mul_right m hl
 omega
theorem Zhf {d:Nat}(h:Zal d x=0)(m:Nat)(hm:d≠3-> ∀ y,Zal (d+1) y=0->(Zd5 y).size<=m):(Zd5 x).size<=100+6*m:=by
 obtain⟨h64,h6,hin,hk⟩:=okT h;rw[Zwu,Zae,Zch];split
 ·have:=Zm5 (Zi9 x.i);omega
 ·split
  ·rw[Zch];omega
  ·split
   ·have:=Zdj (f:=Zd5) (m:=m) h6 fun y hy=>hm (by omega) y (hin y hy);omega
   ·rw[Zdk,Zae];have:=Zm5 x.t.size;omega
theorem Zi6 (h:Zal 0 x=0):(Zd5 x).size<=30000:=by
 have b3: ∀ y,Zal 3 y=0->(Zd5 y).size<=100:=fun y hy=>by have:=Zhf hy 0 (fun h=>absurd rfl h);omega
 have b2: ∀ y,Zal 2 y=0->(Zd5 y).size<=700:=fun y hy=>by have:=Zhf hy 100 fun _=>b3;omega
 have b1': ∀ y,Zal 1 y=0->(Zd5 y).size<=4300:=fun y hy=>by have:=Zhf hy 700 fun _=>b2;omega
 have:=Zhf h 4300 fun _=>b1'
 omega
theorem Zln {x:A}(h:Zb9 x=0):(Zk4 x).size<=200000:=by
 obtain⟨h1,h2,h3⟩:=okA h;rw[Zk4,Zae,Zdk,Zae]
 have:=Zm5 x.name.size
 have:=Zdj (f:=Zd5) (m:=30000) h2 fun y hy=>Zi6 (h3 y hy)
 omega
theorem Zzu {l:List A}{x:G}(h:Ze5 l x=0):(Zvg x).size<=70000:=by
 obtain⟨_,_,h3,h4⟩:=okG h;rw[Zvg,Zae,Zae,Zch]
 have:=Zi6 h3
 have:=Zi6 h4
 omega
theorem Zki {x:R}(h:Za0 x=0):(Zb6 x).size<=1100000:=by
 obtain⟨h1,h2,h3,h4⟩:=okB h;rw[Zb6,Zae]
 have:=Zdj (f:=Zk4) (m:=200000) h1 fun y hy=>Zln (h3 y hy)
 have:=Zdj (f:=Zvg) (m:=70000) h2 fun y hy=>Zzu (h4 y hy)
 omega
theorem okE {x:List R}(h:Zat x=0):x.length<=4/\ ∀ y,y∈x->Za0 y=0:=by
 unfold Zat at h;split at h
 ·cases h
 ·refine⟨(Zbz h).1,fun y hy=>?_⟩
  have:=(Zbz h).2 y hy
  unfold Zcj at this;split at this
  ·cases this
  ·exact this
theorem Znq {x:Bk}(h:Zby x=0):(Zdx x).size < 900000000:=by
 obtain⟨ok1,h⟩:=Zea h;obtain⟨ok2,ok3⟩:=Zea h;rw[Zdx,Zae,Zae]
 have:=Zdj (f:=Zk4) (m:=200000) (Zbz ok1).1 fun y hy=>Zln (Zea ((Zbz ok1).2 y hy)).1
 have:=Zdj (f:=Zvi) (m:=1300000) (Zbz ok2).1 fun y hy=>by
  obtain⟨q1,q2⟩:=Zea ((Zbz ok2).2 y hy);rw[Zvi,Zae]
  have:=Zln q1
  have:=Zki (Zea q2).1
  omega
 have:=Zdj (f:=Za4 Zb6) (m:=5000000) (Zbz ok3).1 fun y hy=>by
  obtain⟨q1,q2⟩:=okE ((Zbz ok3).2 y hy)
  have:=Zdj (f:=Zb6) (m:=1100000) q1 fun z hz=>Zki (q2 z hz)
  omega
 omega
def Zh8 (x:Bk):Int:=if Zby x≠0 then Zby x else if 4000 < (Zdx x).size then 4 else 0
def Zeh (x:Bk):ByteArray:=if Zh8 x=0 then Zdx x else ByteArray.empty
end Go.W
namespace Go.P
theorem Zlo (V:Zbe){a:Nat->Addr}{B D:Nat}{w:World}{vs:List Value}{x:Bk}(Z:Zap a w)(hB:B<=w.heap.size)(hS:Zbk B w D vs x):
  Calls Tryz.prog 16 #[.agg vs.toArray] w fun e w'=>e= .returned (.tuple #[.string (Zeh x),Zc3 a (Zh8 x)])/\Below w.heap.size w w':=by
 have C1:=Zaa (fun u (hu:Below w.heap.size w u)=>Zgg V (Z.below hu) (Ycu hB hu.size) (Zbk.carry hS (Za6 hu hB)));have CB:=Zaa (fun u v b (hu:Below w.heap.size w u) (hv:B<=v) (hvu:v<=u.heap.size) (hb:Bld 80 v b ByteArray.empty u) (hok:Zby x=0)=>Z02 hb hvu (Zbk.carry (Zbk.carry hS (Za6 hu hB)) (Zcw.up hv)) hok (by have:=Znq hok;simp;omega));have F:Box ((Zby x≠0->Zh8 x=Zby x/\Zeh x=ByteArray.empty)/\(Zby x=0->4000 < (Zdx x).size->Zh8 x=4/\Zeh x=ByteArray.empty)/\(Zby x=0->(Zdx x).size<=4000->Zh8 x=0/\Zeh x=Zdx x)):=⟨by
  unfold Zeh Zh8;refine⟨fun h=>?_,fun h h'=>?_,fun h h'=>?_⟩
  ·rw[if_pos h,if_neg h];exact⟨rfl,rfl⟩
  ·rw[if_neg (by omega),if_pos h'];exact⟨rfl,rfl⟩
  ·rw[if_neg (by omega),if_neg (by omega)];exact⟨rfl,rfl⟩⟩
 have PB:=Zaa (Znq (x:=x));have ZZ:=Zaa Z;obtain⟨p,c,p1,c1,p2,c2,rfl,_⟩:=hS;clear Z;generalize Zby x=n1 at*;go_enter Tryz.func16,Tryz.ntmps16
 go_wp2_with fail
 refine(C1.out _ ((Yct w.heap.size w).alloc lr _)).mono ?_;rintro e w1 ⟨rfl,hb⟩;have B1:=Zaa (((Yct w.heap.size w).alloc lr _).trans (hb.mono (by simp)));have L1:=Zaa (Zci (Blk.new w #[.slice p x.facts.length c,.slice p1 x.rules.length c1,.slice p2 x.checks.length c2] 38) hb);have hs1:=B1.out.size;clear hb;by_cases hn:n1=0
 ·have y0:=fun o=>(L1.out.alloc o).three.1;have y1:=fun o=>(L1.out.alloc o).three.2.1;have y2:=fun o=>(L1.out.alloc o).three.2.2.1;have BN:=Zaa (Lib.fresh_isBuilder 80 5 w1);have CC:=Zaa (CB.out _ w1.heap.size _ (B1.out.alloc hs1 _) (by omega) (by simp) (show Bld 80 w1.heap.size w1.heap.size ByteArray.empty (w1.alloc (.cells #[.pointer none,.slice none 0 0] 80))from BN.out) hn);have F2:=Zaa (F.out.2.1 hn);have F3:=Zaa (F.out.2.2 hn);have hpb:=PB.out hn;clear CB C1 F BN PB;rw[hn,Zbb];go_wp2_with fail
  refine CC.out.mono ?_;rintro e w2 ⟨rfl,hb2,hw2⟩;rw[show ByteArray.empty++Zdx x=Zdx x by simp]at hb2;have B2:=Zaa ((B1.out.alloc hs1 _).trans (hw2.below.mono hs1));have z4:=(ZZ.out.below B2.out).c4;have CL:=Zaa (Z8o hb2);have CS:=Zaa (Zq7 hb2 (by omega) (by have:=hw2.size;simp at this;omega));clear y0 y1 y2 hb2 hw2 CC;generalize Zdx x=s at*;by_cases hl:4000 < s.size
  ·have g1:(4000:Int) < (s.size:Int):=by omega
   go_wp2_with (go_at_call 28;refine CL.out.mono ?_;rintro e w3 ⟨rfl,rfl⟩)
   go_quiet (fail)
   go_wp2_with fail
   go_ret2
   exact⟨by rw[(F2.out hl).1,(F2.out hl).2];rfl,Zb2 B2.out⟩
  ·have g1: ¬ (4000:Int) < (s.size:Int):=by omega
   clear z4;go_wp2_with (first | (go_at_call 28;refine CL.out.mono ?_;rintro e w3 ⟨rfl,rfl⟩) | (go_at_call 29;refine CS.out.mono ?_;rintro e w4 ⟨rfl,hb4⟩))
   go_ret2
   exact⟨by rw[(F3.out (by omega)).1,(F3.out (by omega)).2];rfl,B2.out.trans (hb4.mono hs1)⟩
 ·rw[Zah _ hn];go_wp2_with fail
  go_ret2
  exact⟨by rw[(F.out.1 hn).1,(F.out.1 hn).2,Zah _ hn];rfl,B1.out⟩
end Go.P
namespace Go.W
variable {w w':World}{vs:List Value}{F:List Nat}{r:Nat}
def Zka:Zgk (ByteArray×Nat):=fun _ vs x F=>F=[]/\vs=Zem x
theorem Zka.stable:Zcx Zka:=fun _ _ _ _ _ h _=>h
theorem Zka.one {x:ByteArray×Nat}(h:Zka w vs x F): ∀ u,u∈vs->u.oneCell'=true:=by
 obtain⟨_,rfl⟩:=h;intro u hu;simp[Zem]at hu;rcases hu with rfl | rfl | rfl | rfl <;> rfl
def Zqs:Zgk T:=fun _ vs x F=>F=[]/\ ∃ p c,vs=[.int .i64 x.k,.int .i64 x.i,.string x.t,.slice p x.l.length c]
theorem Zqs.stable:Zcx Zqs:=fun _ _ _ _ _ h _=>h
theorem Zqs.one {x:T}(h:Zqs w vs x F): ∀ u,u∈vs->u.oneCell'=true:=by
 obtain⟨_,p,c,rfl⟩:=h;intro u hu;simp at hu;rcases hu with rfl | rfl | rfl | rfl <;> rfl
theorem Zgm.of {bs:List ByteArray}(h:Zgm w r bs)(hb:w'.heap[r]?=w.heap[r]?):Zgm w' r bs:=by
 obtain⟨es,c,h1,h2⟩:=h;exact⟨es,c,hb.trans h1,h2⟩
theorem Zep.of {fs:List (ByteArray×Nat)}(h:Zep w r fs)(hb:w'.heap[r]?=w.heap[r]?):Zep w' r fs:=by
 obtain⟨es,c,h1,h2⟩:=h;exact⟨es,c,hb.trans h1,h2⟩
def Ybi (vs:List T) (x:T):Nat:=(Zjm (Zd5 x) (vs.map Zd5) 0).getD vs.length
def Z73 (vs:List T) (x:T):List T:=if(Zjm (Zd5 x) (vs.map Zd5) 0).isSome then vs else vs++[x]
end Go.W
namespace Go.P
variable {w w':World}{p n B b:Nat}{fs:List (ByteArray×Nat)}{vs:List T}{F:List Nat}{s:ByteArray}
structure Wd (w:World) (p:Nat) (fs:List (ByteArray×Nat)) (vs:List T) (F:List Nat) (k r:Nat) (fv vv:Value) (Ff Fv:List Nat):Prop where
 blk:Blk w p #[fv,.map (some k),vv,.map (some r)] 314
 facts:Zag 318 8 Zka w fv fs Ff
 vals:Zag 103 4 Zqs w vv vs Fv
 know:Zep w k fs
 num:Zgm w r (vs.map Zd5)
 own:F=p::k::r::(Ff++Fv)
 new:Za9 0 w F
def Zdv (w:World) (p:Nat) (fs:List (ByteArray×Nat)) (vs:List T) (F:List Nat):Prop:= ∃ k r fv vv Ff Fv,Wd w p fs vs F k r fv vv Ff Fv
theorem Zdv.of (h:Zdv w p fs vs F)(hs:w.heap.size<=w'.heap.size)(hb: ∀ k,k∈F->w'.heap[k]?=w.heap[k]?):Zdv w' p fs vs F:=by
 obtain⟨k,r,fv,vv,Ff,Fv,h⟩:=h;have e:=h.own;subst e;exact⟨k,r,fv,vv,Ff,Fv,h.blk.of (hb _ (by simp)),Zag.stable Zka.stable _ _ _ _ _ h.facts fun j hj=>hb j (by simp[hj]),Zag.stable Zqs.stable _ _ _ _ _ h.vals fun j hj=>hb j (by simp[hj]),h.know.of (hb _ (by simp)),h.num.of (hb _ (by simp)),rfl,h.new.later lr hs⟩
theorem Zdv.lt (h:Zdv w p fs vs F): ∀ k,k∈F->k < w.heap.size:=by
 obtain⟨k,r,fv,vv,Ff,Fv,h⟩:=h;exact h.new.lt
theorem Zdv.off {G:List Nat}(h:Zdv w p fs vs F)(k:Off G w w')(hd: ∀ j,j∈F->j∉G):Zdv w' p fs vs F:=
 h.of k.size fun j hj=>k.block j (h.lt j hj) (hd j hj)
def Txt (B b:Nat) (s:ByteArray) (w:World):Prop:= ∃ g c cur p T fb fg,B<=g/\w.heap[b]?=some (.cells #[p,.slice (some ⟨g,0,none⟩) s.size c] T fb)/\w.heap[g]?=some (.cells cur 5 fg)/\cur.toList.take s.size=Lib.strCells s/\s.size<=cur.size/\0 < s.size/\s.size < 1000000000/\c≠0
theorem Zl6 {a:Addr}{k:Nat}{c:Array Value}{e:TypeId}{fr:Nat×Nat}(h:w.heap[k]?=some (.cells c e fr)): ∃ fr',(w.freeze a n).heap[k]?=some (.cells c e fr'):=by
 unfold World.freeze;split
 ·exact⟨fr,h⟩
 ·simp only[Array.getElem?_modify,h];split
  ·exact⟨_,rfl⟩
  ·exact⟨fr,rfl⟩
theorem Txt.of {T:Nat}(h:Bld T B b s w)(hs:s.size < 1000000000)(h0:0 < s.size):Txt B b s w:=by
 obtain⟨p,va,vc,hbk,hown,hBb⟩:=h.form;rcases hown.2 with⟨_,hz⟩ | ⟨g,cap,cur,hv,hBg,hg,hnc,hcm,hcs,htk⟩
 ·omega
 injection hv with hv1 hv2 hv3;subst hv1 hv3;exact⟨g,vc,cur,p,T,(0,0),(0,0),hBg,hbk,hg,by simpa using htk,by omega,h0,hs,by omega⟩
theorem Txt.freeze {g:Nat}(h:Txt B b s w):Txt B b s (w.drew.freeze ⟨g,0,none⟩ n):=by
 obtain⟨g',c,cur,p,T,fb,fg,h1,h2,h3,h4⟩:=h;obtain⟨fb',k2⟩:=Zl6 (a:=⟨g,0,none⟩) (n:=n) (w:=w.drew) h2;obtain⟨fg',k3⟩:=Zl6 (a:=⟨g,0,none⟩) (n:=n) (w:=w.drew) h3;exact⟨g',c,cur,p,T,fb',fg',h1,k2,k3,h4⟩
theorem Zlc (h:Txt B b s w):
  Calls Tryz.prog 29 #[.pointer (some ⟨b,0,none⟩)] w fun e w'=>e= .returned (.string s)/\Txt B b s w'/\Below B w w':=by
 have H:=Zaa h;obtain⟨g,c,cur,p,T,fb,fg,hBg,hb,hg,htk,hle,h0,hs,hc⟩:=h;have c1:w.cell? ⟨b,1,none⟩=some (.slice (some ⟨g,0,none⟩) s.size c):=cell_of_row w b 1 _ T fb hb;have hsh:w.drew.shape? g=some (5,cur.size):=by have hg':w.drew.heap[g]?=some (.cells cur 5 fg):=hg;simp[World.shape?,hg']
 have hne:s.data.toList≠[]:=fun q=>absurd h0 (by show ¬ 0 < s.data.size;rw[<- Yd7,q];simp);have hSD:=fun u=>Lib.run_unsafeSliceData_row (P:=Tryz.prog) u #[76] 142 ⟨g,0,none⟩ s.size c hc;have hUS:(Builtin.unsafeString_ #[142,3] 9 #[.pointer (some ⟨g,0,none⟩),.int .i64 (s.size:Int)]).run Tryz.prog w.drew= .ok (.string s) (w.drew.freeze ⟨g,0,none⟩ s.size):=
  Lib.run_unsafeString_row w.drew 142 3 9 5 Tryz.underlying142 Zoz g cur.size hsh s.data.toList hne (by rw[Yd7];exact hle) (by rw[Yd7];show s.size<=_;omega) (fun j x hx=>by
   have hj:j < s.size:=by have:=(Yc3.1 hx).1;rwa [Yd7]at this
   rw[Addr.add_lit,Ydp,show(w.drew).cell? ⟨g,j,none⟩=cur[j]? from cell_of_row w.drew g j cur 5 fg hg,<- Ydw];have e1:(cur.toList.take s.size)[j]?=cur.toList[j]?:=List.getElem?_take_of_lt hj;rw[<- e1,htk];simp[Lib.strCells,hx])
 clear hsh hle hb hg htk;go_enter Tryz.func29,Tryz.ntmps29
 go_wp2
 go_region
 all_goals (go_wp2;go_ret;exact⟨rfl,H.out.freeze,Lib.below_freeze ((Yct B w).drew) (p:=⟨g,0,none⟩) hBg _⟩)
end Go.P
namespace Go.W
variable {e:TypeId}{s g cap j m:Nat}{w:World}{F:List Nat}{v:Value}
theorem Zag.last {α:Type}{Q:Zgk α}(hQ:Zcx Q)(hF: ∀ w vs x F,Q w vs x F->F=[]){xs:List α}{y:α}(h:Zag e s Q w (.slice (some ⟨g,0,none⟩) (xs.length+1) cap) (xs++[y]) F):
  ∃ cur A cs R,Blk w g cur e/\cur=(A++(cs++R)).toArray/\A.length=xs.length*s/\cs.length=s/\Q w cs y []/\ ∀ w' cs' x,Blk w' g (A++(cs'++R)).toArray e->cs'.length=s->Q w' cs' x []->Zag e s Q w' (.slice (some ⟨g,0,none⟩) (xs.length+1) cap) (xs++[x]) F:=by
 obtain⟨zs,hown,hz,hx,rfl,hl⟩:=h;obtain⟨zs,z,rfl⟩: ∃ zs' z,zs=zs'++[z]:=by
  cases hzs:zs.reverse with
  | nil=>
   have:=List.reverse_eq_nil_iff.1 hzs
   subst this;simp at hx
  | cons z r=>exact⟨r.reverse,z,by have:=congrArg List.reverse hzs;simpa using this⟩
 rw[List.map_append]at hx;obtain⟨rfl,hy⟩:=List.append_inj' hx rfl;simp at hy;subst hy;obtain⟨hzl,hzq⟩:=hz z (by simp);have hz2:=hF _ _ _ _ hzq;rw[hz2]at hzq;have hall: ∀ (l:List (List Value×α×List Nat)),(∀ z,z∈l->z.1.length=s)->((l.map (·.1)).flatten).length=l.length*s:=by
  intro l;induction l with
  | nil=>intro _;simp
  | cons a l ih=>intro hh;simp[hh a (by simp),ih (fun z hz=>hh z (by simp[hz])),Nat.succ_mul,Nat.add_comm]
 have hA:=hall zs fun z hm=>(hz z (by simp[hm])).1;rcases hown.2 with⟨hv,h0⟩ | ⟨g',cap',cur,hv,h1,h2,h3,h4,h5,h6⟩
 ·simp at h0
 injection hv with hv1 hv2 hv3;injection hv1 with hv1;injection hv1 with hv1;subst hv1 hv3;have hcur:cur.toList=(zs.map (·.1)).flatten++(z.1++cur.toList.drop ((zs++[z]).length*s)):=by
  have e1:=List.take_append_drop ((zs++[z]).length*s) cur.toList;rw[h6]at e1;simpa using e1.symm
 refine⟨cur,(zs.map (·.1)).flatten,z.1,cur.toList.drop ((zs++[z]).length*s),h2,by rw[<- hcur],by rw[hA];simp,hzl,hzq,fun w' cs' x hb hc hq=>?_⟩;refine⟨zs++[(cs',x,[])],⟨by rw[List.map_append,List.flatten_append,Ydy,hA];simp[hc,Nat.succ_mul],.inr ⟨g,cap,_,by simp,h1,hb,by simpa using h3,h4,?_,?_⟩⟩,?_,by simp,by simp[hz2,Value.ownBlock],by simpa using hl⟩
 ·have:=congrArg List.length hcur
  simp[hzl,hc]at this⊢;omega
 ·rw[Ydy,List.length_singleton,Nat.succ_mul,<- hA,<- hc,<- Yc8];have e1:(zs.map (·.1)).flatten.length+cs'.length=((zs.map (·.1)).flatten++cs').length:=by simp
  rw[e1];simp only[List.take_left'];simp
 ·intro z' hm;rcases Yc2.1 hm with hm | hm
  ·refine⟨(hz z' (by simp[hm])).1,?_⟩;have hq':=(hz z' (by simp[hm])).2;have e:=hF _ _ _ _ hq';exact hQ w w' _ _ _ hq' (by rw[e];intro k hk;cases hk)
  ·simp at hm;subst hm;exact⟨hc,hq⟩
theorem Zag.own {α:Type}{Q:Zgk α}{n c:Nat}{xs:List α}(h:Zag e s Q w (.slice (some ⟨g,0,none⟩) n c) xs F):g∈F:=by
 obtain⟨_,_,_,_,rfl,_⟩:=h;simp[Value.ownBlock]
theorem Zsv.notNew {α:Type}{Q:Zgk α}{B:Nat}{w1:World}{xs:List α}{y:α}{F':List Nat}(h:Zsv e s Q B w w1 xs F [] y g cap F')(hj:j < w.heap.size)(hn:j∉F):j∉F':=fun hF=>by
 rcases h.sub j hF with h | h | h
 ·exact hn h
 ·cases h
 ·omega
theorem Zag.nth {α:Type}{Q:Zgk α}{xs:List α}(h:Zag e s Q w v xs F)(i:Nat)(x:α)(hx:xs[i]?=some x): ∃ g cap cs G,v= .slice (some ⟨g,0,none⟩) xs.length cap/\g∈F/\Q w cs x G/\ ∀ j u,cs[j]?=some u->w.cell? ⟨g,i*s+j,none⟩=some u:=by
 obtain⟨zs,hown,hz,rfl,rfl,hl⟩:=h;rw[Ydn]at hx;obtain⟨z,hzi,rfl⟩:=Ydi.1 hx;obtain⟨hz1,hz2⟩:=hz z (Yd8 hzi);have hil:=(Yc3.1 hzi).1;rcases hown.2 with⟨rfl,h0⟩ | ⟨g,cap,cur,rfl,h1⟩
 ·omega
 refine⟨g,cap,z.1,z.2.2,by simp,by simp[Value.ownBlock],hz2,fun j v hj=>?_⟩;have hj4:j < s:=by have:=(Yc3.1 hj).1;omega
 have hall: ∀ (l:List (List Value×α×List Nat)) (n:Nat),(∀ z,z∈l->z.1.length=s)->l[n]?=some z->(l.map (·.1)).flatten[n*s+j]?=some v:=by
  intro l;induction l with
  | nil=>intro n _ h;simp at h
  | cons a l ih=>
   intro n hh hn;have ha:=hh a (by simp);cases n with
   | zero=>
    simp at hn;subst hn;simp only[List.map_cons,List.flatten_cons,Yef,Ydp];rw[Ydm (by omega)];exact hj
   | succ n=>
    simp only[List.map_cons,List.flatten_cons];rw[Ydj (by rw[ha,Nat.succ_mul];omega),show(n+1)*s+j - a.1.length=n*s+j by rw[ha,Nat.succ_mul];omega];exact ih n (fun z hz=>hh z (by simp[hz])) (by simpa using hn)
 have:=hown.cells (g:=g) rfl (i*s+j) v (hall zs i (fun z hm=>(hz z hm).1) hzi)
 simpa[Addr.add_lit]using this
theorem Zgy {A cs R:List Value}(hb:Blk w g (A++(cs++R)).toArray e)(hA:A.length=m)(j:Nat)(v:Value)(hj:cs[j]?=some v):w.cell? ⟨g,m+j,none⟩=some v:=by
 rw[hb.cell,Ydq,Ydj (by omega),show m+j - A.length=j by omega,Ydm (Yc3.1 hj).1,hj]
theorem Zm1 {A B R:List Value}{y:Value}(hA:A.length=m)(hB:B.length=j):(A++(B++y::R)).toArray.setIfInBounds (m+j) v=(A++(B++v::R)).toArray:=by
 rw[List.setIfInBounds_toArray,List.set_append_right _ _ (by omega),show m+j - A.length=j by omega,List.set_append_right _ _ (by omega),show j - B.length=0 by omega];rfl
end Go.W
namespace Go.W
theorem Zqs.nil: ∀ (w:World) (vs:List Value) (x:T) (F:List Nat),Zqs w vs x F->F=[]:=fun _ _ _ _ h=>h.1
def T0:T:= .mk 0 0 ⟨#[]⟩ []
theorem Zgm.lt {w:World}{r:Nat}{bs:List ByteArray}(h:Zgm w r bs):r < w.heap.size:=by
 obtain⟨es,c,h,_⟩:=h;exact(Yc6.1 h).1
end Go.W
namespace Go.P
variable {w w' W:World}{p k r g m:Nat}{fs:List (ByteArray×Nat)}{vs:List T}{F Ff Fv:List Nat}{fv vv v0 v1 v2 v3:Value}
theorem Zx5 {P:Program}{c:Code}{K:Act->World->Prop}{Q:Exit->Act->World->Prop}{a:Act}(K3:Act->World->Prop)(h:c.wp P (Exit.then K3 Q) a w)(hk: ∀ a w,K3 a w->K a w):c.wp P (Exit.then K Q) a w:=
 Code.wp_mono (fun e a w q=>by cases e <;> first | exact hk _ _ q | exact q) h
theorem Wd.of (h:Wd w p fs vs F k r fv vv Ff Fv)(hs:w.heap.size<=w'.heap.size)(hb: ∀ k,k∈F->w'.heap[k]?=w.heap[k]?):Wd w' p fs vs F k r fv vv Ff Fv:=by
 have e:=h.own;subst e;exact⟨h.blk.of (hb _ (by simp)),Zag.stable Zka.stable _ _ _ _ _ h.facts fun j hj=>hb j (by simp[hj]),Zag.stable Zqs.stable _ _ _ _ _ h.vals fun j hj=>hb j (by simp[hj]),h.know.of (hb _ (by simp)),h.num.of (hb _ (by simp)),rfl,h.new.later lr hs⟩
theorem Wd.below (h:Wd w p fs vs F k r fv vv Ff Fv)(hb:Below w.heap.size w w'):Wd w' p fs vs F k r fv vv Ff Fv:=h.of hb.size fun j hj=>hb.block j (h.new.lt j hj)
theorem Wd.apart (h:Wd w p fs vs F k r fv vv Ff Fv):(p≠k/\p≠r/\p∉Ff/\p∉Fv)/\(k≠r/\k∉Ff/\k∉Fv)/\(r∉Ff/\r∉Fv)/\Ff.Nodup/\Fv.Nodup/\ ∀ a,a∈Ff->a∉Fv:=by
 have nd:=h.new.once;rw[h.own]at nd;simp only[List.nodup_cons,Yc1,Yc2,not_or,Yd4]at nd;exact⟨nd.1,nd.2.1,nd.2.2.1,nd.2.2.2.1,nd.2.2.2.2.1,fun a ha hb=>nd.2.2.2.2.2 a ha a hb rfl⟩
def Z7m (w6 W:World) (p o g m:Nat) (sv:Value) (cs:List Value):Prop:=(∀ e A old R,Blk w6 g (A++(old++R)).toArray e->A.length=m->old.length=cs.length->p≠g->Blk W g (A++(cs++R)).toArray e)/\(∀ e vs,Blk w6 p vs e->p≠g->Blk W p (vs.setIfInBounds o sv) e)/\(∀ j,j≠p->j≠g->W.heap[j]?=w6.heap[j]?)/\W.heap.size=w6.heap.size/\W.os=w6.os/\W.tape=w6.tape/\W.output=w6.output
theorem Ybd {e:TypeId}{A old R:List Value}(h:Blk w g (A++(old++R)).toArray e)(hA:A.length=m)(ho:old.length=4):Blk ((((w.setCell ⟨g,m,none⟩ v0).setCell ⟨g,m+1,none⟩ v1).setCell ⟨g,m+2,none⟩ v2).setCell ⟨g,m+3,none⟩ v3) g (A++([v0,v1,v2,v3]++R)).toArray e:=by
 match old,ho with
 | [o0,o1,o2,o3],_=>
  have:=(((h.set (m+0) v0).set (m+1) v1).set (m+2) v2).set (m+3) v3
  rw[show([o0,o1,o2,o3]++R)=[]++o0::([o1,o2,o3]++R)from rfl,Zm1 (B:=[]) (j:=0) hA rfl]at this;rw[show([]++v0::([o1,o2,o3]++R))=[v0]++o1::([o2,o3]++R)from rfl,Zm1 (B:=[v0]) (j:=1) hA rfl]at this;rw[show([v0]++v1::([o2,o3]++R))=[v0,v1]++o2::([o3]++R)from rfl,Zm1 (B:=[v0,v1]) (j:=2) hA rfl]at this;rw[show([v0,v1]++v2::([o3]++R))=[v0,v1,v2]++o3::R from rfl,Zm1 (B:=[v0,v1,v2]) (j:=3) hA rfl]at this;exact this
theorem Z3z {o:Nat}{sv:Value}(h:W=((((w.setCell ⟨g,m,none⟩ v0).setCell ⟨g,m+1,none⟩ v1).setCell ⟨g,m+2,none⟩ v2).setCell ⟨g,m+3,none⟩ v3).setCell ⟨p,o,none⟩ sv\/W=((((w.setCell ⟨p,o,none⟩ sv).setCell ⟨g,m,none⟩ v0).setCell ⟨g,m+1,none⟩ v1).setCell ⟨g,m+2,none⟩ v2).setCell ⟨g,m+3,none⟩ v3):Z7m w W p o g m sv [v0,v1,v2,v3]:=by
 have hs: ∀ (u:World) a v,(u.setCell a v).heap.size=u.heap.size:=fun u a v=>by simp[World.setCell]
 have h1: ∀ (u:World) a v,(u.setCell a v).os=u.os:=fun _ _ _=>rfl;have h2: ∀ (u:World) a v,(u.setCell a v).tape=u.tape:=fun _ _ _=>rfl;have h3: ∀ (u:World) a v,(u.setCell a v).output=u.output:=fun _ _ _=>rfl;rcases h with rfl | rfl
 ·refine⟨fun e A old R h hA ho hn=>(Ybd h hA ho).away p o (Ne.symm hn) sv,fun e vs h hn=>((((h.away g m hn v0).away g (m+1) hn v1).away g (m+2) hn v2).away g (m+3) hn v3).set o sv,fun j h1 h2=>?_,by rw[hs,hs,hs,hs,hs],by rw[h1,h1,h1,h1,h1],by rw[h2,h2,h2,h2,h2],by rw[h3,h3,h3,h3,h3]⟩;rw[Ycy _ _ _ _ h1,Ycy _ _ _ _ h2,Ycy _ _ _ _ h2,Ycy _ _ _ _ h2,Ycy _ _ _ _ h2]
 ·refine⟨fun e A old R h hA ho hn=>Ybd (h.away p o (Ne.symm hn) sv) hA ho,fun e vs h hn=>((((h.set o sv).away g m hn v0).away g (m+1) hn v1).away g (m+2) hn v2).away g (m+3) hn v3,fun j h1 h2=>?_,by rw[hs,hs,hs,hs,hs],by rw[h1,h1,h1,h1,h1],by rw[h2,h2,h2,h2,h2],by rw[h3,h3,h3,h3,h3]⟩;rw[Ycy _ _ _ _ h2,Ycy _ _ _ _ h2,Ycy _ _ _ _ h2,Ycy _ _ _ _ h2,Ycy _ _ _ _ h1]
theorem Wd.appV {w4 W5 U w6:World}{F6:List Nat}{x:T}{g6 cap6:Nat}{q:Option Addr}{c:Nat}(D4:Wd w4 p fs vs F k r fv vv Ff Fv)(O5:Off [r] w4 W5)(HNM:Zgm W5 r ((vs.map Zd5)++[Zd5 x]))(hU:Off [] W5 U)(happ:Zsv 103 4 Zqs 0 U w6 vs Fv [] T0 g6 cap6 F6)(hW:Z7m w6 W p 2 g6 (vs.length*4) (.slice (some ⟨g6,0,none⟩) (vs.length+1) cap6) [.int .i64 x.k,.int .i64 x.i,.string x.t,.slice q x.l.length c]):
  ∃ F',Zdv W p fs (vs++[x]) F'/\Off F w4 W/\ ∀ i,i∈F'->i∈F\/w4.heap.size<=i:=by
 obtain⟨h1,h2,h3,h4,h5,h6,h7⟩:=hW;obtain⟨⟨pk,pr,pf,pv⟩,⟨kr,kf,kv⟩,⟨rf,rv⟩,nf,nv,fvd⟩:=D4.apart;have hown:=D4.own;have hltF:=D4.new.lt;rw[hown]at hltF;have s5:=O5.size;have sU:=hU.size;have s6:=happ.size;have up: ∀ j,j < w4.heap.size->j≠r->j∉Fv->w6.heap[j]?=w4.heap[j]?:=fun j hj hr hv=>(happ.same j (by omega) hv).trans ((hU.block j (by omega) (by simp)).trans (O5.block j hj (by simpa using hr)));have hsub: ∀ j,j∈F6->j∈Fv\/w4.heap.size<=j:=fun j hj=>by
  rcases happ.sub j hj with h | h | h
  ·exact .inl h
  ·cases h
  ·exact .inr (by omega)
 have nin: ∀ j,j < w4.heap.size->j∉Fv->j∉F6:=fun j hj hn hF=>(hsub j hF).elim hn (by omega);have lp:=hltF p (by simp);have lk:=hltF k (by simp);have lr:=hltF r (by simp);have lf: ∀ j,j∈Ff->j < w4.heap.size:=fun j hj=>hltF j (by simp[hj]);have hg6:g6∈F6:=happ.row.own;have hpg:p≠g6:=fun e=>nin p lp pv (e▸hg6);have upW: ∀ j,j < w4.heap.size->j≠r->j∉Fv->j≠p->W.heap[j]?=w4.heap[j]?:=fun j hj hr hv hp=>(h3 j hp (fun e=>nin j hj hv (e▸hg6))).trans (up j hj hr hv);have hrW:W.heap[r]?=W5.heap[r]?:=(h3 r (Ne.symm pr) (fun e=>nin r lr rv (e▸hg6))).trans ((happ.same r (by omega) rv).trans (hU.block r (by omega) (by simp)));obtain⟨cur,A,cs,R,hcb,hcur,hAl,hcl,_,hput⟩:=Zag.last Zqs.stable Zqs.nil happ.row;subst hcur;refine⟨p::k::r::(Ff++F6),⟨k,r,fv,.slice (some ⟨g6,0,none⟩) (vs.length+1) cap6,Ff,F6,?_,?_,?_,D4.know.of (upW k lk kr kv (Ne.symm pk)),?_,rfl,?_,fun _ _=>Yd1 _,?_⟩,?_,?_⟩
 ·exact h2 _ _ (D4.blk.of (up p lp pr pv)) hpg
 ·exact Zag.stable Zka.stable _ _ _ _ _ D4.facts fun j hj=>upW j (lf j hj) (fun e=>rf (e▸hj)) (fvd j hj) (fun e=>pf (e▸hj))
 ·exact hput W _ x (h1 _ A cs R hcb hAl (by rw[hcl];rfl) hpg) rfl ⟨rfl,q,c,rfl⟩
 ·rw[List.map_append];exact HNM.of hrW
 ·simp only[List.nodup_cons,Yc1,Yc2,not_or,Yd4];exact⟨⟨pk,pr,pf,nin p lp pv⟩,⟨kr,kf,nin k lk kv⟩,⟨rf,nin r lr rv⟩,nf,happ.new.once,fun a ha b hb e=>nin a (lf a ha) (fvd a ha) (e▸hb)⟩
 ·intro j hj
  have:=happ.new.lt
  simp only[Yc1,Yc2]at hj;rcases hj with rfl | rfl | rfl | hj | hj
  ·omega
  ·omega
  ·omega
  ·have:=lf j hj;omega
  ·have:=this j hj;omega
 ·refine⟨by rw[h5,happ.os,hU.os,O5.os],by rw[h6,happ.tape,hU.tape,O5.tape],by rw[h7,happ.output,hU.output,O5.output],by omega,fun j hj hn=>?_⟩;rw[hown]at hn;simp only[Yc1,Yc2,not_or]at hn;exact upW j hj hn.2.2.1 hn.2.2.2.2 hn.1
 ·intro i hi;rw[hown];simp only[Yc1,Yc2]at hi⊢;rcases hi with rfl | rfl | rfl | hi | hi
  ·simp
  ·simp
  ·simp
  ·simp[hi]
  ·rcases hsub i hi with h | h
   ·simp[h]
   ·exact .inr h
end Go.P
