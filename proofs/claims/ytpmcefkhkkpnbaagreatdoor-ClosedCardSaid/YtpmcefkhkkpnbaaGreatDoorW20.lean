import Derived.Test.YtpmcefkhkkpnbaaGreatDoorW15
import Derived.Test.YtpmcefkhkkpnbaaGreatDoorW18
import Derived.Test.YtpmcefkhkkpnbaaGreatDoorW19
import Derived.OrdersIn
import Derived.Lib.TrimUEq
set_option linter.all false
set_option maxRecDepth 100000
set_option maxHeartbeats 8000000
open Go.Proofs Go.RowKit Go.W Tryz
namespace Go.W
variable {t:Ay}{x y:Tk}{p:Nat}{n q k:Int}
def KR (q:Nat):Tk:=⟨q,⟨#[]⟩,0,0,⟨#[]⟩⟩
def Ti (t:Ay) (_q k:Int) (x:Tk) (p:Nat):Except (Int×Nat) (Unit×Tk×Nat):=match Tj t x p with
 | .error e=> .error e
 | .ok (n,_,r)=> .ok ((),{x with k:=k,i:=n},r)
def Ud (t:Ay) (c q:Nat):Except (Int×Nat) (Unit×Tk×Nat):=
 if SF c=true then Xk t (KR q) q else if c=36 then Zd t (KR q) q else if c=34 then O4 t (KR q) q
 else if c=64 then Ti t q 5 (KR q) (q+1)else if c=45\/G9 c=true then Ti t q 2 (KR q) q else Xg t (KR q) q
def Np (t:Ay) (p:Nat):Except (Int×Nat) (Unit×Tk×Nat):=
 if Nn (Ac t) p=t.size then .ok ((),KR t.size,t.size)else Ud t ((Ac t).getD (Nn (Ac t) p) 0) (Nn (Ac t) p)
def En (t:Ay) (x:Tk) (p:Nat):Except (Int×Nat) (Tk×Tk×Nat):=match Np t p with
 | .error e=> .error e
 | .ok (_,x',q)=> .ok (x,x',q)
def Yel {q:Nat}(h:Tj t x p= .ok (n,y,q)):y=x:=by
 unfold Tj at h;dsimp only at h;generalize (if(Ac t).getD p 0=45 then p+1 else p)=p1 at h;split at h
 .cases h
 .split at h
  .cases h;rfl
  .cases h
def Zt3 {e:Int×Nat}(h:Tj t x p= .error e):Ti t q k x p= .error e:=by unfold Ti;rw[h]
def Z9w {r:Nat}(h:Tj t x p= .ok (n,y,r)):Ti t q k x p= .ok ((),{x with k:=k,i:=n},r):=by unfold Ti;rw[h]
variable {w w0:Bb}{b L:Nat}{a:Nat->Addr}{x0 x1 x2 x3 x4 x5:Value}
def Rd.anew (h:Rd w b t p x){q:Nat}:Rd ((((((w.setCell (zm b 2)<|zo (q:Int)).setCell (zm b 3)<|sE).setCell (zm b 4)<|zo 0).setCell (zm b 5)<|zo 0).setCell (zm b 6)<|sE).setCell (zm b 7)<|zn) b t p (KR q):=⟨(((((h.1.set 2 _).set 3 _).set 4 _).set 5 _).set 6 _).set 7 _,h.2⟩
def _root_.Go.W.Ad.anew {v2 v3 v4 v5 v6 v7:Value}(h:Ad b w0 w):Ad b w0 ((((((w.setCell (zm b 2) v2).setCell (zm b 3) v3).setCell (zm b 4) v4).setCell (zm b 5) v5).setCell (zm b 6) v6).setCell (zm b 7) v7):=(((((h.set _ _).set _ _).set _ _).set _ _).set _ _).set _ _
def Zv5 (Z:AZ a w)(h:Rd w b t p x):
  Calls prog 70 #[zq b 0] w (JO a b t VU w<|Np t p):=by
 have ht:=h.2.1;have hg:=h.2.2.2;have CS:=AC<|Ydj h;have ZZ:=AC Z;have F:AF (Np t p=if Nn (Ac t) p=t.size then .ok ((),KR t.size,t.size)else Ud t ((Ac t).getD (Nn (Ac t) p) 0) (Nn (Ac t) p)):=⟨rfl⟩;clear h Z;generalize Nn (Ac t) p=q at*;go_in
 go_wp2_with fail
 apply mq CS.o;rintro w1 ⟨hk,hr⟩;have HK:=AC hk;have HR:=AC hr;have ZA:=AC<|ZZ.o.keeps hk hg;have hq:=hr.2.2.1;obtain⟨c0,c1,c2,c3,c4,c5,c6,c7,sf⟩:=hr.1.eight;clear hk hr CS ZZ;obtain⟨w2,hw2⟩:=fu (((((((w1.setCell (zm b 2)<|zo (q:Int)).setCell (zm b 3)<|sE).setCell (zm b 4)<|zo 0).setCell (zm b 5)<|zo 0).setCell (zm b 6)<|sE).setCell (zm b 7)<|zn));have Ao:AF (Rd w2 b t q<|KR q):=⟨hw2▸HR.o.anew⟩;have JV:AF (Ad b w w2):=⟨hw2▸HK.o.anew⟩;have Z2:AF (AZ a w2):=⟨hw2▸ZA.o.keeps (Ad.refl b w1).anew hg⟩;go_wp2_with fail
 clear hw2 c0 c1 c2 c3 c4 c5 c6 c7 sf HR HK ZA;obtain⟨c0,c1,c2,c3,c4,c5,c6,c7,sf⟩:=Ao.o.1.eight;by_cases dP:q=t.size
 .have Y:AF (Np t p= .ok ((),KR q,q)):=⟨by rw[F.o,xj dP,dP]⟩;have g1:((q:Int)==(t.size:Int))=true:=by rw[DR];omega
  clear dP;go_quiet (fail)
  go_wp2
  refine Bg (by simp[results,results70,go_sem];try rfl) rfl ?_;exact⟨JV.o.dr _,Or.inr ⟨_,_,_,_,Y.o,rfl,rfl,Ao.o⟩⟩
 have Y:=AC<|F.o.trans<|xd dP;have g1:((q:Int)==(t.size:Int))=false:=zj
 have Ea:q<t.size:=zx
 have hx:=ZQ t q Ea;have C0:=AC<|Zk5<|(Ac t).getD q 0;have C1:=AC<|Zk4<|(Ac t).getD q 0;generalize (Ac t).getD q 0=c at*;clear F;go_quiet (fail)
 obtain⟨w5,VD⟩: ∃ w3,w2.drewN nq=w3:=⟨_,rfl⟩;rw[VD];have iE:AF (Rd w5 b t q<|KR q):=⟨VD▸Ao.o.dr _⟩;have HK5:AF (Ad b w w5):=⟨VD▸JV.o.dr _⟩;have Z5:AF (AZ a w5):=⟨VD▸Z2.o.be (MW<|AR _ _)⟩;clear VD Ao JV Z2 c0 c1 c2 c3 c4 c5 c6 c7 sf;obtain⟨c0,c1,c2,c3,c4,c5,c6,c7,sf⟩:=iE.o.1.eight;go_wp2
 go_quiet (fail)
 obtain⟨w3,hw3⟩:=fu (w5.drewN nq);rw[hw3];have Dn:AF (Rd w3 b t q<|KR q):=⟨hw3▸iE.o.dr _⟩;have ER:AF (Ad b w w3):=⟨hw3▸HK5.o.dr _⟩;have Z3:AF (AZ a w3):=⟨hw3▸Z5.o.be (MW<|AR _ _)⟩;clear hw3 iE HK5 Z5 c0 c1 c2 c3 c4 c5 c6 c7 sf;obtain⟨c0,c1,c2,c3,c4,c5,c6,c7,sf⟩:=Dn.o.1.eight;cases hs:SF c
 case' true=>
  rw[hs]at C0;have E:AF (Np t p=Xk t (KR q) q):=⟨by rw[Y.o];unfold Ud;rw[xj hs]⟩;go_wp2_with (first | (go_at_call 127;apply(C0.o _).mono;rintro e w' ⟨rfl,rfl⟩) | (go_at_call 131;apply(C1.o _).mono;rintro e w' ⟨rfl,rfl⟩))
  apply(Zyr Zv3 Z3.o Dn.o).mono;rintro e w4 ⟨hk4,⟨n,r,hy,hn,L,hL,rfl,hB⟩ | ⟨v,y,x2,r,hy,rfl,hv,hr4⟩⟩
  .exact⟨rfl,ER.o.trans hk4,Or.inl ⟨n,r,E.o.trans hy,hn,L,Ab ER.o.size hL,rfl,hB⟩⟩
  .obtain rfl:v= .tuple #[]:=hv;have R:=AC<|AJ (ER.o.trans hk4)<|AJ (E.o.trans hy) hr4;clear hk4 hy hr4;go_wp2_with fail
   exact⟨rfl,_,(by simp[results,results70,go_sem];try rfl),R.o.1,Or.inr ⟨_,_,_,_,R.o.2.1,rfl,rfl,R.o.2.2⟩⟩
 rw[hs]at C0;by_cases jM:c=36
 .have E:AF (Np t p=Zd t (KR q) q):=⟨by rw[Y.o];unfold Ud;rw[xd (by rw[hs];simp),xj jM]⟩;have g2:((c:Int)==36)=true:=by rw[DR];omega
  clear jM;go_wp2_with (first | (go_at_call 127;apply(C0.o _).mono;rintro e w' ⟨rfl,rfl⟩) | (go_at_call 131;apply(C1.o _).mono;rintro e w' ⟨rfl,rfl⟩))
  apply(Zpa Z3.o Dn.o Ea).mono;rintro e w4 ⟨hk4,⟨n,r,hy,hn,L,hL,rfl,hB⟩ | ⟨v,y,x2,r,hy,rfl,hv,hr4⟩⟩
  .exact⟨rfl,ER.o.trans hk4,Or.inl ⟨n,r,E.o.trans hy,hn,L,Ab ER.o.size hL,rfl,hB⟩⟩
  .obtain rfl:v= .tuple #[]:=hv;have R:=AC<|AJ (ER.o.trans hk4)<|AJ (E.o.trans hy) hr4;clear hk4 hy hr4;go_wp2_with fail
   exact⟨rfl,_,(by simp[results,results70,go_sem];try rfl),R.o.1,Or.inr ⟨_,_,_,_,R.o.2.1,rfl,rfl,R.o.2.2⟩⟩
 have g2:((c:Int)==36)=false:=zj
 by_cases WP:c=34
 .have E:AF (Np t p=O4 t (KR q) q):=⟨by rw[Y.o];unfold Ud;rw[xd (by rw[hs];simp),xd jM,xj WP]⟩;have g3:((c:Int)==34)=true:=by rw[DR];omega
  clear WP;go_wp2_with (first | (go_at_call 127;apply(C0.o _).mono;rintro e w' ⟨rfl,rfl⟩) | (go_at_call 131;apply(C1.o _).mono;rintro e w' ⟨rfl,rfl⟩))
  apply(Zsv Z3.o Dn.o Ea).mono;rintro e w4 ⟨hk4,⟨n,r,hy,hn,L,hL,rfl,hB⟩ | ⟨v,y,x2,r,hy,rfl,hv,hr4⟩⟩
  .exact⟨rfl,ER.o.trans hk4,Or.inl ⟨n,r,E.o.trans hy,hn,L,Ab ER.o.size hL,rfl,hB⟩⟩
  .obtain rfl:v= .tuple #[]:=hv;have R:=AC<|AJ (ER.o.trans hk4)<|AJ (E.o.trans hy) hr4;clear hk4 hy hr4;go_wp2_with fail
   exact⟨rfl,_,(by simp[results,results70,go_sem];try rfl),R.o.1,Or.inr ⟨_,_,_,_,R.o.2.1,rfl,rfl,R.o.2.2⟩⟩
 have g3:((c:Int)==34)=false:=zj
 by_cases DK:c=64
 .have E:AF (Np t p=Ti t q 5 (KR q) (q+1)):=⟨by rw[Y.o];unfold Ud;rw[xd (by rw[hs];simp),xd jM,xd WP,xj DK]⟩;have g4:((c:Int)==64)=true:=by rw[DR];omega
  clear DK;go_wp2_with (first | (go_at_call 127;apply(C0.o _).mono;rintro e w' ⟨rfl,rfl⟩) | (go_at_call 131;apply(C1.o _).mono;rintro e w' ⟨rfl,rfl⟩))
  apply(Zrl (Z3.o.keeps ((Ad.refl b _).set _ _) hg)<|Dn.o.next Ea).mono;rintro e w4 ⟨hk4,⟨n,r,hy,hn,L,hL,rfl,hB⟩ | ⟨v,y,x2,r,hy,rfl,hv,hr4⟩⟩
  .exact⟨rfl,(ER.o.set _ _).trans hk4,Or.inl ⟨n,r,E.o.trans<|Zt3 hy,hn,L,(by have:=ER.o.size;first | omega | (simp at hL;omega)),rfl,hB⟩⟩
  .obtain rfl:v= zo y:=hv;obtain rfl:=Yel hy;have R:=AC<|AJ ((ER.o.set 1<|.int .i64<|(q:Int)+1).trans hk4)<|AJ (E.o.trans<|Z9w hy) hr4;obtain⟨d0,d1,d2,d3,d4,d5,d6,d7,sf4⟩:=hr4.1.eight;clear hk4 hy hr4 c0 c1 c2 c3 c4 c5 c6 c7 sf;go_wp2_with fail
   exact⟨rfl,_,(by simp[results,results70,go_sem];try rfl),R.o.1.term,Or.inr ⟨_,_,_,_,R.o.2.1,rfl,rfl,R.o.2.2.term 5 y ⟨#[]⟩⟩⟩
 have g4:((c:Int)==64)=false:=zj
 by_cases V7:c=45\/G9 c=true
 .have E:AF (Np t p=Ti t q 2 (KR q) q):=⟨by rw[Y.o];unfold Ud;rw[xd (by rw[hs];simp),xd jM,xd WP,xd DK,xj V7]⟩;have GG:((c:Int)==45)=true\/((c:Int)==45)=false/\G9 c=true:=by
   by_cases h45:c=45
   .exact Or.inl (by rw[DR];omega)
   .exact Or.inr ⟨zj,V7.resolve_left h45⟩
  clear V7;rcases GG with ga | ⟨ga,gb⟩
  case' inr=>rw[gb]at C1
  all_goals
   go_wp2_with (first | (go_at_call 127;apply(C0.o _).mono;rintro e w' ⟨rfl,rfl⟩) | (go_at_call 131;apply(C1.o _).mono;rintro e w' ⟨rfl,rfl⟩))
   apply(Zrl Z3.o Dn.o).mono;rintro e w4 ⟨hk4,⟨n,r,hy,hn,L,hL,rfl,hB⟩ | ⟨v,y,x2,r,hy,rfl,hv,hr4⟩⟩
   .exact⟨rfl,ER.o.trans hk4,Or.inl ⟨n,r,E.o.trans<|Zt3 hy,hn,L,(by have:=ER.o.size;first | omega | (simp at hL;omega)),rfl,hB⟩⟩
   .obtain rfl:v= zo y:=hv;obtain rfl:=Yel hy;have R:=AC<|AJ (ER.o.trans hk4)<|AJ (E.o.trans<|Z9w hy) hr4;obtain⟨d0,d1,d2,d3,d4,d5,d6,d7,sf4⟩:=hr4.1.eight;clear hk4 hy hr4 c0 c1 c2 c3 c4 c5 c6 c7 sf;go_wp2_with fail
    exact⟨rfl,_,(by simp[results,results70,go_sem];try rfl),R.o.1.term,Or.inr ⟨_,_,_,_,R.o.2.1,rfl,rfl,R.o.2.2.term 2 y ⟨#[]⟩⟩⟩
 have E:AF (Np t p=Xg t (KR q) q):=⟨by rw[Y.o];unfold Ud;rw[xd (by rw[hs];simp),xd jM,xd WP,xd DK,xd V7]⟩;have g5:((c:Int)==45)=false:=zj
 have hd:G9 c=false:=by
  cases hdd:G9 c
  .rfl
  .exact absurd (Or.inr hdd) V7
 rw[hd]at C1;go_wp2_with (first | (go_at_call 127;apply(C0.o _).mono;rintro e w' ⟨rfl,rfl⟩) | (go_at_call 131;apply(C1.o _).mono;rintro e w' ⟨rfl,rfl⟩))
 apply(Zyq Z3.o Dn.o).mono;rintro e w4 ⟨hk4,⟨n,r,hy,hn,L,hL,rfl,hB⟩ | ⟨v,y,x2,r,hy,rfl,hv,hr4⟩⟩
 .exact⟨rfl,ER.o.trans hk4,Or.inl ⟨n,r,E.o.trans hy,hn,L,Ab ER.o.size hL,rfl,hB⟩⟩
 .obtain rfl:v= .tuple #[]:=hv;have R:=AC<|AJ (ER.o.trans hk4)<|AJ (E.o.trans hy) hr4;clear hk4 hy hr4;go_wp2_with fail
  exact⟨rfl,_,(by simp[results,results70,go_sem];try rfl),R.o.1,Or.inr ⟨_,_,_,_,R.o.2.1,rfl,rfl,R.o.2.2⟩⟩
def _root_.Go.W.AO.six {e:TypeId}{a b c d f g:Value}(h:AO w L #[a,b,c,d,f,g] e):w.cell? (zm L 0)=some a/\w.cell? (zm L 1)=some b/\w.cell? (zm L 2)=some c/\w.cell? (zm L 3)=some d/\w.cell? (zm L 4)=some f/\w.cell? (zm L 5)=some g/\ ∀ j,w.frozen? (zm L j)=false:=⟨h.cell 0,h.cell 1,h.cell 2,h.cell 3,h.cell 4,h.cell 5,h.soft⟩
def _root_.Go.W.Ad.r6 (h:Ad b w0 w)(hL:w0.heap.size<=L):Ad b w0 ((((((w.setCell (zm L 0) x0).setCell (zm L 1) x1).setCell (zm L 2) x2).setCell (zm L 3) x3).setCell (zm L 4) x4).setCell (zm L 5) x5):=((h.r4 hL).Ai _ _ _ hL).Ai _ _ _ hL
def Rd.r6 (h:Rd w b t p x)(hL:b≠L):Rd ((((((w.setCell (zm L 0) x0).setCell (zm L 1) x1).setCell (zm L 2) x2).setCell (zm L 3) x3).setCell (zm L 4) x4).setCell (zm L 5) x5) b t p x:=⟨(((((h.1.away _ _ hL _).away _ _ hL _).away _ _ hL _).away _ _ hL _).away _ _ hL _).away _ _ hL _,h.2⟩
def Jc (x:Tk):Value:= .agg #[zo (x.at_:Int),um x.text,zo x.k,zo x.i,um x.s,zn]
def Vg (Z:AZ a w)(h:Rd w b t p x):
  Calls prog 77 #[zq b 0] w (JO a b t (fun _ v y=>v=Jc y) w<|En t x p):=by
 have hg:=h.2.2.2;have E9:=h.1.lt;have HR0:=AC<|h.alloc<|.cells #[zo 0,sE,zo 0,zo 0,sE,zn] 180;have Z0:=AC<|Z.be<|(AR _ w).alloc lr<|.cells #[zo 0,sE,zo 0,zo 0,sE,zn] 180;have K0:=AC<|(Ad.refl b w).alloc<|.cells #[zo 0,sE,zo 0,zo 0,sE,zn] 180;have L0:=AC<|AO.new w #[zo 0,sE,zo 0,zo 0,sE,zn] 180;obtain⟨c0,c1,c2,c3,c4,c5,c6,c7,sf⟩:=HR0.o.1.eight;have Dl:=AC<|HR0.o.alloc<|.cells #[zo (x.at_:Int),um x.text,zo x.k,zo x.i,um x.s,zn] 180;have Z1:=AC<|Z0.o.be<|(AR _ _).alloc lr<|.cells #[zo (x.at_:Int),um x.text,zo x.k,zo x.i,um x.s,zn] 180;have K1:=AC<|K0.o.alloc<|.cells #[zo (x.at_:Int),um x.text,zo x.k,zo x.i,um x.s,zn] 180;have L1:=AC<|AO.new (w.alloc<|.cells #[zo 0,sE,zo 0,zo 0,sE,zn] 180) #[zo (x.at_:Int),um x.text,zo x.k,zo x.i,um x.s,zn] 180;have L2:=AC<|L0.o.alloc<|.cells #[zo (x.at_:Int),um x.text,zo x.k,zo x.i,um x.s,zn] 180;have CR:=AC<|Zv5 Z1.o Dl.o;clear Z h HR0 Z0 K0 L0;go_in
 go_wp2_with fail
 apply CR.o.mono;rintro e w1 ⟨hk4,⟨n,r,hy,hn,L,hL,rfl,hB⟩ | ⟨v,y,x2,r,hy,rfl,hv,hr4⟩⟩
 .exact⟨rfl,K1.o.trans hk4,Or.inl ⟨n,r,by unfold En;rw[hy],hn,L,by simp at hL;omega,rfl,hB⟩⟩
 .obtain rfl:v= .tuple #[]:=hv;have M1:=L1.o.of<|hk4.block _ zw zc;have M2:=L2.o.of<|hk4.block _ zc zx;simp only[EV]at M1;have Y:AF (En t x p= .ok (x,x2,r)):=⟨by unfold En;rw[hy]⟩;have R:=AC<|AJ (K1.o.trans hk4) hr4;obtain⟨d0,d1,d2,d3,d4,d5,sd⟩:=M1.six;obtain⟨f0,f1,f2,f3,f4,f5,sg⟩:=M2.six;clear hk4 hy hr4 c0 c1 c2 c3 c4 c5 c6 c7 sf Dl Z1 K1 L1 L2 CR M1 M2;go_wp2
  refine Bg (by simp[results,results77,go_sem,f0,f1,f2,f3,f4,f5];try rfl) rfl ?_;exact⟨R.o.1.r6 lr,Or.inr ⟨_,x,_,_,Y.o,rfl,rfl,R.o.2.r6 zx⟩⟩
abbrev Re (α:Type):=Except (Int×Nat)<|α×Tk×Nat
def Bf {α β:Type} (m:Re α) (f:α->Tk->Nat->Re β):Re β:=match m with
 | .error e=> .error e
 | .ok (y,x,p)=>f y x p
def Es {α β:Type}{m:Re α}{e:Int×Nat}(h:m= .error e){f:α->Tk->Nat->Re β}:Bf m f= .error e:=by rw[h];rfl
def Ee {α β:Type}{m:Re α}{y:α}{x:Tk}{p:Nat}(h:m= .ok (y,x,p)){f:α->Tk->Nat->Re β}:Bf m f=f y x p:=by rw[h];rfl
def Nk (t:Ay) (s:List UInt8) (x:Tk) (p:Nat):Re Unit:=if x.text.toList=s then Bf (En t x p) fun _ x' p'=> .ok ((),x',p')else .error (2,x.at_)
def Jd {α:Type} (t:Ay) (read:Tk->Nat->Re α) (s:List UInt8) (most:Nat):Nat->List α->Tk->Nat->Re (List α)
 | 0,_,x,_=> .error (4,x.at_)
 | n+1,xs,x,p=>Bf (read x p) fun y x1 p1=>if xs.length=most then .error (4,x.at_)else if x1.text.toList=s then Bf (En t x1 p1) fun _ x2 p2=>Jd t read s most n (xs++[y]) x2 p2 else .ok (xs++[y],x1,p1)
def TN (t:Ay) (read:Tk->Nat->Re T) (s:List UInt8) (x:Tk) (p:Nat):Re (List T):=Bf (if x.text.toList=s then .ok ([],x,p)else Jd t read [44] 6 7 [] x p) fun l x1 p1=>Bf (Nk t s x1 p1) fun _ x2 p2=> .ok (l,x2,p2)
def Xl:List UInt8:=[116,114,117,101]
def Ha (t:Ay):Nat->Tk->Nat->Re T
 | 0,x,p=>if Ru x.text=true then Bf (En t x p) fun _ x1 p1=> .ok (.mk 6 (if x.text.toList=Xl then 1 else 0) ⟨#[]⟩ [],x1,p1)else if x.text.toList=[91]then .error (3,x.at_)else if x.k=0\/x.k=1 then .error (2,x.at_)else Bf (En t x p) fun _ x1 p1=> .ok (.mk x.k x.i x.s [],x1,p1)
 | d+1,x,p=>if Ru x.text=true then Bf (En t x p) fun _ x1 p1=> .ok (.mk 6 (if x.text.toList=Xl then 1 else 0) ⟨#[]⟩ [],x1,p1)else if x.text.toList=[91]then Bf (En t x p) fun _ x1 p1=>Bf (TN t (Ha t d) [93] x1 p1) fun l x2 p2=> .ok (.mk 7 0 ⟨#[]⟩ l,x2,p2)else if x.k=0\/x.k=1/\d+1<3 then .error (2,x.at_)else Bf (En t x p) fun _ x1 p1=> .ok (.mk x.k x.i x.s [],x1,p1)
def Nj (s:Ay):Bool:=decide (s.size≠0) && SF ((Ac s).getD 0 0)
def VT (t:Ay) (x:Tk) (p:Nat):Re A:=if Nj x.text=true/\kL x.text=false then Bf (En t x p) fun _ x1 p1=>Bf (Nk t [40] x1 p1) fun _ x2 p2=>Bf (TN t (Ha t 3) [41] x2 p2) fun l x3 p3=> .ok (⟨x.text,l⟩,x3,p3)else .error (2,x.at_)
def SY (s:Ay):Nat:=match MV.findIdx? (fun m=>decide (m=s))with
 | some i=>i+1
 | none=>0
def fJ (t:Ay) (x:Tk) (p:Nat):Re G:=Bf (Ha t 3 x p) fun a x1 p1=>if SY x1.text=0 then .error (2,x1.at_)else Bf (En t x1 p1) fun _ x2 p2=>Bf (Ha t 3 x2 p2) fun b x3 p3=> .ok (⟨SY x1.text,a,b⟩,x3,p3)
def Y8 (t:Ay) (r:R) (x:Tk) (p:Nat):Re R:=if Nj x.text=true/\Ru x.text=false then Bf (VT t x p) fun a x1 p1=>if r.body.length=4 then .error (4,x.at_)else .ok ({r with body:=r.body++[a]},x1,p1)else Bf (fJ t x p) fun g x1 p1=>if r.gu.length=4 then .error (4,x.at_)else .ok ({r with gu:=r.gu++[g]},x1,p1)
def PE (t:Ay):Nat->R->Tk->Nat->Re R
 | 0,_,x,_=> .error (4,x.at_)
 | n+1,r,x,p=>Bf (Y8 t r x p) fun r1 x1 p1=>if x1.text.toList=[44]then Bf (En t x1 p1) fun _ x2 p2=>PE t n r1 x2 p2 else .ok (r1,x1,p1)
def VX:R:=⟨⟨⟨#[]⟩,[]⟩,[],[]⟩
def UZ (t:Ay) (x:Tk) (p:Nat):Re R:=Bf (PE t 9 VX x p) fun r x1 p1=>if r.gu.all (fun g=>ET [g.a,g.b] r.body)=true then .ok (r,x1,p1)else .error (5,x.at_)
def ZR (t:Ay) (x:Tk) (p:Nat):Re (List R):=Bf (Nk t [105,102] x p) fun _ x1 p1=>Jd t (UZ t) [111,114] 4 5 [] x1 p1
def fK (t:Ay) (b:Bk) (x:Tk) (p:Nat):Re Bk:=Bf (En t x p) fun _ x1 p1=>Bf (ZR t x1 p1) fun l x2 p2=>if b.ck.length=24 then .error (4,x.at_)else .ok ({b with ck:=b.ck++[l]},x2,p2)
def Wu (t:Ay) (b:Bk) (x:Tk) (p:Nat):Re Bk:=Bf (VT t x p) fun h x1 p1=>if x1.text.toList=[60,45]then Bf (En t x1 p1) fun _ x2 p2=>Bf (UZ t x2 p2) fun r x3 p3=>if ET h.te r.body=false then .error (5,x.at_)else if b.ru.length=24 then .error (4,x.at_)else .ok ({b with ru:=b.ru++[{r with head:=h}]},x3,p3)else if ET h.te []=false then .error (5,x.at_)else if b.fa.length=24 then .error (4,x.at_)else .ok ({b with fa:=b.fa++[h]},x1,p1)
def Oo (x:Tk):Bool:=decide (x.text.size=0) && decide (x.k=0)
def ww:List UInt8:=[99,104,101,99,107]
def Ve (t:Ay):Nat->Bk->Tk->Nat->Re Bk
 | 0,_,x,_=> .error (4,x.at_)
 | n+1,b,x,p=>if Oo x=true then .ok (b,x,p)else Bf (if x.text.toList=ww then fK t b x p else Wu t b x p) fun b1 x1 p1=>Bf (Nk t [59] x1 p1) fun _ x2 p2=>Ve t n b1 x2 p2
def QG (t:Ay) (x:Tk) (p:Nat):Re Bk:=Ve t 73 ⟨[],[],[]⟩ x p
def We:List UInt8:=[97,108,108,111,119]
def xL:List UInt8:=[100,101,110,121]
def Un (t:Ay):Nat->List Dk->Tk->Nat->Re (List Dk)
 | 0,_,x,_=> .error (4,x.at_)
 | n+1,l,x,p=>if Oo x=true then .ok (l,x,p)else if x.text.toList=We\/x.text.toList=xL then Bf (En t x p) fun _ x1 p1=>Bf (ZR t x1 p1) fun e x2 p2=>if l.length=24 then .error (4,x.at_)else Bf (Nk t [59] x2 p2) fun _ x3 p3=>Un t n (l++[⟨decide<|x.text.toList=We,e⟩]) x3 p3 else .error (2,x.at_)
def Vh (t:Ay) (x:Tk) (p:Nat):Re (List Dk):=Un t 25 [] x p
def Gu {α:Type} (t:Ay) (read:Tk->Nat->Re α):Except (Int×Nat) α:=if 8000<t.size then .error (4,8000)else match Bf (Np t 0) fun _ x p=>read x p with
 | .error e=> .error e
 | .ok (y,_,_)=> .ok y
variable {P:Program}{ops:Array Oper}{Q:Exit->Act->Bb->Prop}{n l:Nat}
def wy (o:Oper):Bool:=match o.op with
 | .defer _=>false
 | _=>true
def Z74 {o:Oper}(h:wy o=true)(c:_):o.op≠ .defer c:=fun e=>by unfold wy at h;rw[e]at h;cases h
def Z69 {md:Region.Mode}(hQ: ¬ LetsOut Q)(hd:ops.all wy=true):
  ∀ (fuel:Nat) (listed:Array Bool) (a:Act) (w:Bb),wpAny P md ops Q fuel listed a w->wpAnyIn (Fence.wide.inRound l) n P md ops Q fuel listed a w:=by
 intro fuel;induction fuel with
 | zero=>intro listed a w h;exact h
 | succ fuel ih=>
  intro listed a w h;refine⟨h.1,fun i hi=>?_⟩;have h2:=h.2 i hi;unfold wpOp at h2;unfold wpOpIn;split
  .rename_i ho;simp only[ho]at h2;exact ih _ _ _ h2
  .rename_i o ho;simp only[ho]at h2;have hm:o∈ops:=Array.mem_of_getElem? ho;split
   .rename_i hw;simp only[hw,if_true]at h2;rcases h2 with h2 | h2
    .refine⟨fun _ _=>trivial,?_⟩;rw[Oper.semAt_eq _ _ _<|Z74<|Array.all_eq_true_iff_forall_mem.1 hd o hm];unfold Oper.wp at h2;generalize (execOp a.eval o).run P w=r at*;cases r with
     | ok x w'=>
      cases x with
      | value v=>exact ih _ _ _ h2
      | skip=>exact ih _ _ _ h2
      | defer d=>exact ih _ _ _ h2
      | enter f args=>exact⟨fun h=>(by cases h),CallsIn.inRound l<|callsIn_wide.2<|Calls.mono h2 (fun e w'' he=>by cases e <;> first | exact ih _ _ _ he | exact he)⟩
      | row row args=>exact⟨fun h=>(by cases h),fun c cs _=>let ⟨v,w'',r,s⟩:=Rows.mono h2 (fun _ _ he=>ih _ _ _ he) c cs;⟨v,w'',r,stepsIn_wide.2 s⟩⟩
      | _=>exact h2.elim
     | halt x w'=>cases x <;> exact h2
    .exact absurd h2.2 hQ
   .rename_i hw;simp only[hw]at h2;exact⟨fun _ _=>trivial,ih _ _ _ h2⟩
def Zf1 {id:Nat}{a:Act}{w:Bb}(S:Bb->Prop)(hm:P.follows .mixedOrders=true)(hQ: ¬ LetsOut Q)(hd:ops.all wy=true)(h:wpAnyH P .any ops Q S ops.size (Array.replicate ops.size false) a w.drew):(Code.region id ops true).wpIn (Fence.wide.inRound l) n P Q a w:=
 wpIn_region_any hm (Z69 hQ hd _ _ _ _<|wpAny_of_held _ _ _ _ h)
variable {a:Act}
def Z1y {c:Code}(K3:Act->Bb->Prop)(h:c.wp P (Exit.then K3 fun _ _ _=>False) a w)(hk: ∀ a w,K3 a w->Q .normal a w):c.wp P Q a w:=
 Code.wp_mono (fun e a w q=>by cases e <;> first | exact hk _ _ q | exact q.elim) h
def Zwh {c:Code}(h:c.wp P (Exit.then (fun a w=>Q .normal a w) fun _ _ _=>False) a w):c.wp P Q a w:=Z1y _ h fun _ _ h=>h
section
open Go
variable {a:Act}{w:Bb}{oi o:Oper}{n:Nat}{l:Array Bool}
section
variable {P:Program} {md:Region.Mode} {ops:Array Oper} {Q:Exit->Act->Bb->Prop} {S:Bb->Prop} {z:Nat}
def Oh (z:Nat) (P:Program) (md:Region.Mode) (ops:Array Oper) (Q:Exit->Act->Bb->Prop) (S:Bb->Prop):Nat->Array Bool->Act->Bb->Prop
 | 0,l,a,w=>Region.ready md ops l=[]/\Q .normal a w
 | n+1,l,a,w=>(Region.ready md ops l=[]->Q .normal a w)/\ ∀ i∈Region.ready md ops l,wpOp P ops Q i (fun a' w'=>((l.setIfInBounds i true).getD z true=false->S w')/\Oh z P md ops Q S n (l.setIfInBounds i true) a' w') a w
def Zmt: ∀ (n:Nat) (l:Array Bool) (a:Act) (w:Bb),Oh z P md ops Q S n l a w->wpAny P md ops Q n l a w
 | 0,_,_,_,h=>h
 | n+1,_,_,_,h=>⟨h.1,fun i hi=>wpOp_mono (fun a' w' h'=>Zmt n _ a' w' h'.2) (h.2 i hi)⟩
def Vj {id:Nat}(z:Nat)(S:Bb->Prop)(hm:P.follows .mixedOrders=true)(h:Oh z P .any ops Q S ops.size (Array.replicate ops.size false) a w.drew):(Code.region id ops true).wp P Q a w:=wp_region_any hm<|Zmt _ _ _ _ h
def Yg5 (md:Region.Mode) (ops:Array Oper) (z i:Nat):Bool:=match ops[z]? with | some oz=>oz.after.any fun e=>Region.binds md e && e.on==i | none=>false
def Zzd {i:Nat}{v:Value}(hi:ops[i]?=some oi)(V5: ∀ (j:Nat) (o:Oper) cs b,ops[j]?=some o->o.op≠ .select cs b)(hw:Yg5 md ops z i=true)(Yd:i≠z)(hQ: ∀ c a w,Q (.panic c) (a.put oi.dst v) w->Q (.panic c) a w):
  ∀ (n:Nat) (l:Array Bool) (a:Act) (w:Bb),(∀ j oj,ops[j]?=some oj->j≠i->l.getD j true=false->(∀ e∈oj.after,Region.binds md e=true->e.on≠i)->oi.apart ops oj=true)->i∈Region.ready md ops l->l.getD z true=false->YieldsIf P ops S oi v a->S w->
   Oh z P md ops Q S n (l.setIfInBounds i true) (a.put oi.dst v) w->Oh z P md ops Q S (n+1) l a w:=by
 intro n;induction n with
 | zero=>
  intro l a w _ hr _ hy hS H;refine⟨fun h=>(by rw[h]at hr;cases hr),fun j hj=>?_⟩;by_cases Il:j=i
  .subst Il;exact hy.wpOp hi hS ⟨fun _=>hS,H⟩
  .have:=ready_mono hj Il
   rw[H.1]at this;cases this
 | succ n ih=>
  intro l a w Pn hr hz hy hS H;refine⟨fun h=>(by rw[h]at hr;cases hr),fun j hj=>?_⟩;by_cases Il:j=i
  .subst Il;exact hy.wpOp hi hS ⟨fun _=>hS,H⟩
  .have h1:=H.2 j<|ready_mono hj Il;obtain⟨WG,oj,aG,hall⟩:=mem_ready.1 hj;have YZ: ∀ e∈oj.after,Region.binds md e=true->e.on≠i:=fun e he hb Ce=>by
    have h1:=hall e he hb;have h0:=(mem_ready.1 hr).1;rw[Ce]at h1;rcases Qp i l.size with h' | h'
    .simp[h']at h0 h1;rw[h0]at h1;cases h1
    .simp[Zj h']at h1
   have hjz:j≠z:=fun e=>by
    subst e;simp only[Yg5,aG,Array.any_eq_true',wx,DR]at hw;obtain⟨e,he,hb,ho⟩:=hw;exact YZ e he hb ho
   have hzj:(l.setIfInBounds j true).getD z true=false:=by rw[getD_set_ne true hjz];exact hz
   have h2:=wpOp_putIf aG (Pn j oj aG Il WG YZ) (fun cs b=>V5 i oi cs b hi) (fun cs b=>V5 j oj cs b aG) hQ hy h1;have RO: ∀ k ok,ops[k]?=some ok->k≠i->(l.setIfInBounds j true).getD k true=false->(∀ e∈ok.after,Region.binds md e=true->e.on≠i)->oi.apart ops ok=true:=fun k ok hk aJ YQ hno=>by
    refine Pn k ok hk aJ ?_ hno;by_cases hjk:j=k
    .subst hjk;exact WG
    .rw[getD_set_ne true hjk]at YQ;exact YQ
   refine wpOp_mono (fun a' w' h3=>?_) h2;have aM:S w':=h3.2.1 (by rw[getD_set_ne true hjz,getD_set_ne true Yd];exact hz);refine⟨fun _=>aM,ih (l.setIfInBounds j true) a' w' RO (ready_mono hr<|Ne.symm Il) hzj h3.1 aM ?_⟩;rw[Array.setIfInBounds_comm _ _ Il];exact h3.2.2
def tz (i:Nat)(v:Value)(hS:S w)(h:Oh z P md ops Q S n (l.setIfInBounds i true) (a.put oi.dst v) w)(hi:ops[i]?=some oi:=by rfl)(hs:Region.noSelect ops=true:=by kernel_rfl)(hf:Region.free md ops l i=true:=by kernel_rfl)(hr:(Region.ready md ops l).contains i=true:=by kernel_rfl)(hwt:Yg5 md ops z i=true:=by kernel_rfl)(Yd:i≠z:=by decide)(hz:l.getD z true=false:=by kernel_rfl)(hQ: ∀ c a w,Q (.panic c) (a.put oi.dst v) w->Q (.panic c) a w:=by exact fun _ _ _ h=>h)(hw:Region.wanted oi (yielded ops a.tmps)=true:=by rfl)(hy: ∀ u,S u->(execOp a.eval oi).run P u= .ok (.value v) u:=by intro _ _;go_simp):Oh z P md ops Q S (n+1) l a w:=
 Zzd hi (Region.noSelect_spec hs) hwt Yd hQ n l a w (Region.free_spec hi hf) (by simpa using hr) hz (Or.inl ⟨hw,hy⟩) hS h
theorem z9 (i:Nat)(v:Value)(hS:S w){g:Prop}(h:g)(hi:ops[i]?=some oi:=by rfl)(hs:Region.noSelect ops=true:=by kernel_rfl)(hf:Region.free md ops l i=true:=by kernel_rfl)(hr:(Region.ready md ops l).contains i=true:=by kernel_rfl)(hwt:Yg5 md ops z i=true:=by kernel_rfl)(Yd:i≠z:=by decide)(hz:l.getD z true=false:=by kernel_rfl)(hQ: ∀ c a w,Q (.panic c) (a.put oi.dst v) w->Q (.panic c) a w:=by exact fun _ _ _ h=>h)(hw:Region.wanted oi (yielded ops a.tmps)=true:=by rfl)(hy: ∀ u,S u->(execOp a.eval oi).run P u= .ok (.value v) u:=by intro _ h;revert h;(try simp only[and_imp]);intros;go_simp)(k:g->Oh z P md ops Q S n (l.setIfInBounds i true) (a.put oi.dst v) w:=by intro h;(try simp only[zz]);exact h):Oh z P md ops Q S (n+1) l a w:=
 Zzd hi (Region.noSelect_spec hs) hwt Yd hQ n l a w (Region.free_spec hi hf) (by simpa using hr) hz (Or.inl ⟨hw,hy⟩) hS (k h)
def rz (i:Nat)(hr:Region.ready md ops l=[i]:=by kernel_rfl)(ho:ops[i]?=some o:=by rfl)(h: ∀ K':Act->Bb->Prop,Shut (∀ a w,S w->Oh z P md ops Q S n (l.setIfInBounds i true) a w->K' a w)->if Region.wanted o (yielded ops a.tmps)=true then Oper.wp P o a w K' Q else K' (a.put o.dst undef) w):Oh z P md ops Q S (n+1) l a w:=
 ⟨fun e=>(by rw[hr]at e;cases e),fun j hj=>by
  rw[hr]at hj;obtain rfl:=Bh.1 hj;exact wpOp_step ho fun K' hK=>h K' fun a w hS hW=>hK a w ⟨fun _=>hS,hW⟩⟩
def Q0 (hr:Region.ready md ops l=[z]:=by kernel_rfl)(ho:ops[z]?=some o:=by rfl)(hz:(l.setIfInBounds z true).getD z true=true:=by kernel_rfl)(h: ∀ K':Act->Bb->Prop,Shut (∀ a w,Oh z P md ops Q S n (l.setIfInBounds z true) a w->K' a w)->if Region.wanted o (yielded ops a.tmps)=true then Oper.wp P o a w K' Q else K' (a.put o.dst undef) w):Oh z P md ops Q S (n+1) l a w:=
 ⟨fun e=>(by rw[hr]at e;cases e),fun j hj=>by
  rw[hr]at hj;obtain rfl:=Bh.1 hj;exact wpOp_step ho fun K' hK=>h K' fun a w hW=>hK a w ⟨fun e=>(by rw[hz]at e;cases e),hW⟩⟩
def dz (hr:Region.ready md ops l=[]:=by kernel_rfl)(h:Q .normal a w):Oh z P md ops Q S n l a w:=by
 cases n with
 | zero=>exact⟨hr,h⟩
 | succ n=>exact⟨fun _=>h,fun i hi=>by rw[hr]at hi;cases hi⟩
theorem yp (i:Nat){w':World}(hS:S w'){g:Prop}(h:g)(hr:Region.ready md ops l=[i]:=by kernel_rfl)(ho:ops[i]?=some o:=by rfl)(k:g->S w'-> ∀ K':Act->World->Prop,Shut (∀ a w,S w->Oh z P md ops Q S n (l.setIfInBounds i true) a w->K' a w)->if Region.wanted o (yielded ops a.tmps)=true then Oper.wp P o a w K' Q else K' (a.put o.dst undef) w:=by intro h s K' hK';go_simp;exact hK'.o _ _ s (by (try simp only[zz]);exact h)):Oh z P md ops Q S (n+1) l a w:=rz i hr ho (k h hS)
theorem yq {g:Prop}(h:g)(hr:Region.ready md ops l=[z]:=by kernel_rfl)(ho:ops[z]?=some o:=by rfl)(hz:(l.setIfInBounds z true).getD z true=true:=by kernel_rfl)(k:g-> ∀ K':Act->World->Prop,Shut (∀ a w,Oh z P md ops Q S n (l.setIfInBounds z true) a w->K' a w)->if Region.wanted o (yielded ops a.tmps)=true then Oper.wp P o a w K' Q else K' (a.put o.dst undef) w:=by intro h K' hK';go_simp;exact hK'.o _ _ (by (try simp only[zz]);exact dz (h:=h))):Oh z P md ops Q S (n+1) l a w:=Q0 hr ho hz (k h)
end
end
section
open Go
variable {oi:Oper}
section
variable {P:Program} {md:Region.Mode} {ops:Array Oper} {Q:Exit->Act->Bb->Prop} {S:Bb->Prop} {z:Nat}
def Z1x {i:Nat}{v:Value}(hi:ops[i]?=some oi)(V5: ∀ (j:Nat) (o:Oper) cs b,ops[j]?=some o->o.op≠ .select cs b)(Yd:i≠z)(hQ: ∀ c a w,Q (.panic c) (a.put oi.dst v) w->Q (.panic c) a w):
  ∀ (n:Nat) (l:Array Bool) (a:Act) (w:Bb),(∀ j oj,ops[j]?=some oj->j≠i->l.getD j true=false->(∀ e∈oj.after,Region.binds md e=true->e.on≠i)->oi.apart ops oj=true)->i∈Region.ready md ops l->YieldsIf P ops (fun _=>True) oi v a->(l.getD z true=false->S w)->
   Oh z P md ops Q S n (l.setIfInBounds i true) (a.put oi.dst v) w->Oh z P md ops Q S (n+1) l a w:=by
 intro n;induction n with
 | zero=>
  intro l a w _ hr hy hS H;refine⟨fun h=>(by rw[h]at hr;cases hr),fun j hj=>?_⟩;by_cases Il:j=i
  .subst Il;exact hy.wpOp hi trivial ⟨fun e=>hS (by rwa [getD_set_ne true Yd]at e),H⟩
  .have:=ready_mono hj Il
   rw[H.1]at this;cases this
 | succ n ih=>
  intro l a w Pn hr hy hS H;refine⟨fun h=>(by rw[h]at hr;cases hr),fun j hj=>?_⟩;by_cases Il:j=i
  .subst Il;exact hy.wpOp hi trivial ⟨fun e=>hS (by rwa [getD_set_ne true Yd]at e),H⟩
  .have h1:=H.2 j<|ready_mono hj Il;obtain⟨WG,oj,aG,hall⟩:=mem_ready.1 hj;have YZ: ∀ e∈oj.after,Region.binds md e=true->e.on≠i:=fun e he hb Ce=>by
    have h1:=hall e he hb;have h0:=(mem_ready.1 hr).1;rw[Ce]at h1;rcases Qp i l.size with h' | h'
    .simp[h']at h0 h1;rw[h0]at h1;cases h1
    .simp[Zj h']at h1
   have h2:=wpOp_putIf aG (Pn j oj aG Il WG YZ) (fun cs b=>V5 i oi cs b hi) (fun cs b=>V5 j oj cs b aG) hQ hy h1;have RO: ∀ k ok,ops[k]?=some ok->k≠i->(l.setIfInBounds j true).getD k true=false->(∀ e∈ok.after,Region.binds md e=true->e.on≠i)->oi.apart ops ok=true:=fun k ok hk aJ YQ hno=>by
    refine Pn k ok hk aJ ?_ hno;by_cases hjk:j=k
    .subst hjk;exact WG
    .rw[getD_set_ne true hjk]at YQ;exact YQ
   refine wpOp_mono (fun a' w' h3=>?_) h2;have aM:(l.setIfInBounds j true).getD z true=false->S w':=fun e=>h3.2.1 (by rw[Array.setIfInBounds_comm _ _<|Ne.symm Il,getD_set_ne true Yd];exact e);refine⟨aM,ih (l.setIfInBounds j true) a' w' RO (ready_mono hr<|Ne.symm Il) h3.1 aM ?_⟩;rw[Array.setIfInBounds_comm _ _ Il];exact h3.2.2
def tf (i:Nat)(v:Value){n:Nat}{l:Array Bool}{a:Act}{w:Bb}(hS:S w)(h:Oh z P md ops Q S n (l.setIfInBounds i true) (a.put oi.dst v) w)(hi:ops[i]?=some oi:=by rfl)(hs:Region.noSelect ops=true:=by kernel_rfl)(hf:Region.free md ops l i=true:=by kernel_rfl)(hr:(Region.ready md ops l).contains i=true:=by kernel_rfl)(Yd:i≠z:=by decide)(hQ: ∀ c a w,Q (.panic c) (a.put oi.dst v) w->Q (.panic c) a w:=by exact fun _ _ _ h=>h)(hw:Region.wanted oi (yielded ops a.tmps)=true:=by rfl)(hy: ∀ u,(fun _=>True) u->(execOp a.eval oi).run P u= .ok (.value v) u:=by intro _ _;go_simp):Oh z P md ops Q S (n+1) l a w:=
 Z1x hi (Region.noSelect_spec hs) Yd hQ n l a w (Region.free_spec hi hf) (by simpa using hr) (Or.inl ⟨hw,hy⟩) (fun _=>hS) h
theorem yd (i:Nat)(v:Value){n:Nat}{l:Array Bool}{a:Act}{w:Bb}(hS:S w){g:Prop}(h:g)(hi:ops[i]?=some oi:=by rfl)(hs:Region.noSelect ops=true:=by kernel_rfl)(hf:Region.free md ops l i=true:=by kernel_rfl)(hr:(Region.ready md ops l).contains i=true:=by kernel_rfl)(Yd:i≠z:=by decide)(hQ: ∀ c a w,Q (.panic c) (a.put oi.dst v) w->Q (.panic c) a w:=by exact fun _ _ _ h=>h)(hw:Region.wanted oi (yielded ops a.tmps)=true:=by rfl)(hy: ∀ u,(fun _=>True) u->(execOp a.eval oi).run P u= .ok (.value v) u:=by intro _ _;go_simp)(k:g->Oh z P md ops Q S n (l.setIfInBounds i true) (a.put oi.dst v) w:=by intro h;(try simp only[zz]);exact h):Oh z P md ops Q S (n+1) l a w:=
 Z1x hi (Region.noSelect_spec hs) Yd hQ n l a w (Region.free_spec hi hf) (by simpa using hr) (Or.inl ⟨hw,hy⟩) (fun _=>hS) (k h)
end
end
variable {u:Bb}{vb vp vk vc vy vr vd:Value}{bs:List Bk}{ys rs:List Ay}{ds:List (Int×Int×Ay)}{ps:List Dk}{Fb Fy Fd Fp:Cg}
def gz (i:Int):Prop:= -9223372036854775808<=i/\i<9223372036854775808
def Yim:Value->Nat
 | .string t=>t.size
 | _=>0
def KpR (vk:Value) (vc:Value) (ys rs:List Ay) (ds:List (Int×Int×Ay)) (ps:List Dk):Prop:=(∀ y,y∈ys->y.size<=65536)/\Yim vk<=65536/\(∀ d,d∈ds->gz d.2.1)/\(∀ y,y∈rs->y.size<=65536)/\(∃ i,vc= zo i/\gz i)/\gD ps=0
def Kp (L:Nat) (u:Bb) (n:Nat):Prop:= ∃ vb vp vk vc vy vr vd bs ys rs ds ps Fb Fy Fr Fd Fp,JP L u vb vp vk vc vy vr vd bs ys rs ds ps Fb Fy Fr Fd Fp/\(∃ p m c,vp= sP p m c)/\(∃ t,vk= um t)/\(∃ i,vc= zo i)/\bs.length<=n/\ys.length<=n/\rs.length<=n/\ds.length<=n/\(∀ x,x∈bs-> ∃ t,Gu t (QG t)= .ok x)/\KpR vk vc ys rs ds ps
def X0 (L n:Nat) (u:Bb) (e:Ending) (w':Bb):Prop:=e=uY (.tuple #[])/\Kp L w' (n+1)/\Below L u w'
def Kp.mk {w:Bb}{n:Nat}{Fr:Cg}(h:JP L w vb vp vk vc vy vr vd bs ys rs ds ps Fb Fy Fr Fd Fp)(hb:Below L u w)(h1: ∃ p m c,vp= sP p m c)(h2: ∃ t,vk= um t)(h3: ∃ i,vc= zo i)(h4:bs.length<=n+1)(h5:ys.length<=n+1)(h6:rs.length<=n+1)(h7:ds.length<=n+1)(h8: ∀ x,x∈bs-> ∃ t,Gu t (QG t)= .ok x)(h9:KpR vk vc ys rs ds ps):X0 L n u (.returned<|.tuple #[]) w:=⟨rfl,⟨vb,vp,vk,vc,vy,vr,vd,bs,ys,rs,ds,ps,Fb,Fy,Fr,Fd,Fp,h,h1,h2,h3,h4,h5,h6,h7,h8,h9⟩,hb⟩
def JP.up {Fr:Cg}(h:JP L u vb vp vk vc vy vr vd bs ys rs ds ps Fb Fy Fr Fd Fp)(o:Obj):JP L (u.alloc o) vb vp vk vc vy vr vd bs ys rs ds ps Fb Fy Fr Fd Fp:=h.la<|(AR _ u).alloc lr o
def Yf4:(prog.info? 44).map (fun i=>(i.zero,i.size,i.bytes))=some (some<|.agg #[zo 0,zo 0,sE],3,32):=zt
def Yft:J3 prog 22 44 3 32:=eL Yf4 underlying22
section
variable {L n:Nat} {u:Bb} {A:Int} {s:Ay}
def Z6o (h:Kp L u n)(hA:gz A):Calls prog 9 #[zq L 0,.agg #[zo 4,zo A,um s]] u (X0 L n u):=by
 obtain⟨vb,vp,vk,vc,vy,vr,vd,bs,ys,rs,ds,ps,Fb,Fy,Fr,Fd,Fp,H,⟨pp,mp,cp,rfl⟩,⟨tk,rfl⟩,⟨ik,rfl⟩,hl⟩:=h;have HK:=AC H;have HL:=AC hl;have hL:=H.blk.lt;have hc:=(H.blk.alloc<|.cells #[zo 4,zo A,um s] 44).cell 3;have hs:=(H.blk.alloc<|.cells #[zo 4,zo A,um s] 44).soft;clear H hl;go_in
 go_wp2_with fail
 refine⟨rfl,_,(by simp[results,results9,go_sem];try rfl),?_⟩;obtain⟨l1,l2,l3,l4,l5,l6⟩:=HL.o;exact Kp.mk ((HK.o.set 3 _ rfl).up _) (((AR L u).setCell lr _).alloc zc _) ⟨_,_,_,rfl⟩ ⟨_,rfl⟩ ⟨_,rfl⟩ zx zx zx zx l5 ⟨l6.1,l6.2.1,l6.2.2.1,l6.2.2.2.1,⟨_,rfl,hA⟩,l6.2.2.2.2.2⟩
def Ydq (h:Kp L u n)(RG:s.size<=65536):Calls prog 9 #[zq L 0,.agg #[zo 3,zo A,um s]] u (X0 L n u):=by
 obtain⟨vb,vp,vk,vc,vy,vr,vd,bs,ys,rs,ds,ps,Fb,Fy,Fr,Fd,Fp,H,⟨pp,mp,cp,rfl⟩,⟨tk,rfl⟩,⟨ik,rfl⟩,hl⟩:=h;have HK:=AC H;have HL:=AC hl;have hL:=H.blk.lt;have hc:=(H.blk.alloc<|.cells #[zo 3,zo A,um s] 44).cell 2;have hs:=(H.blk.alloc<|.cells #[zo 3,zo A,um s] 44).soft;clear H hl;go_in
 go_wp2_with fail
 all_goals
  refine⟨rfl,_,(by simp[results,results9,go_sem];try rfl),?_⟩;obtain⟨l1,l2,l3,l4,l5,l6⟩:=HL.o;first
  | exact Kp.mk (HK.o.up _) ((AR L u).alloc zx _) ⟨_,_,_,rfl⟩ ⟨_,rfl⟩ ⟨_,rfl⟩ zx zx zx zx l5 l6
  | exact Kp.mk ((HK.o.set 2 _ rfl).up _) (((AR L u).setCell lr _).alloc zc _) ⟨_,_,_,rfl⟩ ⟨_,rfl⟩ ⟨_,rfl⟩ zx zx zx zx l5 ⟨l6.1,RG,l6.2.2⟩
def Z6p (h:Kp L u n){k:Int}(h1:k≠1)(h2:k≠2)(h3:k≠3)(h4:k≠4)(h5:k≠5)(h6:k≠6)(h7:k≠7):Calls prog 9 #[zq L 0,.agg #[zo k,zo A,um s]] u (X0 L n u):=by
 obtain⟨vb,vp,vk,vc,vy,vr,vd,bs,ys,rs,ds,ps,Fb,Fy,Fr,Fd,Fp,H,⟨pp,mp,cp,rfl⟩,⟨tk,rfl⟩,⟨ik,rfl⟩,hl⟩:=h;have HK:=AC H;have HL:=AC hl;have hL:=H.blk.lt;clear H hl;go_in
 go_wp2_with fail
 refine⟨rfl,_,(by simp[results,results9,go_sem];try rfl),?_⟩;obtain⟨l1,l2,l3,l4,l5,l6⟩:=HL.o;exact Kp.mk (HK.o.up _) ((AR L u).alloc zx _) ⟨_,_,_,rfl⟩ ⟨_,rfl⟩ ⟨_,rfl⟩ zx zx zx zx l5 l6
def Z6m (h:Kp L u n)(hn:n<65536)(RG:s.size<=65536):Calls prog 9 #[zq L 0,.agg #[zo 5,zo A,um s]] u (X0 L n u):=by
 obtain⟨vb,vp,vk,vc,vy,vr,vd,bs,ys,rs,ds,ps,Fb,Fy,Fr,Fd,Fp,H,⟨pp,mp,cp,rfl⟩,⟨tk,rfl⟩,⟨ik,rfl⟩,hl⟩:=h;obtain⟨pr,cr,rfl⟩:=H.ry.form;have HK:=AC H;have HL:=AC hl;have hL:=H.blk.lt;obtain⟨U,hU⟩:=cK (u.alloc (.cells #[zo 5,zo A,um s] 44));have hN:=AO.new u #[zo 5,zo A,um s] 44;have Oz:AF (Bl u U):=⟨hU.o▸(AR _ u).alloc lr _⟩;have YR:AF (U.heap.size=u.heap.size+1):=⟨by rw[<- hU.o];simp⟩;rw[hU.o]at hN;have KU:=AC<|H.la Oz.o;have AY:U.drew.cell? (zm L 4)=some (sP pr ys.length cr)/\U.drew.cell? (zm u.heap.size 0)=some (zo 5)/\U.drew.cell? (zm u.heap.size 1)=some (zo A)/\U.drew.cell? (zm u.heap.size 2)=some (um s):=⟨KU.o.blk.cell 4,hN.three.1,hN.three.2.1,hN.three.2.2.1⟩;have HN:=AC hN;clear H hl hN;go_in
 go_wp2_with fail
 rw[hU.o];refine Vj 11 (fun v=>v.cell? (zm L 4)=some (sP pr ys.length cr)/\v.cell? (zm u.heap.size 0)=some (zo 5)/\v.cell? (zm u.heap.size 1)=some (zo A)/\v.cell? (zm u.heap.size 2)=some (um s)) zt ?_;refine z9 0 (zq L 0) AY ?_
 refine z9 1 (zq L 0) AY ?_
 refine z9 2 (zq L 0) AY ?_
 refine z9 3 (zq L 4) AY ?_
 refine z9 4 (sP pr ys.length cr) AY ?_
 refine z9 5 (zq u.heap.size 2) AY ?_
 refine z9 6 (um s) AY ?_
 refine rz 7 (h:=fun K' hK'=>?_);go_simp;obtain⟨W,hW⟩:=cK (U.alloc (.cells #[um s] 9));rw[hW.o];have OZ:Bl U W:=hW.o▸(AR _ U).alloc lr _;have VG:AF (W.heap.size=U.heap.size+1):=⟨by rw[<- hW.o];simp⟩;have NW:W.heap[U.heap.size]?=some (.cells #[um s] 9):=hW.o▸Hw _ _;have KW:=AC<|KU.o.la OZ;have HW:=AC<|HN.o.of<|OZ.block _ HN.o.lt;refine hK'.o _ _ ⟨KW.o.blk.cell 4,HW.o.three.1,HW.o.three.2.1,HW.o.three.2.2.1⟩ ?_;try simp only[zz]
 refine rz 8 (h:=fun K' hK'=>?_);refine X3 gB rfl (.tmp 78) (.tmp 81) rfl GD.sb (fun _ _ _ _ h=>GD.one h) (L+1) (sP pr ys.length cr) ys Fy rfl (KW.o.ry:AQ _ _ _ W.drew _ _ _) U.heap.size #[um s] 9 (0,0) s [] rfl NW rfl ⟨rfl,rfl⟩ (fw (HL.o)) (by show L+1<=W.heap.size;have:=YR.o;have:=VG.o;omega) (KW.o.ny.la lr lr) (Ag.nil _ _) (fun _ _ h=>by cases h) ?_;intro g cap w1 F' AM;have QV:=AM.size;have hsm:=fun k (h:k<W.heap.size) hf=>AM.same k h hf;have KL:=AC<|KW.o.blk.of (w':=w1) (hsm L KW.o.blk.lt fun hf=>fw (KW.o.ny.ge L hf));have HX:=AC<|HW.o.of (w':=w1) (hsm _ HW.o.lt fun hf=>fw (HK.o.ny.lt _ hf));have hS1:w1.cell? (zm L 4)=some (sP pr ys.length cr)/\w1.cell? (zm u.heap.size 0)=some (zo 5)/\w1.cell? (zm u.heap.size 1)=some (zo A)/\w1.cell? (zm u.heap.size 2)=some (um s):=⟨KL.o.cell 4,HX.o.three.1,HX.o.three.2.1,HX.o.three.2.2.1⟩;have ks:=KL.o.soft;have DJ:=AC<|HK.o.appY (Oz.o.trans<|OZ.mono Oz.o.size).drew (fun _ h=>by cases h) AM;refine hK'.o _ _ hS1 ?_;try simp only[zz]
 refine yp 9 hS1 ?_
 refine yp 10 hS1 ?_
 have c1:=hS1.1;refine yq ?_;clear AM ks c1 AY hS1;go_wp2_with fail
 refine⟨rfl,_,(by simp[results,results9,go_sem];try rfl),?_⟩;obtain⟨l1,l2,l3,l4,l5,l6⟩:=HL.o;exact Kp.mk DJ.o.1 DJ.o.2 ⟨_,_,_,rfl⟩ ⟨_,rfl⟩ ⟨_,rfl⟩ zx zc zx zx l5 ⟨fun y hy=>by
  rcases Aj.1 hy with hy | hy
  .exact l6.1 y hy
  .obtain rfl:=Bh.1 hy;exact RG,l6.2⟩
end
section
variable {L n:Nat} {u:Bb} {A:Int} {s:Ay}
def Z1i (h:Kp L u n)(hn:n<65536)(RG:s.size<=65536):Calls prog 9 #[zq L 0,.agg #[zo 6,zo A,um s]] u (X0 L n u):=by
 obtain⟨vb,vp,vk,vc,vy,vr,vd,bs,ys,rs,ds,ps,Fb,Fy,Fr,Fd,Fp,H,⟨pp,mp,cp,rfl⟩,⟨tk,rfl⟩,⟨ik,rfl⟩,hl⟩:=h;obtain⟨pr,cr,rfl⟩:=H.rr.form;have HK:=AC H;have HL:=AC hl;have hL:=H.blk.lt;obtain⟨U,hU⟩:=cK (u.alloc (.cells #[zo 6,zo A,um s] 44));have hN:=AO.new u #[zo 6,zo A,um s] 44;have Oz:AF (Bl u U):=⟨hU.o▸(AR _ u).alloc lr _⟩;have YR:AF (U.heap.size=u.heap.size+1):=⟨by rw[<- hU.o];simp⟩;rw[hU.o]at hN;have KU:=AC<|H.la Oz.o;have AY:U.drew.cell? (zm L 5)=some (sP pr rs.length cr)/\U.drew.cell? (zm u.heap.size 0)=some (zo 6)/\U.drew.cell? (zm u.heap.size 1)=some (zo A)/\U.drew.cell? (zm u.heap.size 2)=some (um s):=⟨KU.o.blk.cell 5,hN.three.1,hN.three.2.1,hN.three.2.2.1⟩;have HN:=AC hN;clear H hl hN;go_in
 go_wp2_with fail
 rw[hU.o];refine Vj 11 (fun v=>v.cell? (zm L 5)=some (sP pr rs.length cr)/\v.cell? (zm u.heap.size 0)=some (zo 6)/\v.cell? (zm u.heap.size 1)=some (zo A)/\v.cell? (zm u.heap.size 2)=some (um s)) zt ?_;refine z9 0 (zq L 0) AY ?_
 refine z9 1 (zq L 0) AY ?_
 refine z9 2 (zq L 0) AY ?_
 refine z9 3 (zq L 5) AY ?_
 refine z9 4 (sP pr rs.length cr) AY ?_
 refine z9 5 (zq u.heap.size 2) AY ?_
 refine z9 6 (um s) AY ?_
 refine rz 7 (h:=fun K' hK'=>?_);go_simp;obtain⟨W,hW⟩:=cK (U.alloc (.cells #[um s] 9));rw[hW.o];have OZ:Bl U W:=hW.o▸(AR _ U).alloc lr _;have VG:AF (W.heap.size=U.heap.size+1):=⟨by rw[<- hW.o];simp⟩;have NW:W.heap[U.heap.size]?=some (.cells #[um s] 9):=hW.o▸Hw _ _;have KW:=AC<|KU.o.la OZ;have HW:=AC<|HN.o.of<|OZ.block _ HN.o.lt;refine hK'.o _ _ ⟨KW.o.blk.cell 5,HW.o.three.1,HW.o.three.2.1,HW.o.three.2.2.1⟩ ?_;try simp only[zz]
 refine rz 8 (h:=fun K' hK'=>?_);refine X3 gB rfl (.tmp 91) (.tmp 94) rfl GD.sb (fun _ _ _ _ h=>GD.one h) (L+1) (sP pr rs.length cr) rs Fr rfl (KW.o.rr:AQ _ _ _ W.drew _ _ _) U.heap.size #[um s] 9 (0,0) s [] rfl NW rfl ⟨rfl,rfl⟩ (fw (HL.o)) (by show L+1<=W.heap.size;have:=YR.o;have:=VG.o;omega) (KW.o.nr.la lr lr) (Ag.nil _ _) (fun _ _ h=>by cases h) ?_;intro g cap w1 F' AM;have QV:=AM.size;have hsm:=fun k (h:k<W.heap.size) hf=>AM.same k h hf;have KL:=AC<|KW.o.blk.of (w':=w1) (hsm L KW.o.blk.lt fun hf=>fw (KW.o.nr.ge L hf));have HX:=AC<|HW.o.of (w':=w1) (hsm _ HW.o.lt fun hf=>fw (HK.o.nr.lt _ hf));have hS1:w1.cell? (zm L 5)=some (sP pr rs.length cr)/\w1.cell? (zm u.heap.size 0)=some (zo 6)/\w1.cell? (zm u.heap.size 1)=some (zo A)/\w1.cell? (zm u.heap.size 2)=some (um s):=⟨KL.o.cell 5,HX.o.three.1,HX.o.three.2.1,HX.o.three.2.2.1⟩;have ks:=KL.o.soft;have DJ:=AC<|HK.o.appR (Oz.o.trans<|OZ.mono Oz.o.size).drew (fun _ h=>by cases h) AM;refine hK'.o _ _ hS1 ?_;try simp only[zz]
 refine yp 9 hS1 ?_
 refine yp 10 hS1 ?_
 have c1:=hS1.1;refine yq ?_;clear AM ks c1 AY hS1;go_wp2_with fail
 refine⟨rfl,_,(by simp[results,results9,go_sem];try rfl),?_⟩;obtain⟨l1,l2,l3,l4,l5,l6⟩:=HL.o;exact Kp.mk DJ.o.1 DJ.o.2 ⟨_,_,_,rfl⟩ ⟨_,rfl⟩ ⟨_,rfl⟩ zx zx zc zx l5 ⟨l6.1,l6.2.1,l6.2.2.1,fun y hy=>by
  rcases Aj.1 hy with hy | hy
  .exact l6.2.2.2.1 y hy
  .obtain rfl:=Bh.1 hy;exact RG,l6.2.2.2.2⟩
def Yaw (h:Kp L u n)(hn:n<65536)(hA:gz A):Calls prog 9 #[zq L 0,.agg #[zo 7,zo A,um s]] u (X0 L n u):=by
 obtain⟨vb,vp,vk,vc,vy,vr,vd,bs,ys,rs,ds,ps,Fb,Fy,Fr,Fd,Fp,H,⟨pp,mp,cp,rfl⟩,⟨tk,rfl⟩,⟨ik,rfl⟩,hl⟩:=h;obtain⟨pr,cr,rfl⟩:=H.rd.form;have HK:=AC H;have HL:=AC hl;have hL:=H.blk.lt;obtain⟨U,hU⟩:=cK (u.alloc (.cells #[zo 7,zo A,um s] 44));have hN:=AO.new u #[zo 7,zo A,um s] 44;have Oz:AF (Bl u U):=⟨hU.o▸(AR _ u).alloc lr _⟩;have YR:AF (U.heap.size=u.heap.size+1):=⟨by rw[<- hU.o];simp⟩;rw[hU.o]at hN;have KU:=AC<|H.la Oz.o;have AY:U.drew.cell? (zm L 6)=some (sP pr ds.length cr)/\U.drew.cell? (zm u.heap.size 0)=some (zo 7)/\U.drew.cell? (zm u.heap.size 1)=some (zo A)/\U.drew.cell? (zm u.heap.size 2)=some (um s):=⟨KU.o.blk.cell 6,hN.three.1,hN.three.2.1,hN.three.2.2.1⟩;have HN:=AC hN;clear H hl hN;go_in
 go_wp2_with fail
 rw[hU.o];refine Vj 10 (fun v=>v.cell? (zm L 6)=some (sP pr ds.length cr)/\v.cell? (zm u.heap.size 0)=some (zo 7)/\v.cell? (zm u.heap.size 1)=some (zo A)/\v.cell? (zm u.heap.size 2)=some (um s)) zt ?_;refine z9 0 (zq L 0) AY ?_
 refine z9 1 (zq L 0) AY ?_
 refine z9 2 (zq L 0) AY ?_
 refine z9 3 (zq L 6) AY ?_
 refine z9 4 (sP pr ds.length cr) AY ?_
 refine z9 5 (.agg #[zo 7,zo A,um s]) AY ?_
 refine rz 6 (h:=fun K' hK'=>?_);go_simp;obtain⟨W,hW⟩:=cK (U.alloc (.cells #[zo 7,zo A,um s] 44));rw[hW.o];have OZ:Bl U W:=hW.o▸(AR _ U).alloc lr _;have VG:AF (W.heap.size=U.heap.size+1):=⟨by rw[<- hW.o];simp⟩;have NW:W.heap[U.heap.size]?=some (.cells #[zo 7,zo A,um s] 44):=hW.o▸Hw _ _;have KW:=AC<|KU.o.la OZ;have HW:=AC<|HN.o.of<|OZ.block _ HN.o.lt;refine hK'.o _ _ ⟨KW.o.blk.cell 6,HW.o.three.1,HW.o.three.2.1,HW.o.three.2.2.1⟩ ?_;try simp only[zz]
 refine rz 7 (h:=fun K' hK'=>?_);refine X3 Yft rfl (.tmp 104) (.tmp 106) rfl SL.sb (fun _ _ _ _ h=>SL.one h) (L+1) (sP pr ds.length cr) ds Fd rfl (KW.o.rd:AQ _ _ _ W.drew _ _ _) U.heap.size #[zo 7,zo A,um s] 44 (0,0) ((7:Int),A,s) [] rfl NW rfl ⟨rfl,rfl⟩ (fw (HL.o)) (by show L+1<=W.heap.size;have:=YR.o;have:=VG.o;omega) (KW.o.nd.la lr lr) (Ag.nil _ _) (fun _ _ h=>by cases h) ?_;intro g cap w1 F' AM;have QV:=AM.size;have hsm:=fun k (h:k<W.heap.size) hf=>AM.same k h hf;have KL:=AC<|KW.o.blk.of (w':=w1) (hsm L KW.o.blk.lt fun hf=>fw (KW.o.nd.ge L hf));have HX:=AC<|HW.o.of (w':=w1) (hsm _ HW.o.lt fun hf=>fw (HK.o.nd.lt _ hf));have hS1:w1.cell? (zm L 6)=some (sP pr ds.length cr)/\w1.cell? (zm u.heap.size 0)=some (zo 7)/\w1.cell? (zm u.heap.size 1)=some (zo A)/\w1.cell? (zm u.heap.size 2)=some (um s):=⟨KL.o.cell 6,HX.o.three.1,HX.o.three.2.1,HX.o.three.2.2.1⟩;have ks:=KL.o.soft;have DJ:=AC<|HK.o.appD (Oz.o.trans<|OZ.mono Oz.o.size).drew (fun _ h=>by cases h) AM;refine hK'.o _ _ hS1 ?_;try simp only[zz]
 refine yp 8 hS1 ?_
 refine yp 9 hS1 ?_
 have c1:=hS1.1;refine yq ?_;clear AM ks c1 AY hS1;go_wp2_with fail
 refine⟨rfl,_,(by simp[results,results9,go_sem];try rfl),?_⟩;obtain⟨l1,l2,l3,l4,l5,l6⟩:=HL.o;exact Kp.mk DJ.o.1 DJ.o.2 ⟨_,_,_,rfl⟩ ⟨_,rfl⟩ ⟨_,rfl⟩ zx zx zx zc l5 ⟨l6.1,l6.2.1,fun d hd=>by
  rcases Aj.1 hd with hd | hd
  .exact l6.2.2.1 d hd
  .obtain rfl:=Bh.1 hd;exact hA,l6.2.2.2⟩
end
variable {f m d:Nat}{l r:By}{x:T}{a:A}{b:List A}
def bl (s:Ay):By:=s.data.toList
def J2 (a b:Ay):bl (a++b)=bl a++bl b:=by simp[bl]
def kQ (n:Nat):bl (b1 n)=[UInt8.ofNat n]:=rfl
def kP (l:By):bl (ba l)=l:=by simp[bl,ba]
def WY (s:Ay):ba (bl s)=s:=by simp[bl,ba]
def gH (s:Ay):(bl s).length=s.size:=Vp
def U8 {α:Type} (f:De α) (p:α->Ay) (x:α):Prop:= ∀ r,f (bl (p x)++r)= .ok (x,r)
def xc {α:Type} (f:De α) (p:α->Ay):Prop:= ∀ l x r,f l= .ok (x,r)->l=bl (p x)++r
def wO (n:Nat)(h:n<256):(UInt8.ofNat n).toNat=n:=zc
def Zrd (c:UInt8):UInt8.ofNat c.toNat=c:=zw
def Z9t (h:128<=n):Nh (f+1) n=b1 (n % 128+128)++Nh f (n / 128):=by rw[Nh,xj h]
def Z01 (h:n<128):Nh f n=b1 n:=by cases f with
 | zero=>rfl
 | succ f=>rw[Nh,xd zx]
def Yau (n c m p:Nat):n+c*p+m*(p*128)=n+(c+128*m)*p:=by
 rw[Nat.add_mul,Nat.mul_comm p 128,<- Nat.mul_assoc,Nat.mul_comm m 128,Nat.add_assoc]
def Z27: ∀ (g k n m:Nat) (r:By),k+g=9->m<2*128 ^ g->(0<k->0<m)->P6 k n (bl (Nh (g+1) m)++r)= .ok (n+m*128 ^ k,r)
 | 0,k,n,m,r,hk,hm,h0=>by
  have:m<2:=by simpa using hm
  rw[Z01 zx,kQ];show P6 k n (UInt8.ofNat m::r)=_;rw[P6,wO m zx,xd zx,xj zx]
 | g+1,k,n,m,r,hk,hm,h0=>by
  by_cases h:128<=m
  .rw[Z9t h,J2,kQ];show P6 k n (UInt8.ofNat (m % 128+128)::(bl (Nh (g+1)<|m / 128)++r))=_;rw[P6,wO _ zx,xd zx,xd zx,Z27 g (k+1) _ (m / 128) r zx (by rw[Nat.pow_succ]at hm;omega) fun _=>zx,Nat.pow_succ,Yau,Nat.add_sub_cancel,Nat.mod_add_div]
  .rw[Z01 zx,kQ];show P6 k n (UInt8.ofNat m::r)=_;rw[P6,wO m zx,xd zx,xj zx]
def Z26: ∀ (l:By) (g k n v:Nat) (r:By),k+g=9->P6 k n l= .ok (v,r)-> ∃ m,v=n+m*128 ^ k/\l=bl (Nh (g+1) m)++r/\(0<k->0<m)/\m<2*128 ^ g
 | [],g,k,n,v,r,hk,h=>by cases h
 | c::l,g,k,n,v,r,hk,h=>by
  have hc:c.toNat<256:=c.toNat_lt;rw[P6]at h;split at h
  ·cases h
  ·rename_i hn;split at h
   ·rename_i hlt;cases h;refine⟨c.toNat,rfl,?_,?_,?_⟩
    ·rw[Z01 hlt,kQ,Zrd];rfl
    ·intro h;exact Nat.pos_of_ne_zero fun h'=>hn (Or.inr ⟨h,h'⟩)
    ·cases g with
     | zero=>have: ¬ 1<c.toNat:=fun h'=>hn (Or.inl ⟨zx,h'⟩);simp;omega
     | succ g=>have:=Nat.one_le_two_pow (n:=0);have:1<=128 ^ g:=Nat.one_le_pow _ _ zx;rw[Nat.pow_succ];omega
   ·rename_i VN;cases g with
    | zero=>exact absurd (Or.inl ⟨zx,zx⟩) hn
    | succ g=>
     obtain⟨m,rfl,rfl,h0,hb⟩:=Z26 l g (k+1) _ v r zx h;have hm:=h0 zx;refine⟨(c.toNat-128)+128*m,?_,?_,fun _=>zx,by rw[Nat.pow_succ];omega⟩
     ·rw[Nat.pow_succ,Yau]
     ·rw[Z9t (f:=g+1) (n:=c.toNat-128+128*m) zx,J2,kQ,show(c.toNat-128+128*m) % 128+128=c.toNat by omega,show(c.toNat-128+128*m) / 128=m by omega,Zrd];rfl
def qp (h:n<18446744073709551616):U8 Qm Do n:=fun r=>by
 have:=Z27 9 0 0 n r rfl (by simpa using h) zx
 simpa[Qm,Do]using this
def Zrc (l:By)(n:Nat)(r:By)(h:Qm l= .ok (n,r)):l=bl (Do n)++r/\n<18446744073709551616:=by
 obtain⟨m,rfl,hl,_,hb⟩:=Z26 l 9 0 0 n r rfl h;simp only[Gx,Nat.pow_zero,Nat.mul_one];exact⟨hl,by simpa using hb⟩
def vI (l r:By):Jt l.length (l++r)= .ok (l,r):=by
 unfold Jt;rw[xd zw];simp
def Zrv {x:By}(h:Jt n l= .ok (x,r)):l=x++r/\x.length=n:=by
 unfold Jt at h;split at h
 .cases h
 .cases h;exact⟨zw,zc⟩
def Xv {α β:Type}{f:De α}{g:α->De β}{y:β}(h:f.then g l= .ok (y,r)): ∃ x s,f l= .ok (x,s)/\g x s= .ok (y,r):=by
 unfold De.then at h;split at h
 .cases h
 .rename_i x s hf;exact⟨x,s,hf,h⟩
def uZ {α β:Type}{f:De α}{g:α->β}{y:β}(h:f.map g l= .ok (y,r)): ∃ x,f l= .ok (x,r)/\g x=y:=by
 unfold De.map at h;split at h
 .cases h
 .rename_i x s hf;cases h;exact⟨x,hf,rfl⟩
def Wq (h:n<256):U8 LY b1 n:=fun r=>by
 show LY (UInt8.ofNat n::r)=_;rw[LY,wO n h]
def Z72 (h:LY l= .ok (n,r)):l=bl (b1 n)++r/\n<256:=by
 cases l with
 | nil=>cases h
 | cons c l=>cases h;exact⟨by rw[kQ,Zrd];rfl,c.toNat_lt⟩
def Zry (h:t.size<18446744073709551616):U8 Xm Em t:=fun r=>by
 unfold Xm Em;rw[J2,JB,De.map_ok (x:=bl t) (r:=r),WY];rw[De.then_ok<|qp h _,<- gH,vI]
def Z3r {α:Type}{f:De α}{p:α->Ay}: ∀ (xs:List α),(∀ x∈xs,U8 f p x)-> ∀ r,FR f xs.length (bl (cat p xs)++r)= .ok (xs,r)
 | [],_,r=>rfl
 | x::xs,h,r=>by
  show(f.then fun y=>(FR f xs.length).map fun r=>y::r) _=_;rw[cat,J2,JB,De.then_ok<|h x zw _,De.map_ok<|Z3r xs (fun y hy=>h y (by simp[hy])) r]
def Z3q {α:Type}{f:De α}{p:α->Ay}(hf:xc f p): ∀ (n:Nat) (l:By) (xs:List α) (r:By),FR f n l= .ok (xs,r)->xs.length=n/\l=bl (cat p xs)++r
 | 0,l,xs,r,h=>by cases h;exact⟨rfl,rfl⟩
 | n+1,l,xs,r,h=>by
  obtain⟨x,s,h1,h2⟩:=Xv h;obtain⟨ys,h3,rfl⟩:=uZ h2;obtain⟨hl,rfl⟩:=Z3q hf n s ys r h3;exact⟨by simp[hl],by rw[hf _ _ _ h1,cat,J2,JB]⟩
def Za {α:Type}{f:De α}{p:α->Ay}{xs:List α}(h: ∀ x∈xs,U8 f p x)(hl:xs.length<=m)(hm:m<18446744073709551616):U8 (DF m f) (BO p) xs:=fun r=>by
 unfold DF BO;rw[J2,JB,De.then_ok<|qp zx _,xd zx,Z3r xs h]
def Z9n {α:Type}{f:De α}{p:α->Ay}(hf:xc f p)(m:Nat):xc (DF m f) (BO p):=fun l xs r h=>by
 obtain⟨n,s,h1,h2⟩:=Xv h;obtain⟨rfl,_⟩:=Zrc _ _ _ h1;split at h2
 ·cases h2
 ·obtain⟨rfl,rfl⟩:=Z3q hf _ _ _ _ h2;unfold BO;rw[J2,JB]
def wM {i:Int}(h:Gq i):Wj (TJ i)=i/\TJ i<18446744073709551616:=by
 obtain⟨h1,h2⟩:=h;unfold Wj TJ;by_cases hi:i<0
 .rw[xj hi,xd zx];omega
 .rw[xd hi,xj zx];omega
def InT:Nat->T->Prop
 | 0,x=>Gq x.i
 | d+1,x=>Gq x.i/\ ∀ y∈x.l,InT d y
def InT.i (h:InT d x):Gq x.i:=by cases d with
 | zero=>exact h
 | succ d=>exact h.1
def ql {α:Type}{f:α->Int}: ∀ {l:List α},EU f l=0-> ∀ x∈l,f x=0
 | [],_,x,hx=>by cases hx
 | y::l,h,x,hx=>by
  unfold EU at h;split at h
  ·rename_i h';exact absurd h h'
  ·rename_i h';rcases List.mem_cons.mp hx with rfl | hx
   ·exact Decidable.not_not.mp h'
   ·exact ql h x hx
def qo {α:Type}{f:α->Int}: ∀ {l:List α},(∀ x∈l,f x=0)->EU f l=0
 | [],_=>rfl
 | y::l,h=>by rw[EU,xd (by simp[h y zw]),qo fun x hx=>h x (by simp[hx])]
def Xt {a b:Int}(h:(if a≠0 then a else b)=0):a=0/\b=0:=by
 split at h
 .rename_i h';exact absurd h h'
 .rename_i h';exact⟨Decidable.not_not.mp h',h⟩
def Zsa (h:BR d x=0):Oc d x.k x.i x.t x.l.length=0/\ ∀ y∈x.l,BR (d+1) y=0:=by
 rw[qd]at h;exact⟨(Xt h).1,ql (Xt h).2⟩
def Z3h {i:Int}(h:Oc d k i t n=0):Ih k i t n=true/\ ¬ (k=1/\0<d)/\t.size<=64/\n<=6/\ ¬ (k=7/\d=3):=by
 unfold Oc at h;split at h
 .cases h
 .rename_i h1;split at h
  .cases h
  .rename_i h2;split at h
   .cases h
   .rename_i h3;exact⟨by cases hf:Ih k i t n with | true=>rfl | false=>exact absurd (Or.inl hf) h1,fun h'=>h1 (Or.inr h'),zx,zx,h3⟩
def Ztm {i:Int}(h:Ih k i t n=true):((k=1\/k=3\/k=4)/\i=0/\n=0)\/((k=2\/k=5)/\t.size=0/\n=0)\/(k=6/\t.size=0/\n=0/\(i=0\/i=1))\/(k=7/\i=0/\t.size=0):=by
 unfold Ih UX at h;split at h
 .simp at h;simp[*]
 split at h
 .simp at h;simp[*]
 split at h
 .simp at h;simp[*]
 split at h
 .simp at h;simp[*]
 split at h
 .simp at h;simp[*]
 split at h
 .simp at h;simp[*]
 .cases h
def jo (h:t.size=0):t=ByteArray.empty:=by
 rcases t with⟨a⟩
 have:a.size=0:=h
 rw[Array.eq_empty_of_size_eq_zero this];rfl
def Yae (k i:Int)(t:Ay)(l:List T):C8 (.mk k i t l)=b1 (k % 256).toNat++(if k=2\/k=5 then Do (TJ i)else if k=6 then b1 (i % 256).toNat else if k=7 then BO C8 l else Em t):=by rw[C8,Z3m];rfl
def Zrw: ∀ (d:Nat) (x:T),d<=3->BR (3-d) x=0->InT d x->U8 (MO d) C8 x:=by
 intro d;induction d with
 | zero=>
  intro x _ hw hi r;obtain⟨ho,hl⟩:=Zsa hw;obtain⟨hf,h1,DK,h6,h7⟩:=Z3h ho;have hI:=hi.i;obtain⟨k,i,t,l⟩:=x;dsimp only[T.k,T.i,T.t,T.l]at*;rw[Yae,J2,JB,MO];rcases Ztm hf with⟨hk,rfl,hn⟩ | ⟨hk,ht,hn⟩ | ⟨rfl,ht,hn,hb⟩ | ⟨rfl,rfl,ht⟩
  .have hl0:l=[]:=M9 hn;subst hl0;rcases hk with rfl | rfl | rfl <;> (rw[De.then_ok<|Wq zu _];simp;rw[De.map_ok<|Zry zx r])
  .have hl0:l=[]:=M9 hn;have Ib:=jo ht;subst hl0 Ib;rcases hk with rfl | rfl <;> (rw[De.then_ok<|Wq zu _];simp;rw[De.map_ok<|qp (wM hI).2 r,(wM hI).1])
  .have hl0:l=[]:=M9 hn;have Ib:=jo ht;subst hl0 Ib;rcases hb with rfl | rfl <;> (rw[De.then_ok<|Wq zu _];simp;rw[De.map_ok<|Wq zu r];rfl)
  .exact absurd ⟨rfl,rfl⟩ h7
 | succ d ih=>
  intro x hd hw hi r;obtain⟨ho,hl⟩:=Zsa hw;obtain⟨hf,h1,DK,h6,h7⟩:=Z3h ho;have hI:=hi.i;have hL:=hi.2;obtain⟨k,i,t,l⟩:=x;dsimp only[T.k,T.i,T.t,T.l]at*;rw[Yae,J2,JB,MO];rcases Ztm hf with⟨hk,rfl,hn⟩ | ⟨hk,ht,hn⟩ | ⟨rfl,ht,hn,hb⟩ | ⟨rfl,rfl,ht⟩
  .have hl0:l=[]:=M9 hn;subst hl0;rcases hk with rfl | rfl | rfl <;> (rw[De.then_ok<|Wq zu _];simp;rw[De.map_ok<|Zry zx r])
  .have hl0:l=[]:=M9 hn;have Ib:=jo ht;subst hl0 Ib;rcases hk with rfl | rfl <;> (rw[De.then_ok<|Wq zu _];simp;rw[De.map_ok<|qp (wM hI).2 r,(wM hI).1])
  .have hl0:l=[]:=M9 hn;have Ib:=jo ht;subst hl0 Ib;rcases hb with rfl | rfl <;> (rw[De.then_ok<|Wq zu _];simp;rw[De.map_ok<|Wq zu r];rfl)
  .have Ib:=jo ht;subst Ib;rw[De.then_ok<|Wq zu _];simp;rw[De.map_ok<|Za (fun y hy=>ih y zx (by have:=hl y hy;rwa [show 3-(d+1)+1=3-d by omega]at this) (hL y hy)) h6 zx r]
def ky (a:A):Prop:= ∀ y∈a.te,InT 3 y
def InG (g:G):Prop:=InT 3 g.a/\InT 3 g.b
def kw (r:R):Prop:=ky r.head/\(∀ a∈r.body,ky a)/\ ∀ g∈r.gu,InG g
def QA (b:Bk):Prop:=(∀ a∈b.fa,ky a)/\(∀ r∈b.ru,kw r)/\ ∀ c∈b.ck,∀ r∈c,kw r
def qi {α:Type}{f:α->Int}{l:List α}(h:Ei f m l=0):l.length<=m/\ ∀ x∈l,f x=0:=by
 unfold Ei at h;split at h
 .cases h
 .exact⟨zx,ql h⟩
def Zpx (h:FH a=0)(hi:ky a):U8 ZF JI a:=fun r=>by
 unfold FH at h;split at h
 .cases h
 .rename_i hn;obtain⟨h6,ht⟩:=qi h;have hs:a.name.size<=16:=by
   have:IR a.name=true:=by simpa using hn
   unfold IR at this;simp at this;exact this.2
  rw[JI,J2,JB,ZF,De.then_ok<|Zry zx _,De.map_ok<|Za (fun y hy=>Zrw 3 y zx (ht y hy) (hi y hy)) h6 zx r]
def Zyw {t:T}(h:PI b t=0):BR 0 t=0:=(Xt h).1
def Z5j {g:G}(h:QE b g=0)(hi:InG g):U8 jS Tc g:=fun r=>by
 unfold QE at h;split at h
 ·cases h
 ·rename_i ho;have h':=Xt h;rw[Tc,J2,J2,JB,JB,jS,De.then_ok<|Wq zx _,De.then_ok<|Zrw 3 g.a zx (Zyw h'.1) hi.1 _,De.map_ok<|Zrw 3 g.b zx (Zyw h'.2) hi.2 _,show(((g.op % 256).toNat:Nat):Int)=g.op by omega]
def Z70 {r:R}(h:JQ r=0):r.body.length<=4/\r.gu.length<=4/\(∀ a∈r.body,FH a=0)/\ ∀ g∈r.gu,QE r.body g=0:=by
 unfold JQ at h;split at h
 .cases h
 .split at h
  .cases h
  .rename_i h4;have h':=Xt h;exact⟨zx,zx,ql h'.1,ql h'.2⟩
def Zw2 {r:R}(h:JQ r=0)(hi:kw r): ∀ s,Y9 (bl (Le r)++s)= .ok (⟨⟨ByteArray.empty,[]⟩,r.body,r.gu⟩,s):=fun s=>by
 obtain⟨h4,h5,ha,hg⟩:=Z70 h;rw[Le,J2,JB,Y9,De.then_ok<|Za (fun y hy=>Zpx (ha y hy) (hi.2.1 y hy)) h4 zx _,De.map_ok<|Za (fun y hy=>Z5j (hg y hy) (hi.2.2 y hy)) h5 zx _]
def Yal {r:R}(h:TZ r=0)(hi:kw r):U8 kJ Ta r:=fun s=>by
 have h1:=Xt h;have h2:=Xt h1.2;rw[Ta,J2,JB,kJ,De.then_ok<|Zpx h1.1 hi.1 _,De.map_ok<|Zw2 h2.1 hi s]
def Z7v {r:R}(h:SE r=0)(hi:kw r):U8 Y9 Le r:=fun s=>by
 unfold SE at h;split at h
 ·cases h
 ·rename_i hn;rw[Zw2 h hi];obtain⟨⟨n,ts⟩,b,g⟩:=r;dsimp only at hn⊢;rw[jo (t:=n) zx,M9 (l:=ts) zx]
def Zqh {l:List R}(h:J4 l=0):l.length<=4/\ ∀ r∈l,SE r=0:=by
 unfold J4 at h;split at h
 .cases h
 .exact qi h
def Z8v (h:Ul a=0):FH a=0:=(Xt h).1
def Z4o {b:Bk}(h:IU b=0)(hi:QA b):U8 Xp LM b:=fun s=>by
 have h1:=Xt h;have h2:=Xt h1.2;obtain⟨n1,q1⟩:=qi h1.1;obtain⟨n2,q2⟩:=qi h2.1;obtain⟨n3,q3⟩:=qi h2.2;rw[LM,J2,J2,JB,JB,Xp,
  De.then_ok (Za (fun y hy=>Zpx (Z8v<|q1 y hy) (hi.1 y hy)) n1 zx _),
  De.then_ok (Za (fun y hy=>Yal (q2 y hy) (hi.2.1 y hy)) n2 zx _),
  De.map_ok (Za (f:=jT) (fun y hy=>Za (fun z hz=>Z7v ((Zqh<|q3 y hy).2 z hz) (hi.2.2 y hy z hz)) (Zqh<|q3 y hy).1 zx) n3 zx s)]
def Z45 {b:Bk}(h:IU b=0)(hi:QA b)(hs:(LM b).size<=4000):Qn (bl<|LM b)= .ok b:=by
 unfold Qn;rw[xd (by rw[gH];omega)]
 have:=Z4o h hi []
 rw[List.append_nil]at this;simp only[GZ,this,xj,h];rfl
variable {l:List UInt8}{x:Tk}{q:Nat}{u:Unit}
def Yfp {y:Nat}(hy:Lib.validRune (y:Int)=true)(r:List UInt8):Lib.decodeL (Lib.encodeRune (y:Int)++r)=(y,(Lib.encodeRune (y:Int)).length):=by
 have hv:((0:Int)<=y/\(y:Int)<0xD800)\/((0xDFFF:Int)<y/\(y:Int)<=0x10FFFF):=by simpa[Lib.validRune]using hy
 have b (x:Int) (h0:0<=x) (h1:x<256):(x.toNat.toUInt8).toNat=x.toNat:=zc
 rw[Lib.decodeL_N];unfold Lib.encodeRune;by_cases h1:y<=127
 .rw[Lib.encodeRuneZ_one zx zx];simp only[xp,List.map_nil,EC,JU,List.getD_cons_zero,DU,JC];rw[b _ zx zx,Lib.decodeN,xj zx];simp
 by_cases h2:y<=2047
 .rw[Lib.encodeRuneZ_two zx zx];simp only[xp,List.map_nil,EC,JU,List.getD_cons_zero,List.getD_cons_succ,DU,JC];rw[b _ zx zx,b _ zx zx,Lib.decodeN,xd zx,xj zx,xj zx];exact Prod.ext (by dsimp only;omega) rfl
 by_cases h3:y<=65535
 .rw[Lib.encodeRuneZ_three zx];simp only[xp,List.map_nil,EC,JU,List.getD_cons_zero,List.getD_cons_succ,DU,JC];rw[b _ zx zx,b _ zx zx,b _ zx zx,Lib.decodeN,xd zx,xd zx,xj zx,xj zx];exact Prod.ext (by dsimp only;omega) rfl
 .rw[Lib.encodeRuneZ_four zx zx];simp only[xp,List.map_nil,EC,JU,List.getD_cons_zero,List.getD_cons_succ,DU,JC];rw[b _ zx zx,b _ zx zx,b _ zx zx,b _ zx zx,Lib.decodeN,xd zx,xd zx,xd zx,xj zx,xj zx];exact Prod.ext (by dsimp only;omega) rfl
def Yb2 (y:Nat): ¬ (y=65533/\(Lib.encodeRune (y:Int)).length=1):=by
 rintro⟨rfl,h⟩;revert h
 decide
def fM (l:List UInt8):Prop:= ∃ rs:Cg,(∀ y∈rs,Lib.validRune (y:Int)=true)/\l=rs.flatMap fun y:Nat=>Lib.encodeRune (y:Int)
def fM.snoc (h:fM l){y:Nat}(hy:Lib.validRune (y:Int)=true):fM (l++Lib.encodeRune (y:Int)):=by
 obtain⟨rs,h1,rfl⟩:=h;refine⟨rs++[y],fun z hz=>?_,zw⟩;rcases List.mem_append.mp hz with hz | hz
 .exact h1 z hz
 .rw[List.mem_singleton.mp hz];exact hy
def Zr2: ∀ (rs:Cg) (n:Nat),(∀ y∈rs,Lib.validRune (y:Int)=true)->Lib.validGoD n (rs.flatMap fun y:Nat=>Lib.encodeRune (y:Int))=true
 | rs,0,_=>rfl
 | [],n+1,_=>by rw[List.flatMap_nil,Lib.validGoD,xj rfl]
 | y::rs,n+1,h=>by
  rw[List.flatMap_cons,Lib.validGoD];split
  ·rfl
  ·rw[Yfp<|h y zw];dsimp only;rw[xd<|Yb2 y,List.drop_left];exact Zr2 rs n fun z hz=>h z (by simp[hz])
def fM.valid (h:fM l):Lib.validD l=true:=by
 obtain⟨rs,h1,rfl⟩:=h;exact Zr2 rs _ h1
def Zu5 (n b0 b1 b2 b3:Nat)(h0:b0<256):Lib.validRune (((Lib.decodeN n b0 b1 b2 b3).1:Nat):Int)=true:=by
 unfold Lib.decodeN Lib.validRune
 repeat' split
 all_goals (simp only[wA];omega)
def Zsj (s:Ay):Lib.validRune (((Lib.decodeGo s).1:Nat):Int)=true:=by
 unfold Lib.decodeGo;split
 .decide
 .rw[Lib.decode_at];exact Zu5 _ _ _ _ _<|UInt8.toNat_lt _
def Z5c {y:Nat}{x':Tk}(h:Tm t x p= .ok (y,x',q)):Lib.validRune (y:Int)=true:=by
 unfold Tm at h;split at h
 .rename_i z hz;cases h;have hm:=List.mem_of_find?_eq_some hz
  have: ∀ z∈Xy,Lib.validRune (z.2:Int)=true:=zu
  exact this z hm
 .split at h
  .unfold UY at h;split at h
   .cases h
   .split at h
    .rename_i hv;cases h;exact hv
    .cases h
  .cases h
def Zns: ∀ {f p:Nat} {acc s:List UInt8} {q:Nat},fM acc->JG t x f p acc= .ok (s,q)->fM s
 | 0,p,acc,s,q,_,h=>by cases h
 | f+1,p,acc,s,q,ha,h=>by
  rw[JG]at h;split at h
  ·cases h;exact ha
  split at h
  ·cases h
  split at h
  ·split at h
   ·cases h
   ·rename_i he;exact Zns (ha.snoc<|Z5c he) h
  ·split at h
   ·cases h
   ·exact Zns (ha.snoc<|Zsj _) h
def Zyx {bs:Cg}{ok:Nat->Bool}: ∀ {f p i:Nat},p<=i->i<Sr bs ok f p->ok (bs.getD i 0)=true
 | 0,p,i,h,h'=>by rw[Sr]at h';omega
 | f+1,p,i,h,h'=>by
  rw[Sr]at h';split at h'
  ·rename_i hc;rcases Nat.eq_or_lt_of_le h with rfl | hlt
   ·exact hc.2
   ·exact Zyx hlt h'
  ·omega
def XF (x:Tk):Prop:=(Nj x.text=true->IR x.text=true)/\(x.k=0\/x.k≠6/\x.k≠7/\Ih x.k x.i x.s 0=true/\x.s.size<=64)
def Zq8 (q:Nat):XF (KR q):=⟨fun h=>absurd (show Nj ⟨#[]⟩=true from h) zu,Or.inl rfl⟩
def Zw5 (hx:XF x)(h:Ue t x p= .ok (u,y,q)):XF y:=by
 unfold Ue at h;dsimp only at h;split at h
 .cases h
 .split at h
  .cases h
  .rename_i DK;cases h;refine⟨hx.1,Or.inr ⟨by show(4:Int)≠6;decide,by show(4:Int)≠7;decide,?_,?_⟩⟩
   .simp[Ih,UX]
   .show(WX _ _ _).toArray.size<=_;rw[GN,q9];omega
def Zt4 {qq k:Int}(hx:XF x)(hs:x.s.size=0)(hk:k=2\/k=5)(h:Ti t qq k x p= .ok (u,y,q)):XF y:=by
 unfold Ti at h;split at h
 .cases h
 .cases h;refine⟨hx.1,Or.inr ⟨?_,?_,?_,by dsimp only;omega⟩⟩
  .dsimp only;omega
  .dsimp only;omega
  .dsimp only;rcases hk with rfl | rfl <;> simp[Ih,UX,hs]
def Z5y (hp:p<t.size)(hl:SF ((Ac t).getD p 0)=true)(aW: ¬ 16<DT (Ac t) Gj p-p):IR (t.extract p<|DT (Ac t) Gj p)=true:=by
 have hle:=fZ (bs:=Ac t) (ok:=Gj) (p:=p) (by rw[wN];omega);rw[wN]at hle;have hgo:p<DT (Ac t) Gj p:=by
  rw[Z3y (by rw[wN];exact hp) (by unfold Gj;rw[hl];rfl)]
  have:=fZ (bs:=Ac t) (ok:=Gj) (p:=p+1) (by rw[wN];omega)
  omega
 have hsz:(t.extract p<|DT (Ac t) Gj p).size=DT (Ac t) Gj p-p:=by rw[YB];omega
 unfold IR;rw[hsz];simp only[wx,wA];refine⟨⟨fun i hi=>?_,zx⟩,zx⟩;unfold YG;rw[Zp6 hle.2 hi];rcases Nat.eq_zero_or_pos i with rfl | h0
 .rw[Qs,hl];rfl
 .have:=Zyx (bs:=Ac t) (ok:=Gj) (i:=p+i) (Nat.le_add_right _ _) (show p+i<DT (Ac t) Gj p by omega)
  simp only[Gj,Bool.or_eq_true,wA]at this;have Xd:i≠0:=zx
  simp only[Xd,Bool.or_eq_true,wx,wA,ne_eq,not_false_eq_true,true_and];rcases this with(h | h) | h
  .exact Or.inl h
  .exact Or.inr<|Or.inl h
  .exact Or.inr<|Or.inr h
def Zy2 (h:Ud t ((Ac t).getD p 0) p= .ok (u,y,q)):XF y:=by
 have hx:=Zq8 p;unfold Ud at h;split at h
 .rename_i hl;have hp:p<t.size:=qD fun h0=>by rw[h0]at hl;revert hl;decide
  unfold Xk at h;dsimp only at h;split at h
  .cases h
  .rename_i aW;split at h
   .exact Zw5 hx h
   .cases h;exact⟨fun _=>Z5y hp hl aW,Or.inl rfl⟩
 split at h
 .unfold Zd at h;dsimp only at h;split at h
  .cases h
  .split at h
   .cases h
   .rename_i aW hn;cases h;have aH:IR (t.extract (p+1)<|DT (Ac t) Gj<|p+1)=true:=by simpa using hn
    refine⟨hx.1,Or.inr ⟨by show(1:Int)≠6;decide,by show(1:Int)≠7;decide,by simp[Ih,UX,aH],?_⟩⟩
    have:(t.extract (p+1)<|DT (Ac t) Gj<|p+1).size<=16:=by
     unfold IR at aH;simp only[wx,wA]at aH;exact aH.2
    dsimp only;omega
 split at h
 .unfold O4 at h;split at h
  .cases h
  .rename_i s q' hq;split at h
   .cases h
   .rename_i DK;cases h;have hv:=(Zns ⟨[],zw,rfl⟩ hq).valid;refine⟨hx.1,Or.inr ⟨by show(3:Int)≠6;decide,by show(3:Int)≠7;decide,?_,?_⟩⟩
    .simp[Ih,UX,pV,hv]
    .show(List.toArray _).size<=_;rw[GN];omega
 split at h
 .exact Zt4 hx rfl (Or.inr rfl) h
 split at h
 .exact Zt4 hx rfl (Or.inl rfl) h
 .unfold Xg at h;split at h
  .cases h
  .rename_i m hm;cases h;have dW:=List.mem_of_find?_eq_some hm;have hall: ∀ m∈Rx,Nj m=false:=zu
   exact⟨fun h'=>(by have:=hall m dW;dsimp only at h';rw[this]at h';cases h'),Or.inl rfl⟩
def Zrm (h:Np t p= .ok (u,y,q)):XF y:=by
 unfold Np at h;split at h
 .cases h;exact Zq8 _
 .exact Zy2 h
def X8 {z:Tk}(h:En t x p= .ok (z,y,q)):XF y/\z=x:=by
 unfold En at h;split at h
 .cases h
 .rename_i hr;cases h;exact⟨Zrm hr,rfl⟩
def I7 {α β:Type}{m:Re α}{f:α->Tk->Nat->Re β}{z:β}(h:Bf m f= .ok (z,x,p)): ∃ y x' p',m= .ok (y,x',p')/\f y x' p'= .ok (z,x,p):=by
 unfold Bf at h;split at h
 .cases h
 .exact⟨_,_,_,rfl,h⟩
def wI {s:List UInt8}{z:Unit}(h:Nk t s x p= .ok (z,y,q)):XF y:=by
 unfold Nk at h;split at h
 .obtain⟨a,b,c,h1,h2⟩:=I7 h;cases h2;exact(X8 h1).1
 .cases h
end Go.W
