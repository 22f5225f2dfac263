import Derived.Test.YtpmcefkhkkpnbaaGreatDoorW07
set_option linter.all false
set_option maxRecDepth 100000
set_option maxHeartbeats 8000000
open Go.Proofs Go.RowKit Go.W Tryz
namespace Go.W
variable {w:Bb}{b p:Nat}{t:Ay}{x:Tk}{n:Int}
def gM {P:Program}{f:FuncId}{args:Ca}{n k:Nat}{v:Value}(h: ∀ w,Calls P f args w fun e w'=>e=uY v/\w'=w):
  Calls P f args (w.drewN<|n+k) fun e w''=>e=uY v/\ ∃ m,w''=w.drewN (n+m):=(h _).mono fun _ _ ⟨a,b⟩=>⟨a,k,b⟩
def Rd.next (h:Rd w b t p x)(hq:p<t.size):Rd (w.setCell (zm b 1)<|.int .i64<|(p:Int)+1) b t (p+1) x:=h.goes (q:=p+1) hq
def Wm (a:Nat->Addr) (n:Int) (at_ N:Nat) (e:Ending) (w:Bb):Prop:= ∃ L,N<=L/\e= .panicked [{v:= .iface 86<|zq L 0,recovered:=false}]/\AO w L #[zo (at_:Int),BG a n] 90
def Xw (a:Nat->Addr)(hn:n≠0)(p:Nat)(w:Bb):Calls prog 136 #[zo (p:Int),BG a n] w fun e w'=>Wm a n p w.heap.size e w'/\Bl w w':=by
 unfold Wm;rw[BU _ hn];go_in
 go_wp2_with fail
 exact⟨rfl,⟨_,EO _,rfl,AO.new _ _ _⟩,(AR _ w).alloc lr _⟩
def QM (a:Nat->Addr)(hn:n≠0)(h:Rd w b t p x):Calls prog 76 #[zq b 0,BG a n] w fun e w'=>Wm a n x.at_ w.heap.size e w'/\Bl w w':=by
 obtain⟨-,-,c2,-,-,-,-,-,sf⟩:=h.1.eight;have C:=AC<|Xw a hn x.at_;clear h;generalize BG a n=v at*;go_in
 go_wp2_with fail
 apply(C.o _).mono;rintro e w' ⟨⟨L,hL,rfl,hb⟩,hw⟩;exact⟨rfl,⟨L,hL,rfl,hb⟩,hw⟩
def Znj:rV 193 (fun c=>decide (c≠10)):=⟨EH func193 zt rfl,Zo9⟩
def Zh4:rV 194 Gj:=⟨EH func194 zt rfl,Ziz⟩
def Zx0:rV 131 G9:=⟨EH func131 zt rfl,Zk4⟩
def Z5r:rV 240 KX:=⟨EH func240 zt rfl,Zx2⟩
def Ye9 (b:Nat) (w:Bb) (t:Ay) (p:Nat) (x:Tk) (wr:Bb):Prop:= ∃ q,p<=q/\Rd wr b t q x/\Ad b w wr/\Nn (Ac t) q=Nn (Ac t) p
def Ydj (h:Rd w b t p x):
  Calls prog 126 #[zq b 0] w fun e w'=>e=uY (.tuple #[])/\Ad b w w'/\Rd w' b t (Nn (Ac t) p) x:=by
 go_in
 go_wp2
 go_loopw [5] (fun _ wr=>Ye9 b w t p x wr) (fun _ wr=>t.size-qA b wr)
 .exact⟨p,EO _,h,Ad.refl _ _,rfl⟩
 .obtain⟨q,hq,hR,hK,hE⟩:=hrel;clear h;have h3:=hR.2.2.1;have ht:=hR.2.1;have hM:=bM hR;obtain⟨c0,c1,-,-,-,-,-,-,sf⟩:=hR.1.eight;have HR:=AC hR;have HK:=AC hK;have HE:=AC hE;have hl:=Wy t;have S3:= @Z6j (Ac t) q;clear hR hK hE;by_cases hlt:q<t.size
  .have g:(q:Int)<(t.size:Int):=zx
   have hx:=ZQ t q hlt;have C:=AC<|Z0q<|(Ac t).getD q 0;have P:=AC fun u=>Znp (t.extract q t.size) ⟨#[47,47]⟩ u;rw[Z07 hlt]at P;have S1:=AC<|Z1h (bs:=Ac t) (p:=q) zx;have S2:=AC<|Z6i (bs:=Ac t) (p:=q);cases hb:Z7y ((Ac t).getD q 0)
   .rw[hb]at C;by_cases hn:q+1<t.size/\(Ac t).getD q 0=47/\(Ac t).getD (q+1) 0=47
    .rw[Nv hn]at P;have S:=AC<|S2.o hb (by rw[hl];exact hn);have hs:=AC<|Zrq (bs:=Ac t) (p:=q) zx hn.2.1;have CR:=AC fun u (hu:Rd u b t q x)=>p8 Znj hu;clear S1 S2 S3 hn hb;generalize (Ac t).getD q 0=c at*;go_wp2
     go_quiet (fail)
     go_wp2
     go_quiet ((go_at_call 190;first | exact Calls.quiet_of_same (C.o _) | exact gM C.o))
     go_wp2
     go_quiet ((go_at_call 191;first | exact Calls.quiet_of_same (P.o _) | exact gM P.o))
     go_wp2_with fail
     apply(CR.o _<|HR.o.dr _).mono;rintro e w1 ⟨rfl,hk,hr⟩;have hM1:=bM hr;have Dl:=AC hr;have IY:=AC<|(HK.o.dr _).trans hk;clear hk hr;go_wp2
     go_roundw
     .exact⟨_,fw (hs.o),Dl.o,IY.o,S.o.symm.trans HE.o⟩
     case measure=>
      have:=hs.o
      rw[hM,hM1];omega
    .rw[I8 hn]at P;have E:AF (Nn (Ac t) p=q):=⟨HE.o.symm.trans<|S3 (fun z=>by rw[show jd ((Ac t).getD q 0)=false from hb]at z;cases z.2) (by rw[hl];exact hn)⟩;clear S1 S2 S3 hn hb;generalize (Ac t).getD q 0=c at*;go_wp2
     go_quiet (fail)
     go_wp2
     go_quiet ((go_at_call 190;first | exact Calls.quiet_of_same (C.o _) | exact gM C.o))
     go_wp2
     go_quiet ((go_at_call 191;first | exact Calls.quiet_of_same (P.o _) | exact gM P.o))
     go_wp2
     refine Bg (by simp[results,results126,go_sem];try rfl) rfl ?_;rw[E.o];exact⟨rfl,((HK.o.dr _).dr _).dr _,HR.o⟩
   .rw[hb]at C;have S:=AC<|S1.o hb;clear S1 S2 S3 P hb;generalize (Ac t).getD q 0=c at*;go_wp2
    go_quiet (fail)
    go_wp2
    go_quiet ((go_at_call 190;first | exact Calls.quiet_of_same (C.o _) | exact gM C.o))
    go_wp2
    go_roundw
    .exact⟨q+1,zx,(HR.o.dr _).next hlt,(HK.o.dr _).set _ _,S.o.symm.trans HE.o⟩
    case measure=>
     rw[hM,bM<|(HR.o.dr _).next hlt];omega
  .obtain rfl:q=t.size:=zx
   have E:AF (Nn (Ac t) p=t.size):=⟨HE.o.symm.trans<|S3 zx zx⟩;go_wp2
   go_quiet (fail)
   go_wp2_with fail
   rw[E.o];exact⟨rfl,_,(by simp[results,results126,go_sem];try rfl),rfl,HK.o.dr _,HR.o.dr _⟩
def Zd (t:Ay) (x:Tk) (p:Nat):Except (Int×Nat) (Unit×Tk×Nat):=
 let q:=DT (Ac t) Gj (p+1)
 if 16<q-(p+1)then .error (4,x.at_)else if IR (t.extract (p+1) q)=false then .error (1,x.at_)else .ok ((),{x with k:=1,i:=0,s:=t.extract (p+1) q},q)
def Rd.term (h:Rd w b t p x)(k i:Int)(s:Ay):Rd ((((w.setCell (zm b 4)<|zo k).setCell (zm b 5)<|zo i).setCell (zm b 6)<|um s).setCell (zm b 7)<|zn) b t p {x with k:=k,i:=i,s:=s}:=⟨(((h.1.set 4 _).set 5 _).set 6 _).set 7 _,h.2⟩
def Rd.text (h:Rd w b t p x)(s:Ay):Rd (w.setCell (zm b 3)<|um s) b t p {x with text:=s}:=⟨h.1.set 3 _,h.2⟩
def _root_.Go.W.Ad.term {w0:Bb}{v4 v5 v6 v7:Value}(h:Ad b w0 w):Ad b w0 ((((w.setCell (zm b 4) v4).setCell (zm b 5) v5).setCell (zm b 6) v6).setCell (zm b 7) v7):=(((h.set _ _).set _ _).set _ _).set _ _
def JO {α:Type} (a:Nat->Addr) (b:Nat) (t:Ay) (V:Bb->Value->α->Prop) (w:Bb) (Y:Except (Int×Nat) (α×Tk×Nat)) (e:Ending) (w':Bb):Prop:=
 Ad b w w'/\((∃ n p,Y= .error (n,p)/\n≠0/\Wm a n p w.heap.size e w')\/ ∃ v y x q,Y= .ok (y,x,q)/\e=uY v/\V w' v y/\Rd w' b t q x)
def VU (_:Bb) (v:Value) (_:Unit):Prop:=v= .tuple #[]
def Zpa {a:Nat->Addr}(Z:AZ a w)(h:Rd w b t p x)(hp:p<t.size):
  Calls prog 129 #[zq b 0] w (JO a b t VU w<|Zd t x p):=by
 have ht:=h.2.1;have hg:=h.2.2.2;obtain⟨c0,c1,-,-,-,-,-,-,sf⟩:=h.1.eight;have HN:=AC<|h.next hp;have CR:=AC<|p8 Zh4<|h.next hp;have hl:=Wy t;have hs:=fZ (bs:=Ac t) (ok:=Gj) (p:=p+1) zx;have F:AF (Zd t x p=if 16<DT (Ac t) Gj (p+1)-(p+1)then .error (4,x.at_)else if IR (t.extract (p+1)<|DT (Ac t) Gj<|p+1)=false then .error (1,x.at_)else .ok ((),{x with k:=1,i:=0,s:=t.extract (p+1) (DT (Ac t) Gj<|p+1)},DT (Ac t) Gj<|p+1)):=⟨rfl⟩;generalize DT (Ac t) Gj (p+1)=q at*;have hz:(t.extract (p+1) q).size=q-(p+1):=by rw[YB];omega
 generalize t.extract (p+1) q=s at*;have ZZ:=AC Z;have lC:=AC<|(Ad.refl b w).set 1<|.int .i64<|(p:Int)+1;clear h Z;go_in
 go_wp2_with fail
 apply mq CR.o;rintro w1 ⟨hk,hr⟩;have ZA:=AC<|ZZ.o.keeps (lC.o.trans hk) hg;have HK:=AC<|lC.o.trans hk;have HR:=AC hr;obtain⟨d0,d1,-,-,-,-,-,-,sf1⟩:=hr.1.eight;have C1:=AC fun n (hn:n≠0)=>QM a hn hr;have C2:=AC fun u=>Zni s u zx;have C3:=AC fun u=>uu s u zx;have z4:=ZA.o.c4;have z1:=ZA.o.c1;clear hk hr CR HN c0 c1 sf ZZ lC;by_cases aW:16<s.size
 .have g:(16:Int)<(s.size:Int):=zx
  have Y:AF (Zd t x p= .error (4,x.at_)):=⟨by rw[F.o,xj zx]⟩;go_wp2_with fail
  apply(C1.o 4 zu).mono;rintro e w2 ⟨⟨L,hL,rfl,hB⟩,hb⟩;exact⟨rfl,HK.o.AU hb,Or.inl ⟨4,_,Y.o,zu,L,Ab HK.o.size hL,rfl,hB⟩⟩
 .have g: ¬ (16:Int)<(s.size:Int):=zx
  clear C1 z4;go_wp2_with fail
  apply(C2.o _).mono;rintro e w2 ⟨rfl,hb⟩;have hr2:=HR.o.of hb;have z1:=Cb z1 hb;have JV:=AC<|HK.o.AU hb;have Ao:=AC hr2;have C1:=AC<|QM a (n:=1) zu hr2;obtain⟨d0,d1,-,-,-,-,-,-,XU⟩:=hr2.1.eight;clear sf1 hr2 hb;cases hn:IR s
  .have Y:AF (Zd t x p= .error (1,x.at_)):=⟨by rw[F.o,xd zx,xj hn]⟩;go_wp2_with fail
   apply C1.o.mono;rintro e w3 ⟨⟨L,hL,rfl,hB⟩,hb⟩;exact⟨rfl,JV.o.AU hb,Or.inl ⟨1,_,Y.o,zu,L,Ab JV.o.size hL,rfl,hB⟩⟩
  .have Y:AF (Zd t x p= .ok ((),{x with k:=1,i:=0,s:=s},q)):=⟨by rw[F.o,xd zx,xd (by rw[hn];simp)]⟩;clear C1 z1;go_wp2_with fail
   apply(C3.o _).mono;rintro e w3 ⟨rfl,hb⟩;have hr3:=Ao.o.of hb;have ER:=AC<|JV.o.AU hb;have Dn:=AC hr3;obtain⟨e0,e1,-,-,e4,e5,e6,e7,sf3⟩:=hr3.1.eight;clear XU hr3 hb d0 d1;go_wp2_with fail
   exact⟨rfl,_,(by simp[results,results129,go_sem];try rfl),ER.o.term,Or.inr ⟨_,_,_,_,Y.o,rfl,rfl,Dn.o.term 1 0 s⟩⟩
def WX (bs:Cg):Nat->Nat->List UInt8
 | 0,_=>[]
 | n+1,p=>UInt8.ofNat (16*QI (bs.getD p 0)+QI (bs.getD (p+1) 0))::WX bs n (p+2)
def Ue (t:Ay) (x:Tk) (p:Nat):Except (Int×Nat) (Unit×Tk×Nat):=
 let q:=DT (Ac t) KX p
 if(q-p) % 2≠0 then .error (1,x.at_)else if 64<(q-p) / 2 then .error (4,x.at_)else .ok ((),{x with k:=4,i:=0,s:=⟨(WX (Ac t) ((q-p) / 2) p).toArray⟩},q)
def Xk (t:Ay) (x:Tk) (p:Nat):Except (Int×Nat) (Unit×Tk×Nat):=
 let q:=DT (Ac t) Gj p
 if 16<q-p then .error (4,x.at_)else if(t.extract p q).toList=[104,101,120]/\(Ac t).getD q 0=58 then Ue t x (q+1)else .ok ((),{x with text:=t.extract p q},q)
def Yf2 {t:Ay}{q:Nat}(h:(Ac t).getD q 0=58):q<t.size:=by
 rcases Qp q t.size with g | g
 .exact g
 .simp[List.getD,Wy,g]at h
def Zpu:Prop:= ∀ {a:Nat->Addr} {w:Bb} {b:Nat} {t:Ay} {p:Nat} {x:Tk},AZ a w->Rd w b t p x->Calls prog 196 #[zq b 0] w (JO a b t VU w<|Ue t x p)
def Zyr (RB:Zpu){a:Nat->Addr}{w:Bb}{b:Nat}{t:Ay}{p:Nat}{x:Tk}(Z:AZ a w)(h:Rd w b t p x):
  Calls prog 128 #[zq b 0] w (JO a b t VU w<|Xk t x p):=by
 have ht:=h.2.1;have hg:=h.2.2.2;have hp:=h.2.2.1;have CR:=AC<|p8 Zh4 h;have hl:=Wy t;have hs:=fZ (bs:=Ac t) (ok:=Gj) (p:=p) zx;have F:AF (Xk t x p=if 16<DT (Ac t) Gj p-p then .error (4,x.at_)else if(t.extract p<|DT (Ac t) Gj p).toList=[104,101,120]/\(Ac t).getD (DT (Ac t) Gj p) 0=58 then Ue t x (DT (Ac t) Gj p+1)else .ok ((),{x with text:=t.extract p (DT (Ac t) Gj p)},DT (Ac t) Gj p)):=⟨rfl⟩;generalize DT (Ac t) Gj p=q at*;have hz:(t.extract p q).size=q-p:=by rw[YB];omega
 generalize t.extract p q=s at*;have ZZ:=AC Z;clear h Z;go_in
 go_wp2_with fail
 apply mq CR.o;rintro w1 ⟨hk,hr⟩;have ZA:=AC<|ZZ.o.keeps hk hg;have HK:=AC hk;have HR:=AC hr;have C1:=AC fun n (hn:n≠0)=>QM a hn hr;have C2:=AC fun u (hu:Rd u b t q x)=>qK hu;have C3:=AC fun u=>uu s u zx;have z4:=ZA.o.c4;clear hk hr CR ZZ;by_cases aW:16<s.size
 .have g:(16:Int)<(s.size:Int):=zx
  have Y:AF (Xk t x p= .error (4,x.at_)):=⟨by rw[F.o,xj zx]⟩;go_wp2_with fail
  apply(C1.o 4 zu).mono;rintro e w2 ⟨⟨L,hL,rfl,hB⟩,hb⟩;exact⟨rfl,HK.o.AU hb,Or.inl ⟨4,_,Y.o,zu,L,Ab HK.o.size hL,rfl,hB⟩⟩
 .have g: ¬ (16:Int)<(s.size:Int):=zx
  clear C1 z4;by_cases hx:s.toList=[104,101,120]
  .go_wp2_with fail
   apply(C2.o _ HR.o).mono;rintro e w2 ⟨rfl,hb⟩;have hr2:=HR.o.of hb;have ZB:=AC<|ZA.o.be hb;have JV:=AC<|HK.o.AU hb;have Ao:=AC hr2;obtain⟨d0,d1,-,d3,-,-,-,-,XU⟩:=hr2.1.eight;clear hr2 hb;have LT:=AC<|Yf2 (t:=t) (q:=q);generalize (Ac t).getD q 0=c at*;by_cases hc:c=58
   .have Y:AF (Xk t x p=Ue t x (q+1)):=⟨by rw[F.o,xd zx,xj ⟨hx,hc⟩]⟩;have hq:=LT.o hc;have g2:((c:Int)==58)=true:=by rw[DR];omega
    have RB':=AC fun u (h1:AZ a u) (h2:Rd u b t (q+1) x)=>RB h1 h2;clear hc F LT RB;go_wp2_with fail
    apply(RB'.o _ (ZB.o.keeps ((Ad.refl b w2).set _ _) hg)<|Ao.o.next hq).mono;rintro e w3 ⟨hk3,⟨n,r,hy,hn,L,hL,rfl,hB⟩ | ⟨v,y,x2,r,hy,rfl,hv,hr3⟩⟩
    .exact⟨rfl,(JV.o.set _ _).trans hk3,Or.inl ⟨n,r,Y.o.trans hy,hn,L,by have:=JV.o.size;simp at hL;omega,rfl,hB⟩⟩
    .obtain rfl:v= .tuple #[]:=hv;have R:=AC<|AJ ((JV.o.set 1<|.int .i64<|(q:Int)+1).trans hk3)<|AJ (Y.o.trans hy) hr3;clear hk3 hy hr3;go_wp2
     refine Bg (by simp[results,results128,go_sem];try rfl) rfl ?_;exact⟨R.o.1,Or.inr ⟨_,_,_,_,R.o.2.1,rfl,rfl,R.o.2.2⟩⟩
   .have Y:AF (Xk t x p= .ok ((),{x with text:=s},q)):=⟨by rw[F.o,xd zx,xd fun z=>hc z.2]⟩;have g2:((c:Int)==58)=false:=zj
    clear hc F LT RB;go_wp2_with fail
    apply(C3.o _).mono;rintro e w3 ⟨rfl,hb⟩;have hr3:=Ao.o.of hb;have ER:=AC<|JV.o.AU hb;have Dn:=AC hr3;clear d0 d1 d3 XU;obtain⟨d0,d1,-,d3,-,-,-,-,sf3⟩:=hr3.1.eight;clear hr3 hb;go_wp2_with fail
    exact⟨rfl,_,(by simp[results,results128,go_sem];try rfl),ER.o.set _ _,Or.inr ⟨_,_,_,_,Y.o,rfl,rfl,Dn.o.text s⟩⟩
  .have Y:AF (Xk t x p= .ok ((),{x with text:=s},q)):=⟨by rw[F.o,xd zx,xd fun z=>hx z.1]⟩;go_wp2_with fail
   apply(C3.o _).mono;rintro e w3 ⟨rfl,hb⟩;have hr3:=HR.o.of hb;have ER:=AC<|HK.o.AU hb;have Dn:=AC hr3;obtain⟨d0,d1,-,d3,-,-,-,-,sf3⟩:=hr3.1.eight;clear hr3 hb;go_wp2_with fail
   exact⟨rfl,_,(by simp[results,results128,go_sem];try rfl),ER.o.set _ _,Or.inr ⟨_,_,_,_,Y.o,rfl,rfl,Dn.o.text s⟩⟩
def Sz (bs:Cg) (at_:Nat):Nat->Nat->Nat->Except (Int×Nat) (Nat×Nat)
 | 0,v,p=> .ok (v,p)
 | f+1,v,p=>if KX (bs.getD p 0)=true then Sz bs at_ f (16*v+QI (bs.getD p 0)) (p+1)else .error (1,at_)
def UY (t:Ay) (x:Tk) (p:Nat):Except (Int×Nat) (Nat×Tk×Nat):=match Sz (Ac t) x.at_ 4 0 p with
 | .error e=> .error e
 | .ok (v,q)=>if Lib.validRune (v:Int)=true then .ok (v,x,q)else .error (1,x.at_)
def Z4v {bs:Cg}{at_ f v p:Nat}:(KX (bs.getD p 0)=true->Sz bs at_ (f+1) v p=Sz bs at_ f (16*v+QI (bs.getD p 0)) (p+1))/\(KX (bs.getD p 0)=false->Sz bs at_ (f+1) v p= .error (1,at_)):=
 ⟨fun h=>by rw[Sz,xj h],fun h=>by rw[Sz,xd (by rw[h];simp)]⟩
def Yik (a b:Nat)(ha:a<2147483648)(hb:b<2147483648):bits .or .i32 (a:Int) (b:Int)=((a ||| b:Nat):Int):=by
 have hx:a ||| b<2 ^ 31:=Nat.or_lt_two_pow zx zx;show IntKind.i32.wrap ((BitVec.ofInt 32 (a:Int) ||| BitVec.ofInt 32 (b:Int)).toNat:Int)=_;rw[BitVec.toNat_or,ofInt_u32 a zx,ofInt_u32 b zx,IntKind.wrap_i32];omega
def Z8g (v h:Nat)(hv:v<4096)(hh:h<16):bits .or .i32 ((v:Int)*16) (h:Int)=((16*v+h:Nat):Int):=by
 have e:((v:Int)*16)=((16*v:Nat):Int):=zx
 rw[e,Yik _ _ zx zx,nat_join 4 (16*v) h zx zx]
def qY {c:Nat}(h:KX c=true):QI c<16:=by
 simp[KX,G9]at h;unfold QI G9;split <;> simp_all <;> omega
def Ye1 (b:Nat) (w:Bb) (t:Ay) (p:Nat) (x:Tk) (cv iv:Value) (wr:Bb):Prop:= ∃ k v q:Nat,k<=4/\v<16 ^ k/\cv= .int .i32 (v:Int)/\iv= zo ((k:Nat):Int)/\Rd wr b t q x/\Ad b w wr/\Sz (Ac t) x.at_ (4-k) v q=Sz (Ac t) x.at_ 4 0 p
def Td (v:Value):Nat:=match v with
 | .int _ i=>i.toNat
 | _=>0
def Znt {a:Nat->Addr}{w:Bb}{b:Nat}{t:Ay}{p:Nat}{x:Tk}(Z:AZ a w)(h:Rd w b t p x):
  Calls prog 243 #[zq b 0] w (JO a b t (fun _ v (y:Nat)=>v= .int .i32 (y:Int)/\Lib.validRune (y:Int)=true/\y<65536) w<|UY t x p):=by
 have hg:=h.2.2.2;go_in
 go_wp2
 go_loopw [3,4] (fun cv iv wr=>Ye1 b w t p x cv iv wr) (fun _ iv _=>4-Td iv)
 .exact⟨0,0,p,zx,zu,rfl,rfl,h,Ad.refl _ _,rfl⟩
 .obtain⟨k,v,q,hk,hv,rfl,rfl,hR,hK,hE⟩:=hrel;have ZA:=AC<|Z.keeps hK hg;have HR:=AC hR;have HK:=AC hK;have HE:=AC hE;by_cases hlt:k<4
  .have g:(k:Int)<4:=zx
   have hv3:v<4096:=by
    have:16 ^ k<=16 ^ 3:=wi zx zx
    omega
   have hv4:16*v<16 ^ (k+1):=by rw[Nat.pow_succ];omega
   have CP:=AC fun u (hu:Rd u b t q x)=>qK hu;have S:=Z4v (bs:=Ac t) (at_:=x.at_) (f:=4-(k+1)) (v:=v) (p:=q);rw[show 4-(k+1)+1=4-k by omega]at S;have h3:=hR.2.2.1;have tK:KX ((Ac t).getD q 0)=true->q<t.size:=fun hh=>by
    rcases Qp q t.size with g | g
    .exact g
    .rw[show(Ac t).getD q 0=0 by simp[List.getD,Wy,g]]at hh;cases hh
   have SS:=AC S;have HX:=AC fun h=>qY (c:=(Ac t).getD q 0) h;have CH:=AC<|Zx2<|(Ac t).getD q 0;have CV:=AC<|Zob<|(Ac t).getD q 0;have UM:=AC tK;clear tK S hR hK hE Z h;generalize (Ac t).getD q 0=c at*;go_wp2_with fail
   apply(CP.o _ HR.o).mono;rintro e w1 ⟨rfl,hb1⟩;have Dl:=AC<|HR.o.of hb1;have IY:=AC<|HK.o.AU hb1;have ZB:=AC<|ZA.o.be hb1;clear hb1;cases hh:KX c
   .rw[hh]at CH;have Y:AF (UY t x p= .error (1,x.at_)):=⟨by unfold UY;rw[<- HE.o,SS.o.2 hh]⟩;have z1:=ZB.o.c1;have C1:=AC<|QM a (n:=1) zu Dl.o;go_wp2_with (go_at_call 240;apply(CH.o _).mono;rintro e w' ⟨rfl,rfl⟩)
    apply C1.o.mono;rintro e w2 ⟨⟨L,hL,rfl,hB⟩,hb⟩;exact⟨rfl,IY.o.AU hb,Or.inl ⟨1,_,Y.o,zu,L,Ab IY.o.size hL,rfl,hB⟩⟩
   .rw[hh]at CH;have hx:=HX.o hh;have hq:=UM.o hh;have CV1:=AC fun u=>CV.o hh u;have E1:=AC<|SS.o.1 hh;have J:=AC<|Z8g v (QI c) hv3 hx;have H7:=Dl.o.2.1;have hq8:q<8000:=zx
    clear SS HX CV hh UM;go_wp2_with (go_at_call 240;apply(CH.o _).mono;rintro e w' ⟨rfl,rfl⟩)
    apply(CP.o _ Dl.o).mono;rintro e w2 ⟨rfl,hb2⟩;have hr2:=Dl.o.of hb2;have Ao:=AC hr2;have JV:=AC<|IY.o.AU hb2;obtain⟨d0,d1,-,-,-,-,-,-,XU⟩:=hr2.1.eight;clear hr2 hb2;generalize QI c=d at*;go_wp2_with (go_at_call 241;apply(CV1.o _).mono;rintro e w' ⟨rfl,rfl⟩)
    refine⟨⟨k+1,16*v+d,q+1,zx,by rw[Nat.pow_succ]at hv4⊢;omega,by rw[J.o],zw,Ao.o.next hq,JV.o.set _ _,E1.o.symm.trans HE.o⟩,by simp[Td];omega⟩
  .obtain rfl:k=4:=zx
   have C0:=AC fun u=>Zwg (v:Int) u;have z1:=ZA.o.c1;have C1:=AC<|QM a (n:=1) zu HR.o;have hv4:v<65536:=hv;have E:AF (Sz (Ac t) x.at_ 4 0 p= .ok (v,q)):=⟨HE.o.symm⟩;clear hR hK hE HE Z h hv;cases hr:Lib.validRune (v:Int)
   .rw[hr]at C0;have Y:AF (UY t x p= .error (1,x.at_)):=⟨by unfold UY;rw[E.o];simp[hr]⟩;go_wp2_with (go_at_call 266;apply(C0.o _).mono;rintro e w' ⟨rfl,rfl⟩)
    apply C1.o.mono;rintro e w2 ⟨⟨L,hL,rfl,hB⟩,hb⟩;exact⟨rfl,HK.o.AU hb,Or.inl ⟨1,_,Y.o,zu,L,Ab HK.o.size hL,rfl,hB⟩⟩
   .rw[hr]at C0;have Y:AF (UY t x p= .ok (v,x,q)):=⟨by unfold UY;rw[E.o];simp[hr]⟩;go_wp2_with (go_at_call 266;apply(C0.o _).mono;rintro e w' ⟨rfl,rfl⟩)
    go_ret
    exact⟨HK.o,Or.inr ⟨_,v,x,q,Y.o,rfl,⟨zw,hr,hv4⟩,HR.o⟩⟩
def Xy:List (Nat×Nat):=[(34,34),(92,92),(110,10),(116,9),(114,13)]
def Tm (t:Ay) (x:Tk) (p:Nat):Except (Int×Nat) (Nat×Tk×Nat):=match Xy.find? (fun y=>decide (y.1=(Ac t).getD p 0))with
 | some y=> .ok (y.2,x,p+1)
 | none=>if(Ac t).getD p 0=117 then UY t x (p+1)else .error (1,x.at_)
def Yif {k:Nat}{y:Nat×Nat}(hk:Xy[k]?=some y)(h0: ∀ j y',j<k->Xy[j]?=some y'->y'.1≠(Ac t).getD p 0)(h1:y.1=(Ac t).getD p 0):Tm t x p= .ok (y.2,x,p+1):=by
 have:Xy.find? (fun y=>decide (y.1=(Ac t).getD p 0))=some y:=by
  rw[List.find?_eq_some_iff_getElem];refine⟨Nv h1,k,(DW.1 hk).1,(DW.1 hk).2,?_⟩;intro j hj;rw[I8<|h0 j _ hj<|A8 _];rfl
 unfold Tm;rw[this]
def Yig (h0: ∀ j y',j<5->Xy[j]?=some y'->y'.1≠(Ac t).getD p 0):Tm t x p=if(Ac t).getD p 0=117 then UY t x (p+1)else .error (1,x.at_):=by
 have:Xy.find? (fun y=>decide (y.1=(Ac t).getD p 0))=none:=by
  rw[List.find?_eq_none];intro m hm;obtain⟨j,hj,rfl⟩:=List.getElem_of_mem hm;rw[I8<|h0 j _ hj<|A8 _];simp
 unfold Tm;rw[this]
def Z6g {m:Nat}(h:m<128):Lib.validRune (m:Int)=true:=by
 simp[Lib.validRune];omega
def qD {q:Nat}(h:(Ac t).getD q 0≠0):q<t.size:=by
 rcases Qp q t.size with g | g
 .exact g
 .exact absurd (by simp[List.getD,Wy,g]) h
variable {a:Nat->Addr}
def AZ.esc (h:AZ a w)(i:Nat)(c:Nat)(hs:xE[i]?=some c):w.cell? (zm 14 i)=some (yS (c:Int)):=by
 obtain⟨_,h0,h1⟩:=h;exact(h1 _ _ zu).2.trans<|h0.esc i c hs
def Yb6 (k:Nat)(h:k<5): ∃ y:Nat×Nat,Xy[k]?=some y/\y.1≠0/\y.1<128/\y.2<128/\ ∀ w,(Instr.index 383 (.agg #[yS 34,yS 34,yS 92,yS 92,yS 110,yS 10,yS 116,yS 9,yS 114,yS 13])<|zo (k:Int)).run prog w= .ok (.agg #[yS (y.1:Int),yS (y.2:Int)]) w:=by
 have g:k=0\/k=1\/k=2\/k=3\/k=4:=zx
 rcases g with rfl | rfl | rfl | rfl | rfl;all_goals exact⟨_,rfl,zu,zu,zu,fun _=>zt⟩
def Rd.alloc (h:Rd w b t p x)(o:Obj):Rd (w.alloc o) b t p x:=⟨h.1.alloc o,h.2⟩
def Yhi (b:Nat) (w:Bb) (t:Ay) (p:Nat) (x:Tk) (iv:Value) (wr:Bb):Prop:= ∃ k:Nat,k<=5/\iv= zo (k:Int)/\Rd wr b t p x/\Ad b w wr/\ ∀ j y',j<k->Xy[j]?=some y'->y'.1≠(Ac t).getD p 0
def Zsu (Z:AZ a w)(h:Rd w b t p x):
  Calls prog 198 #[zq b 0] w (JO a b t (fun _ v (y:Nat)=>v= .int .i32 (y:Int)/\Lib.validRune (y:Int)=true/\y<65536) w<|Tm t x p):=by
 have hg:=h.2.2.2;have m0:=Z.esc 0 _ rfl;have m1:=Z.esc 1 _ rfl;have m2:=Z.esc 2 _ rfl;have m3:=Z.esc 3 _ rfl;have m4:=Z.esc 4 _ rfl;have m5:=Z.esc 5 _ rfl;have m6:=Z.esc 6 _ rfl;have m7:=Z.esc 7 _ rfl;have m8:=Z.esc 8 _ rfl;have m9:=Z.esc 9 _ rfl;go_in
 go_wp2_with fail
 clear m0 m1 m2 m3 m4 m5 m6 m7 m8 m9;go_loopw [6] (fun iv wr=>Yhi b w t p x iv wr) (fun iv _=>5-Td iv)
 .exact⟨0,zx,rfl,h,Ad.refl _ _,fun j _ hj=>absurd hj zx⟩
 .obtain⟨k,hk,rfl,hR,hK,hall⟩:=hrel;have HR:=AC hR;have HK:=AC hK;have ZA:=AC<|Z.keeps hK hg;have A:=AC hall;have hbl:=hR.1.lt;clear hall hR hK Z h;by_cases hlt:k<5
  .obtain⟨y,hy,y0,y1,y2,ik⟩:=Yb6 k hlt;have g:(k:Int)<5:=zx
   have CP:=AC fun n=>Z05 ((HR.o.alloc<|.cells #[yS (y.1:Int),yS (y.2:Int)] 382).dr n);have BL:=AC<|AO.new wr #[yS (y.1:Int),yS (y.2:Int)] 382;have l0:(wr.alloc<|.cells #[yS (y.1:Int),yS (y.2:Int)] 382).cell? (zm wr.heap.size 0)=some (yS (y.1:Int)):=BL.o.two.1;have l1:(wr.alloc<|.cells #[yS (y.1:Int),yS (y.2:Int)] 382).cell? (zm wr.heap.size 1)=some (yS (y.2:Int)):=BL.o.two.2.1;have Tz:=AC<|HR.o.alloc<|.cells #[yS (y.1:Int),yS (y.2:Int)] 382;obtain⟨c0,c1,-,-,-,-,-,-,sf⟩:=Tz.o.1.eight;have GV:=HR.o.2.1;have GI:=AC<|qD (t:=t) (q:=p);have E:=AC fun(h1:y.1=(Ac t).getD p 0)=>Yif (x:=x) hy A.o h1;have NX:=AC fun(h1:y.1≠(Ac t).getD p 0)=>(fun j y' hj Lx=>by
    by_cases hjk:j=k
    .subst hjk;rw[hy]at Lx;cases Lx;exact h1
    .exact A.o j y' zx Lx: ∀ j y',j<k+1->Xy[j]?=some y'->y'.1≠(Ac t).getD p 0)
   clear A hy;obtain⟨l,m⟩:=y;simp only at y0 y1 y2 ik CP BL l0 l1 Tz c0 c1 sf E NX;generalize hc:(Ac t).getD p 0=c at*;by_cases he:l=c
   .have g2:((l:Int)==(c:Int))=true:=by rw[DR];omega
    have Y:=AC<|E.o he;have hp:=GI.o zx;clear E NX GI he hc;go_wp2
    go_quiet ((go_at_call 195;exact Calls.quiet_of<|CP.o _))
    go_wp2
    go_ret
    exact⟨((HK.o.alloc _).dr _).set _ _,Or.inr ⟨_,m,x,p+1,Y.o,rfl,⟨zw,Z6g y2,zx⟩,(Tz.o.dr _).next hp⟩⟩
   .have g2:((l:Int)==(c:Int))=false:=zj
    have NN:=AC<|NX.o he;clear E NX GI he;go_wp2
    go_quiet ((go_at_call 195;exact Calls.quiet_of<|CP.o _))
    go_wp2
    exact⟨⟨k+1,zx,zw,Tz.o.dr _,(HK.o.alloc _).dr _,by rw[hc];exact NN.o⟩,by simp[Td];omega⟩
  .obtain rfl:k=5:=zx
   have Y:=AC<|Yig (x:=x) A.o;have CP:=AC<|qK HR.o;have GI:=AC<|qD (t:=t) (q:=p);generalize (Ac t).getD p 0=c at*;clear A;go_wp2_with fail
   apply mq CP.o;rintro w1 hb;have hr1:=HR.o.of hb;have Dl:=AC hr1;have IY:=AC<|HK.o.AU hb;have ZB:=AC<|ZA.o.be hb;obtain⟨c0,c1,-,-,-,-,-,-,sf⟩:=hr1.1.eight;clear hb hr1;by_cases hu:c=117
   .have g2:((c:Int) != 117)=false:=by rw[bne_eq_false_iff_eq];omega
    have Y2:=AC<|Y.o.trans<|xj hu;have hp:=GI.o zx;have GV:=Dl.o.2.1;have CC:=AC fun u (h1:AZ a u) (h2:Rd u b t (p+1) x)=>Znt h1 h2;clear Y GI hu;go_wp2_with fail
    apply(CC.o _ (ZB.o.keeps ((Ad.refl b w1).set _ _) hg)<|Dl.o.next hp).mono;rintro e w3 ⟨hk3,⟨n,r,hy,hn,L,hL,rfl,hB⟩ | ⟨v,y,x2,r,hy,rfl,⟨rfl,hv⟩,hr3⟩⟩
    .exact⟨rfl,(IY.o.set _ _).trans hk3,Or.inl ⟨n,r,Y2.o.trans hy,hn,L,by have:=IY.o.size;simp at hL;omega,rfl,hB⟩⟩
    .have R:=AC<|AJ ((IY.o.set 1<|.int .i64<|(p:Int)+1).trans hk3)<|AJ (Y2.o.trans hy) hr3;clear hk3 hy hr3;go_wp2
     go_ret
     exact⟨R.o.1,Or.inr ⟨_,_,_,_,R.o.2.1,rfl,⟨zw,hv⟩,R.o.2.2⟩⟩
   .have g2:((c:Int) != 117)=true:=by rw[bne_iff_ne];omega
    have Y2:=AC<|Y.o.trans<|xd hu;have z1:=ZB.o.c1;have C1:=AC<|QM a (n:=1) zu Dl.o;clear Y GI hu;go_wp2_with fail
    apply C1.o.mono;rintro e w2 ⟨⟨L,hL,rfl,hB⟩,hb⟩;exact⟨rfl,IY.o.AU hb,Or.inl ⟨1,_,Y2.o,zu,L,Ab IY.o.size hL,rfl,hB⟩⟩
end Go.W
