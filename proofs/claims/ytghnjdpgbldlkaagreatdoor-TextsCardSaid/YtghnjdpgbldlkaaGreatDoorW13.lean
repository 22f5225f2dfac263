import Derived.Test.YtghnjdpgbldlkaaGreatDoorW12
import Derived.Laws.MakeOwn
import Derived.Laws.BytesArg
set_option linter.defProp false
set_option maxRecDepth 100000
set_option maxHeartbeats 8000000
set_option linter.unusedSimpArgs false
open Go.Proofs Go.RowKit Go.W Tryz
namespace Go.P
variable {w:World}{b p:Nat}{t:ByteArray}{x:Tk}{n:Int}
def Zk {P:Program}{f:FuncId}{args:Array Value}{n k:Nat}{v:Value}(h: ∀ w,Calls P f args w fun e w'=>e= .returned v/\w'=w):
  Calls P f args (w.drewN<|n+k) fun e w''=>e= .returned v/\ ∃ m,w''=w.drewN (n+m):=(h _).mono fun _ _ ⟨a,b⟩=>⟨a,k,b⟩
def Rd.next (h:Rd w b t p x)(hq:p<t.size):Rd (w.setCell ⟨b,1,none⟩<|.int .i64<|(p:Int)+1) b t (p+1) x:=h.goes (q:=p+1) hq
def Tm (a:Nat->Addr) (n:Int) (at_ N:Nat) (e:Ending) (w:World):Prop:= ∃ L,N<=L/\e= .panicked [{v:= .iface 83<|.pointer<|Qb L 0,recovered:=false}]/\AJ w L #[.int .i64 (at_:Int),BS a n] 87
def Ut (a:Nat->Addr)(hn:n≠0)(p:Nat)(w:World):Calls prog 119 #[.int .i64 (p:Int),BS a n] w fun e w'=>Tm a n p w.heap.size e w'/\Bl w w':=by
 unfold Tm;rw[DC _ hn];go_in
 go_wp2_with fail
 exact⟨rfl,⟨_,JB _,rfl,AJ.new _ _ _⟩,(AQ _ w).alloc lr _⟩
def Nr (a:Nat->Addr)(hn:n≠0)(h:Rd w b t p x):Calls prog 69 #[.pointer<|Qb b 0,BS a n] w fun e w'=>Tm a n x.at_ w.heap.size e w'/\Bl w w':=by
 obtain⟨-,-,c2,-,-,-,-,-,sf⟩:=h.1.eight;have C:=AA<|Ut a hn x.at_;clear h;generalize BS a n=v at*;go_in
 go_wp2_with fail
 refine(C.out _).mono ?_;rintro e w' ⟨⟨L,hL,rfl,hb⟩,hw⟩;exact⟨rfl,⟨L,hL,rfl,hb⟩,hw⟩
def Zmo:jd 163 (fun c=>decide (c≠10)):=⟨DL func163 zt rfl,Zn8⟩
def Zhp:jd 164 EX:=⟨DL func164 zt rfl,Zii⟩
def Zwa:jd 114 Dr:=⟨DL func114 zt rfl,wM⟩
def Z2m:jd 202 G7:=⟨DL func202 zt rfl,Zwc⟩
def Ybe (b:Nat) (w:World) (t:ByteArray) (p:Nat) (x:Tk) (wr:World):Prop:= ∃ q,p<=q/\Rd wr b t q x/\Ac b w wr/\IP (Ab t) q=IP (Ab t) p
def Z91 (h:Rd w b t p x):
  Calls prog 109 #[.pointer<|Qb b 0] w fun e w'=>e= .returned (.tuple #[])/\Ac b w w'/\Rd w' b t (IP (Ab t) p) x:=by
 go_in
 go_wp2
 go_loopw [5] (fun _ wr=>Ybe b w t p x wr) (fun _ wr=>t.size-iV b wr)
 case atStart=>exact⟨p,JB _,h,Ac.refl _ _,rfl⟩
 case round=>
  obtain⟨q,hq,hR,hK,hE⟩:=hrel;clear h;have h3:=hR.2.2.1;have ht:=hR.2.1;have hM:=Xe hR;obtain⟨c0,c1,-,-,-,-,-,-,sf⟩:=hR.1.eight;have HR:=AA hR;have HK:=AA hK;have HE:=AA hE;have hl:=UB t;have S3:= @Z3l (Ab t) q;clear hR hK hE;by_cases hlt:q<t.size
  ·have g:(q:Int)<(t.size:Int):=zx
   have hx:=V5 t q hlt;have C:=AA<|Zyn<|(Ab t).getD q 0;have P:=AA fun u=>Zsk (t.extract q t.size) ⟨#[47,47]⟩ u;rw[Zy7 hlt]at P;have S1:=AA<|Zqg (bs:=Ab t) (p:=q) zx;have S2:=AA<|Z3k (bs:=Ab t) (p:=q);cases hb:wy ((Ab t).getD q 0)
   ·rw[hb]at C;by_cases hn:q+1<t.size/\(Ab t).getD q 0=47/\(Ab t).getD (q+1) 0=47
    ·rw[QJ hn]at P;have S:=AA<|S2.out hb (by rw[hl];exact hn);have hs:=AA<|uo (bs:=Ab t) (p:=q) zx hn.2.1;have CR:=AA fun u (hu:Rd u b t q x)=>iT Zmo hu;clear S1 S2 S3 hn hb;generalize (Ab t).getD q 0=c at*;go_wp2
     go_quiet (fail)
     go_wp2
     go_quiet ((go_at_call 160;first | exact Calls.quiet_of_same (C.out _) | exact Zk C.out))
     go_wp2
     go_quiet ((go_at_call 161;first | exact Calls.quiet_of_same (P.out _) | exact Zk P.out))
     go_wp2_with fail
     refine(CR.out _<|HR.out.dr _).mono ?_;rintro e w1 ⟨rfl,hk,hr⟩;have hM1:=Xe hr;have DZ:=AA hr;have Gw:=AA<|(HK.out.dr _).trans hk;clear hk hr;go_wp2
     go_roundw
     case rel=>exact⟨_,by have:=hs.out;omega,DZ.out,Gw.out,S.out.symm.trans HE.out⟩
     case measure=>
      have:=hs.out
      rw[hM,hM1];omega
    ·rw[Oi hn]at P;have E:AC (IP (Ab t) p=q):=⟨HE.out.symm.trans<|S3 (fun z=>by rw[show QD ((Ab t).getD q 0)=false from hb]at z;cases z.2) (by rw[hl];exact hn)⟩;clear S1 S2 S3 hn hb;generalize (Ab t).getD q 0=c at*;go_wp2
     go_quiet (fail)
     go_wp2
     go_quiet ((go_at_call 160;first | exact Calls.quiet_of_same (C.out _) | exact Zk C.out))
     go_wp2
     go_quiet ((go_at_call 161;first | exact Calls.quiet_of_same (P.out _) | exact Zk P.out))
     go_wp2
     refine CQ (by simp[results,results109,go_sem];try rfl) rfl ?_;rw[E.out];exact⟨rfl,((HK.out.dr _).dr _).dr _,HR.out⟩
   ·rw[hb]at C;have S:=AA<|S1.out hb;clear S1 S2 S3 P hb;generalize (Ab t).getD q 0=c at*;go_wp2
    go_quiet (fail)
    go_wp2
    go_quiet ((go_at_call 160;first | exact Calls.quiet_of_same (C.out _) | exact Zk C.out))
    go_wp2
    go_roundw
    case rel=>exact⟨q+1,zx,(HR.out.dr _).next hlt,(HK.out.dr _).set _ _,S.out.symm.trans HE.out⟩
    case measure=>
     rw[hM,Xe<|(HR.out.dr _).next hlt];omega
  ·obtain rfl:q=t.size:=zx
   have E:AC (IP (Ab t) p=t.size):=⟨HE.out.symm.trans<|S3 zx zx⟩;go_wp2
   go_quiet (fail)
   go_wp2_with fail
   rw[E.out];exact⟨rfl,_,(by simp[results,results109,go_sem];try rfl),rfl,HK.out.dr _,HR.out.dr _⟩
end Go.P
namespace Go.W
def Tz (t:ByteArray) (x:Tk) (p:Nat):Except (Int×Nat) (Unit×Tk×Nat):=
 let q:=Cm (Ab t) EX (p+1)
 if 16<q-(p+1)then .error (4,x.at_)else if En (t.extract (p+1) q)=false then .error (1,x.at_)else .ok ((),{x with k:=1,i:=0,s:=t.extract (p+1) q},q)
end Go.W
namespace Go.P
variable {w:World}{b p:Nat}{t:ByteArray}{x:Tk}
def Rd.term (h:Rd w b t p x)(k i:Int)(s:ByteArray):Rd ((((w.setCell ⟨b,4,none⟩<|.int .i64 k).setCell ⟨b,5,none⟩<|.int .i64 i).setCell ⟨b,6,none⟩<|.string s).setCell ⟨b,7,none⟩<|.slice none 0 0) b t p {x with k:=k,i:=i,s:=s}:=⟨(((h.1.set 4 _).set 5 _).set 6 _).set 7 _,h.2⟩
def Rd.text (h:Rd w b t p x)(s:ByteArray):Rd (w.setCell ⟨b,3,none⟩<|.string s) b t p {x with text:=s}:=⟨h.1.set 3 _,h.2⟩
def _root_.Go.W.Ac.term {w0:World}{v4 v5 v6 v7:Value}(h:Ac b w0 w):Ac b w0 ((((w.setCell ⟨b,4,none⟩ v4).setCell ⟨b,5,none⟩ v5).setCell ⟨b,6,none⟩ v6).setCell ⟨b,7,none⟩ v7):=(((h.set _ _).set _ _).set _ _).set _ _
def IA {α:Type} (a:Nat->Addr) (b:Nat) (t:ByteArray) (V:World->Value->α->Prop) (w:World) (Y:Except (Int×Nat) (α×Tk×Nat)) (e:Ending) (w':World):Prop:=
 Ac b w w'/\((∃ n p,Y= .error (n,p)/\n≠0/\Tm a n p w.heap.size e w')\/ ∃ v y x q,Y= .ok (y,x,q)/\e= .returned v/\V w' v y/\Rd w' b t q x)
def VU (_:World) (v:Value) (_:Unit):Prop:=v= .tuple #[]
def Zob {a:Nat->Addr}(Z:Aa a w)(h:Rd w b t p x)(hp:p<t.size):
  Calls prog 112 #[.pointer<|Qb b 0] w (IA a b t VU w<|Tz t x p):=by
 have ht:=h.2.1;have hg:=h.2.2.2;obtain⟨c0,c1,-,-,-,-,-,-,sf⟩:=h.1.eight;have HN:=AA<|h.next hp;have CR:=AA<|iT Zhp<|h.next hp;have hl:=UB t;have hs:=Zb (bs:=Ab t) (ok:=EX) (p:=p+1) zx;have F:AC (Tz t x p=if 16<Cm (Ab t) EX (p+1)-(p+1)then .error (4,x.at_)else if En (t.extract (p+1)<|Cm (Ab t) EX<|p+1)=false then .error (1,x.at_)else .ok ((),{x with k:=1,i:=0,s:=t.extract (p+1) (Cm (Ab t) EX<|p+1)},Cm (Ab t) EX<|p+1)):=⟨rfl⟩;generalize Cm (Ab t) EX (p+1)=q at*;have hz:(t.extract (p+1) q).size=q-(p+1):=by rw[U9];omega
 generalize t.extract (p+1) q=s at*;have ZZ:=AA Z;have dC:=AA<|(Ac.refl b w).set 1<|.int .i64<|(p:Int)+1;clear h Z;go_in
 go_wp2_with fail
 refine CR.out.mono ?_;rintro e w1 ⟨rfl,hk,hr⟩;have ZA:=AA<|ZZ.out.keeps (dC.out.trans hk) hg;have HK:=AA<|dC.out.trans hk;have HR:=AA hr;obtain⟨d0,d1,-,-,-,-,-,-,sf1⟩:=hr.1.eight;have C1:=AA fun n (hn:n≠0)=>Nr a hn hr;have C2:=AA fun u=>vZ s u zx;have C3:=AA fun u=>uZ s u zx;have z4:=ZA.out.c4;have z1:=ZA.out.c1;clear hk hr CR HN c0 c1 sf ZZ dC;by_cases Ug:16<s.size
 ·have g:(16:Int)<(s.size:Int):=zx
  have Y:AC (Tz t x p= .error (4,x.at_)):=⟨by rw[F.out,if_pos zx]⟩;go_wp2_with fail
  refine(C1.out 4 zu).mono ?_;rintro e w2 ⟨⟨L,hL,rfl,hB⟩,hb⟩;exact⟨rfl,HK.out.AR hb,Or.inl ⟨4,_,Y.out,zu,L,AU HK.out.size hL,rfl,hB⟩⟩
 ·have g: ¬ (16:Int)<(s.size:Int):=zx
  clear C1 z4;go_wp2_with fail
  refine(C2.out _).mono ?_;rintro e w2 ⟨rfl,hb⟩;have hr2:=HR.out.of hb;have z1:=Aq z1 hb;have IE:=AA<|HK.out.AR hb;have BF:=AA hr2;have C1:=AA<|Nr a (n:=1) zu hr2;obtain⟨d0,d1,-,-,-,-,-,-,UR⟩:=hr2.1.eight;clear sf1 hr2 hb;cases hn:En s
  ·have Y:AC (Tz t x p= .error (1,x.at_)):=⟨by rw[F.out,if_neg zx,if_pos hn]⟩;go_wp2_with fail
   refine C1.out.mono ?_;rintro e w3 ⟨⟨L,hL,rfl,hB⟩,hb⟩;exact⟨rfl,IE.out.AR hb,Or.inl ⟨1,_,Y.out,zu,L,AU IE.out.size hL,rfl,hB⟩⟩
  ·have Y:AC (Tz t x p= .ok ((),{x with k:=1,i:=0,s:=s},q)):=⟨by rw[F.out,if_neg zx,if_neg (by rw[hn];simp)]⟩;clear C1 z1;go_wp2_with fail
   refine(C3.out _).mono ?_;rintro e w3 ⟨rfl,hb⟩;have hr3:=BF.out.of hb;have D8:=AA<|IE.out.AR hb;have Du:=AA hr3;obtain⟨e0,e1,-,-,e4,e5,e6,e7,sf3⟩:=hr3.1.eight;clear UR hr3 hb d0 d1;go_wp2_with fail
   exact⟨rfl,_,(by simp[results,results112,go_sem];try rfl),D8.out.term,Or.inr ⟨_,_,_,_,Y.out,rfl,rfl,Du.out.term 1 0 s⟩⟩
end Go.P
namespace Go.W
def Qg (bs:List Nat):Nat->Nat->List UInt8
 | 0,_=>[]
 | n+1,p=>UInt8.ofNat (16*Iy (bs.getD p 0)+Iy (bs.getD (p+1) 0))::Qg bs n (p+2)
def P4 (t:ByteArray) (x:Tk) (p:Nat):Except (Int×Nat) (Unit×Tk×Nat):=
 let q:=Cm (Ab t) G7 p
 if(q-p) % 2≠0 then .error (1,x.at_)else if 64<(q-p) / 2 then .error (4,x.at_)else .ok ((),{x with k:=4,i:=0,s:=⟨(Qg (Ab t) ((q-p) / 2) p).toArray⟩},q)
def Qj (t:ByteArray) (x:Tk) (p:Nat):Except (Int×Nat) (Unit×Tk×Nat):=
 let q:=Cm (Ab t) EX p
 if 16<q-p then .error (4,x.at_)else if(t.extract p q).toList=[104,101,120]/\(Ab t).getD q 0=58 then P4 t x (q+1)else .ok ((),{x with text:=t.extract p q},q)
def Z5h {t:ByteArray}{q:Nat}(h:(Ab t).getD q 0=58):q<t.size:=by
 rcases QL q t.size with g | g
 ·exact g
 ·simp[List.getD,UB,g]at h
end Go.W
namespace Go.P
def Zon:Prop:= ∀ {a:Nat->Addr} {w:World} {b:Nat} {t:ByteArray} {p:Nat} {x:Tk},Aa a w->Rd w b t p x->Calls prog 166 #[.pointer<|Qb b 0] w (IA a b t VU w<|P4 t x p)
def Zw0 (RB:Zon){a:Nat->Addr}{w:World}{b:Nat}{t:ByteArray}{p:Nat}{x:Tk}(Z:Aa a w)(h:Rd w b t p x):
  Calls prog 111 #[.pointer<|Qb b 0] w (IA a b t VU w<|Qj t x p):=by
 have ht:=h.2.1;have hg:=h.2.2.2;have hp:=h.2.2.1;have CR:=AA<|iT Zhp h;have hl:=UB t;have hs:=Zb (bs:=Ab t) (ok:=EX) (p:=p) zx;have F:AC (Qj t x p=if 16<Cm (Ab t) EX p-p then .error (4,x.at_)else if(t.extract p<|Cm (Ab t) EX p).toList=[104,101,120]/\(Ab t).getD (Cm (Ab t) EX p) 0=58 then P4 t x (Cm (Ab t) EX p+1)else .ok ((),{x with text:=t.extract p (Cm (Ab t) EX p)},Cm (Ab t) EX p)):=⟨rfl⟩;generalize Cm (Ab t) EX p=q at*;have hz:(t.extract p q).size=q-p:=by rw[U9];omega
 generalize t.extract p q=s at*;have ZZ:=AA Z;clear h Z;go_in
 go_wp2_with fail
 refine CR.out.mono ?_;rintro e w1 ⟨rfl,hk,hr⟩;have ZA:=AA<|ZZ.out.keeps hk hg;have HK:=AA hk;have HR:=AA hr;have C1:=AA fun n (hn:n≠0)=>Nr a hn hr;have C2:=AA fun u (hu:Rd u b t q x)=>iY hu;have C3:=AA fun u=>uZ s u zx;have z4:=ZA.out.c4;clear hk hr CR ZZ;by_cases Ug:16<s.size
 ·have g:(16:Int)<(s.size:Int):=zx
  have Y:AC (Qj t x p= .error (4,x.at_)):=⟨by rw[F.out,if_pos zx]⟩;go_wp2_with fail
  refine(C1.out 4 zu).mono ?_;rintro e w2 ⟨⟨L,hL,rfl,hB⟩,hb⟩;exact⟨rfl,HK.out.AR hb,Or.inl ⟨4,_,Y.out,zu,L,AU HK.out.size hL,rfl,hB⟩⟩
 ·have g: ¬ (16:Int)<(s.size:Int):=zx
  clear C1 z4;by_cases hx:s.toList=[104,101,120]
  ·go_wp2_with fail
   refine(C2.out _ HR.out).mono ?_;rintro e w2 ⟨rfl,hb⟩;have hr2:=HR.out.of hb;have ZB:=AA<|ZA.out.below hb;have IE:=AA<|HK.out.AR hb;have BF:=AA hr2;obtain⟨d0,d1,-,d3,-,-,-,-,UR⟩:=hr2.1.eight;clear hr2 hb;have LT:=AA<|Z5h (t:=t) (q:=q);generalize (Ab t).getD q 0=c at*;by_cases hc:c=58
   ·have Y:AC (Qj t x p=P4 t x (q+1)):=⟨by rw[F.out,if_neg zx,if_pos ⟨hx,hc⟩]⟩;have hq:=LT.out hc;have g2:((c:Int)==58)=true:=by rw[DJ];omega
    have RB':=AA fun u (h1:Aa a u) (h2:Rd u b t (q+1) x)=>RB h1 h2;clear hc F LT RB;go_wp2_with fail
    refine(RB'.out _ (ZB.out.keeps ((Ac.refl b w2).set _ _) hg)<|BF.out.next hq).mono ?_;rintro e w3 ⟨hk3,⟨n,r,hy,hn,L,hL,rfl,hB⟩ | ⟨v,y,x2,r,hy,rfl,hv,hr3⟩⟩
    ·exact⟨rfl,(IE.out.set _ _).trans hk3,Or.inl ⟨n,r,Y.out.trans hy,hn,L,by have:=IE.out.size;simp at hL;omega,rfl,hB⟩⟩
    ·obtain rfl:v= .tuple #[]:=hv;have R:=AA<|AF ((IE.out.set 1<|.int .i64<|(q:Int)+1).trans hk3)<|AF (Y.out.trans hy) hr3;clear hk3 hy hr3;go_wp2
     refine CQ (by simp[results,results111,go_sem];try rfl) rfl ?_;exact⟨R.out.1,Or.inr ⟨_,_,_,_,R.out.2.1,rfl,rfl,R.out.2.2⟩⟩
   ·have Y:AC (Qj t x p= .ok ((),{x with text:=s},q)):=⟨by rw[F.out,if_neg zx,if_neg fun z=>hc z.2]⟩;have g2:((c:Int)==58)=false:=by rw[BK];omega
    clear hc F LT RB;go_wp2_with fail
    refine(C3.out _).mono ?_;rintro e w3 ⟨rfl,hb⟩;have hr3:=BF.out.of hb;have D8:=AA<|IE.out.AR hb;have Du:=AA hr3;clear d0 d1 d3 UR;obtain⟨d0,d1,-,d3,-,-,-,-,sf3⟩:=hr3.1.eight;clear hr3 hb;go_wp2_with fail
    exact⟨rfl,_,(by simp[results,results111,go_sem];try rfl),D8.out.set _ _,Or.inr ⟨_,_,_,_,Y.out,rfl,rfl,Du.out.text s⟩⟩
  ·have Y:AC (Qj t x p= .ok ((),{x with text:=s},q)):=⟨by rw[F.out,if_neg zx,if_neg fun z=>hx z.1]⟩;go_wp2_with fail
   refine(C3.out _).mono ?_;rintro e w3 ⟨rfl,hb⟩;have hr3:=HR.out.of hb;have D8:=AA<|HK.out.AR hb;have Du:=AA hr3;obtain⟨d0,d1,-,d3,-,-,-,-,sf3⟩:=hr3.1.eight;clear hr3 hb;go_wp2_with fail
   exact⟨rfl,_,(by simp[results,results111,go_sem];try rfl),D8.out.set _ _,Or.inr ⟨_,_,_,_,Y.out,rfl,rfl,Du.out.text s⟩⟩
end Go.P
namespace Go.W
def LM (bs:List Nat) (at_:Nat):Nat->Nat->Nat->Except (Int×Nat) (Nat×Nat)
 | 0,v,p=> .ok (v,p)
 | f+1,v,p=>if G7 (bs.getD p 0)=true then LM bs at_ f (16*v+Iy (bs.getD p 0)) (p+1)else .error (1,at_)
def PI (t:ByteArray) (x:Tk) (p:Nat):Except (Int×Nat) (Nat×Tk×Nat):=match LM (Ab t) x.at_ 4 0 p with
 | .error e=> .error e
 | .ok (v,q)=>if Lib.validRune (v:Int)=true then .ok (v,x,q)else .error (1,x.at_)
def Z1y {bs:List Nat}{at_ f v p:Nat}:(G7 (bs.getD p 0)=true->LM bs at_ (f+1) v p=LM bs at_ f (16*v+Iy (bs.getD p 0)) (p+1))/\(G7 (bs.getD p 0)=false->LM bs at_ (f+1) v p= .error (1,at_)):=
 ⟨fun h=>by rw[LM,if_pos h],fun h=>by rw[LM,if_neg (by rw[h];simp)]⟩
def Yel (a b:Nat)(ha:a<2147483648)(hb:b<2147483648):bits .or .i32 (a:Int) (b:Int)=((a ||| b:Nat):Int):=by
 have hx:a ||| b<2 ^ 31:=Nat.or_lt_two_pow zx zx;show IntKind.i32.wrap ((BitVec.ofInt 32 (a:Int) ||| BitVec.ofInt 32 (b:Int)).toNat:Int)=_;rw[BitVec.toNat_or,ofInt_u32 a zx,ofInt_u32 b zx,IntKind.wrap_i32];omega
def Z42 (v h:Nat)(hv:v<4096)(hh:h<16):bits .or .i32 ((v:Int)*16) (h:Int)=((16*v+h:Nat):Int):=by
 have e:((v:Int)*16)=((16*v:Nat):Int):=zx
 rw[e,Yel _ _ zx zx,nat_join 4 (16*v) h zx zx]
def jF {c:Nat}(h:G7 c=true):Iy c<16:=by
 simp[G7,Dr]at h;unfold Iy Dr;split <;> simp_all <;> omega
end Go.W
namespace Go.P
def Ya8 (b:Nat) (w:World) (t:ByteArray) (p:Nat) (x:Tk) (cv iv:Value) (wr:World):Prop:= ∃ k v q:Nat,k<=4/\v<16 ^ k/\cv= .int .i32 (v:Int)/\iv= .int .i64 ((k:Nat):Int)/\Rd wr b t q x/\Ac b w wr/\LM (Ab t) x.at_ (4-k) v q=LM (Ab t) x.at_ 4 0 p
def OM (v:Value):Nat:=match v with
 | .int _ i=>i.toNat
 | _=>0
def Zmx {a:Nat->Addr}{w:World}{b:Nat}{t:ByteArray}{p:Nat}{x:Tk}(Z:Aa a w)(h:Rd w b t p x):
  Calls prog 206 #[.pointer<|Qb b 0] w (IA a b t (fun _ v (y:Nat)=>v= .int .i32 (y:Int)/\Lib.validRune (y:Int)=true/\y<65536) w<|PI t x p):=by
 have hg:=h.2.2.2;go_in
 go_wp2
 go_loopw [3,4] (fun cv iv wr=>Ya8 b w t p x cv iv wr) (fun _ iv _=>4-OM iv)
 case atStart=>exact⟨0,0,p,zx,zu,rfl,rfl,h,Ac.refl _ _,rfl⟩
 case round=>
  obtain⟨k,v,q,hk,hv,rfl,rfl,hR,hK,hE⟩:=hrel;have ZA:=AA<|Z.keeps hK hg;have HR:=AA hR;have HK:=AA hK;have HE:=AA hE;by_cases hlt:k<4
  ·have g:(k:Int)<4:=zx
   have hv3:v<4096:=by
    have:16 ^ k<=16 ^ 3:=Nat.pow_le_pow_right zx zx
    omega
   have hv4:16*v<16 ^ (k+1):=by rw[Nat.pow_succ];omega
   have CP:=AA fun u (hu:Rd u b t q x)=>iY hu;have S:=Z1y (bs:=Ab t) (at_:=x.at_) (f:=4-(k+1)) (v:=v) (p:=q);rw[show 4-(k+1)+1=4-k by omega]at S;have h3:=hR.2.2.1;have zX:G7 ((Ab t).getD q 0)=true->q<t.size:=fun hh=>by
    rcases QL q t.size with g | g
    ·exact g
    ·rw[show(Ab t).getD q 0=0 by simp[List.getD,UB,g]]at hh;cases hh
   have SS:=AA S;have HX:=AA fun h=>jF (c:=(Ab t).getD q 0) h;have CH:=AA<|Zwc<|(Ab t).getD q 0;have CV:=AA<|Znm<|(Ab t).getD q 0;have Oq:=AA zX;clear zX S hR hK hE Z h;generalize (Ab t).getD q 0=c at*;go_wp2_with fail
   refine(CP.out _ HR.out).mono ?_;rintro e w1 ⟨rfl,hb1⟩;have DZ:=AA<|HR.out.of hb1;have Gw:=AA<|HK.out.AR hb1;have ZB:=AA<|ZA.out.below hb1;clear hb1;cases hh:G7 c
   ·rw[hh]at CH;have Y:AC (PI t x p= .error (1,x.at_)):=⟨by unfold PI;rw[<- HE.out,SS.out.2 hh]⟩;have z1:=ZB.out.c1;have C1:=AA<|Nr a (n:=1) zu DZ.out;go_wp2_with (go_at_call 202;refine(CH.out _).mono ?_;rintro e w' ⟨rfl,rfl⟩)
    refine C1.out.mono ?_;rintro e w2 ⟨⟨L,hL,rfl,hB⟩,hb⟩;exact⟨rfl,Gw.out.AR hb,Or.inl ⟨1,_,Y.out,zu,L,AU Gw.out.size hL,rfl,hB⟩⟩
   ·rw[hh]at CH;have hx:=HX.out hh;have hq:=Oq.out hh;have CV1:=AA fun u=>CV.out hh u;have E1:=AA<|SS.out.1 hh;have J:=AA<|Z42 v (Iy c) hv3 hx;have Sd:=DZ.out.2.1;have hq8:q<8000:=zx
    clear SS HX CV hh Oq;go_wp2_with (go_at_call 202;refine(CH.out _).mono ?_;rintro e w' ⟨rfl,rfl⟩)
    refine(CP.out _ DZ.out).mono ?_;rintro e w2 ⟨rfl,hb2⟩;have hr2:=DZ.out.of hb2;have BF:=AA hr2;have IE:=AA<|Gw.out.AR hb2;obtain⟨d0,d1,-,-,-,-,-,-,UR⟩:=hr2.1.eight;clear hr2 hb2;generalize Iy c=d at*;go_wp2_with (go_at_call 203;refine(CV1.out _).mono ?_;rintro e w' ⟨rfl,rfl⟩)
    refine⟨⟨k+1,16*v+d,q+1,zx,by rw[Nat.pow_succ]at hv4⊢;omega,by rw[J.out],zw,BF.out.next hq,IE.out.set _ _,E1.out.symm.trans HE.out⟩,by simp[OM];omega⟩
  ·obtain rfl:k=4:=zx
   have C0:=AA fun u=>Zuk (v:Int) u;have z1:=ZA.out.c1;have C1:=AA<|Nr a (n:=1) zu HR.out;have hv4:v<65536:=hv;have E:AC (LM (Ab t) x.at_ 4 0 p= .ok (v,q)):=⟨HE.out.symm⟩;clear hR hK hE HE Z h hv;cases hr:Lib.validRune (v:Int)
   ·rw[hr]at C0;have Y:AC (PI t x p= .error (1,x.at_)):=⟨by unfold PI;rw[E.out];simp[hr]⟩;go_wp2_with (go_at_call 237;refine(C0.out _).mono ?_;rintro e w' ⟨rfl,rfl⟩)
    refine C1.out.mono ?_;rintro e w2 ⟨⟨L,hL,rfl,hB⟩,hb⟩;exact⟨rfl,HK.out.AR hb,Or.inl ⟨1,_,Y.out,zu,L,AU HK.out.size hL,rfl,hB⟩⟩
   ·rw[hr]at C0;have Y:AC (PI t x p= .ok (v,x,q)):=⟨by unfold PI;rw[E.out];simp[hr]⟩;go_wp2_with (go_at_call 237;refine(C0.out _).mono ?_;rintro e w' ⟨rfl,rfl⟩)
    go_ret
    exact⟨HK.out,Or.inr ⟨_,v,x,q,Y.out,rfl,⟨zw,hr,hv4⟩,HR.out⟩⟩
end Go.P
namespace Go.W
variable {t:ByteArray}{x:Tk}{p:Nat}
def I9:List (Nat×Nat):=[(34,34),(92,92),(110,10),(116,9),(114,13)]
def NU (t:ByteArray) (x:Tk) (p:Nat):Except (Int×Nat) (Nat×Tk×Nat):=match I9.find? (fun y=>decide (y.1=(Ab t).getD p 0))with
 | some y=> .ok (y.2,x,p+1)
 | none=>if(Ab t).getD p 0=117 then PI t x (p+1)else .error (1,x.at_)
def Yeh {k:Nat}{y:Nat×Nat}(hk:I9[k]?=some y)(h0: ∀ j y',j<k->I9[j]?=some y'->y'.1≠(Ab t).getD p 0)(h1:y.1=(Ab t).getD p 0):NU t x p= .ok (y.2,x,p+1):=by
 have:I9.find? (fun y=>decide (y.1=(Ab t).getD p 0))=some y:=by
  rw[List.find?_eq_some_iff_getElem];refine⟨QJ h1,k,(Gl.1 hk).1,(Gl.1 hk).2,?_⟩;intro j hj;rw[Oi<|h0 j _ hj<|DK _];rfl
 unfold NU;rw[this]
def Yei (h0: ∀ j y',j<5->I9[j]?=some y'->y'.1≠(Ab t).getD p 0):NU t x p=if(Ab t).getD p 0=117 then PI t x (p+1)else .error (1,x.at_):=by
 have:I9.find? (fun y=>decide (y.1=(Ab t).getD p 0))=none:=by
  rw[List.find?_eq_none];intro m hm;obtain⟨j,hj,rfl⟩:=List.getElem_of_mem hm;rw[Oi<|h0 j _ hj<|DK _];simp
 unfold NU;rw[this]
def Z3i {m:Nat}(h:m<128):Lib.validRune (m:Int)=true:=by
 simp[Lib.validRune];omega
def iU {q:Nat}(h:(Ab t).getD q 0≠0):q<t.size:=by
 rcases QL q t.size with g | g
 ·exact g
 ·exact absurd (by simp[List.getD,UB,g]) h
end Go.W
namespace Go.P
variable {a:Nat->Addr}{w:World}{b p:Nat}{t:ByteArray}{x:Tk}
def Aa.esc (h:Aa a w)(i:Nat)(c:Nat)(hs:xC[i]?=some c):w.cell? ⟨14,i,none⟩=some (.int .u8 (c:Int)):=by
 obtain⟨_,h0,h1⟩:=h;exact(h1 _ _ zu).2.trans<|h0.esc i c hs
def Z0i (k:Nat)(h:k<5): ∃ y:Nat×Nat,I9[k]?=some y/\y.1≠0/\y.1<128/\y.2<128/\ ∀ w,(Instr.index 296 (.agg #[.int .u8 34,.int .u8 34,.int .u8 92,.int .u8 92,.int .u8 110,.int .u8 10,.int .u8 116,.int .u8 9,.int .u8 114,.int .u8 13])<|.int .i64 (k:Int)).run prog w= .ok (.agg #[.int .u8 (y.1:Int),.int .u8 (y.2:Int)]) w:=by
 have g:k=0\/k=1\/k=2\/k=3\/k=4:=zx
 rcases g with rfl | rfl | rfl | rfl | rfl;all_goals exact⟨_,rfl,zu,zu,zu,fun _=>zt⟩
def Rd.alloc (h:Rd w b t p x)(o:Obj):Rd (w.alloc o) b t p x:=⟨h.1.alloc o,h.2⟩
def Ydm (b:Nat) (w:World) (t:ByteArray) (p:Nat) (x:Tk) (iv:Value) (wr:World):Prop:= ∃ k:Nat,k<=5/\iv= .int .i64 (k:Int)/\Rd wr b t p x/\Ac b w wr/\ ∀ j y',j<k->I9[j]?=some y'->y'.1≠(Ab t).getD p 0
def Zrd (Z:Aa a w)(h:Rd w b t p x):
  Calls prog 169 #[.pointer<|Qb b 0] w (IA a b t (fun _ v (y:Nat)=>v= .int .i32 (y:Int)/\Lib.validRune (y:Int)=true/\y<65536) w<|NU t x p):=by
 have hg:=h.2.2.2;have m0:=Z.esc 0 _ rfl;have m1:=Z.esc 1 _ rfl;have m2:=Z.esc 2 _ rfl;have m3:=Z.esc 3 _ rfl;have m4:=Z.esc 4 _ rfl;have m5:=Z.esc 5 _ rfl;have m6:=Z.esc 6 _ rfl;have m7:=Z.esc 7 _ rfl;have m8:=Z.esc 8 _ rfl;have m9:=Z.esc 9 _ rfl;go_in
 go_wp2_with fail
 clear m0 m1 m2 m3 m4 m5 m6 m7 m8 m9;go_loopw [6] (fun iv wr=>Ydm b w t p x iv wr) (fun iv _=>5-OM iv)
 case atStart=>exact⟨0,zx,rfl,h,Ac.refl _ _,fun j _ hj=>absurd hj zx⟩
 case round=>
  obtain⟨k,hk,rfl,hR,hK,hall⟩:=hrel;have HR:=AA hR;have HK:=AA hK;have ZA:=AA<|Z.keeps hK hg;have A:=AA hall;have hbl:=hR.1.lt;clear hall hR hK Z h;by_cases hlt:k<5
  ·obtain⟨y,hy,y0,y1,y2,ik⟩:=Z0i k hlt;have g:(k:Int)<5:=zx
   have CP:=AA fun n=>uB ((HR.out.alloc<|.cells #[.int .u8 (y.1:Int),.int .u8 (y.2:Int)] 295).dr n);have BL:=AA<|AJ.new wr #[.int .u8 (y.1:Int),.int .u8 (y.2:Int)] 295;have l0:(wr.alloc<|.cells #[.int .u8 (y.1:Int),.int .u8 (y.2:Int)] 295).cell? ⟨wr.heap.size,0,none⟩=some (.int .u8 (y.1:Int)):=BL.out.two.1;have l1:(wr.alloc<|.cells #[.int .u8 (y.1:Int),.int .u8 (y.2:Int)] 295).cell? ⟨wr.heap.size,1,none⟩=some (.int .u8 (y.2:Int)):=BL.out.two.2.1;have QQ:=AA<|HR.out.alloc<|.cells #[.int .u8 (y.1:Int),.int .u8 (y.2:Int)] 295;obtain⟨c0,c1,-,-,-,-,-,-,sf⟩:=QQ.out.1.eight;have Gq:=HR.out.2.1;have GI:=AA<|iU (t:=t) (q:=p);have E:=AA fun(h1:y.1=(Ab t).getD p 0)=>Yeh (x:=x) hy A.out h1;have NX:=AA fun(h1:y.1≠(Ab t).getD p 0)=>(fun j y' hj YB=>by
    by_cases hjk:j=k
    ·subst hjk;rw[hy]at YB;cases YB;exact h1
    ·exact A.out j y' zx YB: ∀ j y',j<k+1->I9[j]?=some y'->y'.1≠(Ab t).getD p 0)
   clear A hy;obtain⟨l,m⟩:=y;simp only at y0 y1 y2 ik CP BL l0 l1 QQ c0 c1 sf E NX;generalize hc:(Ab t).getD p 0=c at*;by_cases he:l=c
   ·have g2:((l:Int)==(c:Int))=true:=by rw[DJ];omega
    have Y:=AA<|E.out he;have hp:=GI.out zx;clear E NX GI he hc;go_wp2
    go_quiet ((go_at_call 165;exact Calls.quiet_of<|CP.out _))
    go_wp2
    go_ret
    exact⟨((HK.out.alloc _).dr _).set _ _,Or.inr ⟨_,m,x,p+1,Y.out,rfl,⟨zw,Z3i y2,zx⟩,(QQ.out.dr _).next hp⟩⟩
   ·have g2:((l:Int)==(c:Int))=false:=by rw[BK];omega
    have NN:=AA<|NX.out he;clear E NX GI he;go_wp2
    go_quiet ((go_at_call 165;exact Calls.quiet_of<|CP.out _))
    go_wp2
    exact⟨⟨k+1,zx,zw,QQ.out.dr _,(HK.out.alloc _).dr _,by rw[hc];exact NN.out⟩,by simp[OM];omega⟩
  ·obtain rfl:k=5:=zx
   have Y:=AA<|Yei (x:=x) A.out;have CP:=AA<|iY HR.out;have GI:=AA<|iU (t:=t) (q:=p);generalize (Ab t).getD p 0=c at*;clear A;go_wp2_with fail
   refine mq CP.out ?_;rintro w1 hb;have hr1:=HR.out.of hb;have DZ:=AA hr1;have Gw:=AA<|HK.out.AR hb;have ZB:=AA<|ZA.out.below hb;obtain⟨c0,c1,-,-,-,-,-,-,sf⟩:=hr1.1.eight;clear hb hr1;by_cases hu:c=117
   ·have g2:((c:Int) != 117)=false:=by rw[bne_eq_false_iff_eq];omega
    have Y2:=AA<|Y.out.trans<|if_pos hu;have hp:=GI.out zx;have Gq:=DZ.out.2.1;have CC:=AA fun u (h1:Aa a u) (h2:Rd u b t (p+1) x)=>Zmx h1 h2;clear Y GI hu;go_wp2_with fail
    refine(CC.out _ (ZB.out.keeps ((Ac.refl b w1).set _ _) hg)<|DZ.out.next hp).mono ?_;rintro e w3 ⟨hk3,⟨n,r,hy,hn,L,hL,rfl,hB⟩ | ⟨v,y,x2,r,hy,rfl,⟨rfl,hv⟩,hr3⟩⟩
    ·exact⟨rfl,(Gw.out.set _ _).trans hk3,Or.inl ⟨n,r,Y2.out.trans hy,hn,L,by have:=Gw.out.size;simp at hL;omega,rfl,hB⟩⟩
    ·have R:=AA<|AF ((Gw.out.set 1<|.int .i64<|(p:Int)+1).trans hk3)<|AF (Y2.out.trans hy) hr3;clear hk3 hy hr3;go_wp2
     go_ret
     exact⟨R.out.1,Or.inr ⟨_,_,_,_,R.out.2.1,rfl,⟨zw,hv⟩,R.out.2.2⟩⟩
   ·have g2:((c:Int) != 117)=true:=by rw[bne_iff_ne];omega
    have Y2:=AA<|Y.out.trans<|if_neg hu;have z1:=ZB.out.c1;have C1:=AA<|Nr a (n:=1) zu DZ.out;clear Y GI hu;go_wp2_with fail
    refine C1.out.mono ?_;rintro e w2 ⟨⟨L,hL,rfl,hB⟩,hb⟩;exact⟨rfl,Gw.out.AR hb,Or.inl ⟨1,_,Y2.out,zu,L,AU Gw.out.size hL,rfl,hB⟩⟩
end Go.P
namespace Go.W
def jR (bs:List Nat): ∀ n p,(Qg bs n p).length=n
 | 0,_=>rfl
 | n+1,p=>by rw[Qg,BO,jR bs n]
def Zv8 (bs:List Nat): ∀ (n p j:Nat),j<n->(Qg bs n p)[j]?=some (UInt8.ofNat<|16*Iy (bs.getD (p+2*j) 0)+Iy (bs.getD (p+2*j+1) 0))
 | 0,_,_,h=>absurd h zx
 | n+1,p,0,_=>rfl
 | n+1,p,j+1,h=>by
  rw[Qg,List.getElem?_cons_succ,Zv8 bs n (p+2) j zx,show p+2+2*j=p+2*(j+1)by omega]
def Yc8 (v h:Nat)(hv:v<16)(hh:h<16):bits .or .u8 ((v:Int)*16) (h:Int)=((16*v+h:Nat):Int):=by
 have e:((v:Int)*16)=((16*v:Nat):Int):=zx
 rw[e,u8_or_nat _ _ zx zx,nat_join 4 (16*v) h zx zx]
def Yc7 {A B:Nat}(ha:A<16)(hb:B<16):some (Value.int .u8 ((16*A+B:Nat):Int))=some (.int .u8 (((some<|UInt8.ofNat<|16*A+B).getD 0).toNat:Int)):=by
 have e:(UInt8.ofNat<|16*A+B).toNat=16*A+B:=by
  rw[UInt8.toNat_ofNat'];exact Nat.mod_eq_of_lt zx
 rw[Option.getD_some,e]
def Z93 {bs:List Nat}{ok:Nat->Bool}: ∀ {f p j:Nat},p<=j->j<OY bs ok f p->ok (bs.getD j 0)=true:=by
 intro f;induction f with
 | zero=>intro p j h1 h2;exact absurd h2 (by simp[OY];omega)
 | succ f ih=>
  intro p j h1 h2;rw[OY]at h2;split at h2
  ·rename_i hc;by_cases hj:j=p
   ·subst hj;exact hc.2
   ·exact ih zx h2
  ·omega
def vR {t:ByteArray}{p q j:Nat}(hq:q<=t.size)(hj:j<q-p):(Ab<|t.extract p q).getD j 0=(Ab t).getD (p+j) 0:=by
 have h2:q<=t.data.size:=hq;simp only[Ab,List.getD,Jq,ByteArray.data_extract,UG,Array.getElem?_extract];rw[if_pos zx]
end Go.W
namespace Go.P
def Z5s:(prog.info? 5).map (fun i=>(i.zero,i.size,i.bytes))=some (some<|.int .u8 0,1,1):=zt
def Z2s (w:World)(n:Nat)(h:n<=1000):(Instr.makeSlice 74 (.int .i64 (n:Int))<|.int .i64 (n:Int)).run prog w= .ok (.slice (Qb w.heap.size 0) n n) (w.alloc<|.cells (madeCells #[.int .u8 0] n) 5):=by
 obtain⟨i0,hi,hz0,hz1,hz2⟩:=info_parts Z5s;have aN:=run_makeSlice (P:=prog) w 74 5 i0 (.int .u8 0) underlying74 hi hz0 .i64 .i64 (n:Int) (n:Int) zx zx (by rw[hz1];simp;omega) (by rw[hz2];simp;omega) zx;rw[hz1]at aN;have e:(Value.int .u8 0).cells=#[Value.int .u8 0]:=rfl;rw[e]at aN;simpa using aN
def Yc4 {w:World}{L:Nat}{vs:Array Value}{xs:List UInt8}(h:AJ w L vs 5)(hs: ∀ j,j<xs.length->vs[j]?=some (.int .u8 ((xs.getD j 0).toNat:Int)))(n cap:Nat)(hn:n=xs.length):
  (convert 74 9<|.slice (Qb L 0) n cap).run prog w= .ok (.string ⟨xs.toArray⟩) w:=by
 subst hn;refine oM (P:=prog) w 74 9 5 ⟨L,0,none⟩ cap xs underlying74 underlying5 underlying9 fun j hj=>?_;have e:(⟨L,0,none⟩:Addr).add j=⟨L,j,none⟩:=by unfold Addr.add;split <;> simp_all
 rw[e,h.cell,hs j hj];simp[List.getD,DK hj]
def Ydo (b:Nat) (w:World) (t:ByteArray) (q:Nat) (x:Tk) (L n p:Nat) (iv:Value) (wr:World):Prop:= ∃ (k:Nat) (vs:Array Value),k<=n/\iv= .int .i64 ((k:Nat):Int)/\Rd wr b t q x/\Ac b w wr/\AJ wr L vs 5/\vs.size=n/\ ∀ j,j<k->vs[j]?=some (.int .u8 ((16*Iy ((Ab t).getD (p+2*j) 0)+Iy ((Ab t).getD (p+2*j+1) 0):Nat):Int))
def Zt3:Zon:=by
 intro a w b t p x Z h;have ht:=h.2.1;have hg:=h.2.2.2;have hp:=h.2.2.1;have CR:=AA<|iT Z2m h;have hl:=UB t;have hs:=Zb (bs:=Ab t) (ok:=G7) (p:=p) zx;have AL:AC (∀ j,p<=j->j<Cm (Ab t) G7 p->G7 ((Ab t).getD j 0)=true):=⟨fun j h1 h2=>Z93 h1 h2⟩;have F:AC (P4 t x p=if(Cm (Ab t) G7 p-p) % 2≠0 then .error (1,x.at_)else if 64<(Cm (Ab t) G7 p-p) / 2 then .error (4,x.at_)else .ok ((),{x with k:=4,i:=0,s:=⟨(Qg (Ab t) ((Cm (Ab t) G7 p-p) / 2) p).toArray⟩},Cm (Ab t) G7 p)):=⟨rfl⟩;generalize Cm (Ab t) G7 p=q at*;have hz:(t.extract p q).size=q-p:=by rw[U9];omega
 have BA:AC (∀ j,j<q-p->(Ab<|t.extract p q).getD j 0=(Ab t).getD (p+j) 0):=⟨fun j hj=>vR zx hj⟩;have ZZ:=AA Z;clear h Z;go_in
 go_wp2_with fail
 refine CR.out.mono ?_;rintro e w1 ⟨rfl,hk,hr⟩;have ZA:=AA<|ZZ.out.keeps hk hg;have HK:=AA hk;have HR:=AA hr;have C1:=AA fun n (hn:n≠0)=>Nr a hn hr;have z4:=ZA.out.c4;have z1:=ZA.out.c1;clear hk hr CR ZZ;generalize t.extract p q=s at*;by_cases h2:(q-p) % 2≠0
 ·have Y:AC (P4 t x p= .error (1,x.at_)):=⟨by rw[F.out,if_pos h2]⟩;have g:(((q-p:Nat):Int) % 2 != 0)=true:=by rw[bne_iff_ne];omega
  go_wp2_with fail
  refine(C1.out 1 zu).mono ?_;rintro e w2 ⟨⟨L,hL,rfl,hB⟩,hb⟩;exact⟨rfl,HK.out.AR hb,Or.inl ⟨1,_,Y.out,zu,L,AU HK.out.size hL,rfl,hB⟩⟩
 obtain⟨n,hn⟩: ∃ n,q-p=2*n:=⟨(q-p) / 2,zx⟩;rw[hn]at F hz BA;rw[show 2*n / 2=n by omega]at F;have g:(((2*n:Nat):Int) % 2 != 0)=false:=by rw[bne_eq_false_iff_eq];omega
 by_cases Ej:64<n
 ·have Y:AC (P4 t x p= .error (4,x.at_)):=⟨by rw[F.out,if_neg zx,if_pos Ej]⟩;have g2:64<((2*n:Nat):Int) / 2:=zx
  go_wp2_with fail
  refine(C1.out 4 zu).mono ?_;rintro e w2 ⟨⟨L,hL,rfl,hB⟩,hb⟩;exact⟨rfl,HK.out.AR hb,Or.inl ⟨4,_,Y.out,zu,L,AU HK.out.size hL,rfl,hB⟩⟩
 have Y:AC (P4 t x p= .ok ((),{x with k:=4,i:=0,s:=⟨(Qg (Ab t) n p).toArray⟩},q)):=⟨by rw[F.out,if_neg zx,if_neg Ej]⟩;have g2:decide (64<(n:Int))=false:=by simp;omega
 have g3:((2*n:Nat):Int) / 2=(n:Int):=zx
 have MK:=Z2s w1 n zx;have BL:=AA<|AJ.new w1 (madeCells #[.int .u8 0] n) 5;have Ep:=HR.out.1.lt;have hsz:=HK.out.size;clear C1 z1 z4 F h2;go_wp2
 go_loopw [27] (fun iv wr=>Ydo b w t q x w1.heap.size n p iv wr) (fun iv _=>n-OM iv)
 case atStart=>exact⟨0,_,zx,rfl,HR.out.alloc _,HK.out.alloc _,BL.out,by simp[size_madeCells],fun j hj=>absurd hj zx⟩
 case round=>
  obtain⟨k,vs,hk,rfl,hR,hK,hB,Gy,hall⟩:=hrel;have H:=AA<|AF hR<|AF hK<|AF hB hall;clear MK BL HR HK ZA;by_cases hlt:k<n
  ·have g5:(k:Int)<(n:Int):=zx
   have sfL:=hB.soft;have ck:=hB.cell k;have c0:vs[k]?=some vs[k]:=Array.getElem?_eq_getElem zx;rw[c0]at ck;obtain⟨k2,hk2⟩: ∃ k2,2*k=k2:=⟨_,rfl⟩;obtain⟨k3,hk3⟩: ∃ k3,2*k+1=k3:=⟨_,rfl⟩;have l2':k2<s.size:=zx
   have l3':k3<s.size:=zx
   have i1:=(V5 s k2 l2').trans<|BA.out _ zx;have i2:=(V5 s k3 l3').trans<|BA.out _ zx;have a1:=AL.out (p+k2) zx zx;have a2:=AL.out (p+k3) zx zx;have V:=AA fun d (h:G7 d=true) u=>Znm d h u;have j1:=jF a1;have j2:=jF a2;have JJ:=AA<|Yc8 _ _ j1 j2;generalize Bg:(Ab t).getD (p+k2) 0=d1 at*;generalize Cf:(Ab t).getD (p+k3) 0=d2 at*;have HD:=AA<|AF Bg Cf;clear Bg Cf;clear hR hK hB hall;have e2:2*(k:Int)=(k2:Int):=zx
   have e3:(k2:Int)+1=(k3:Int):=zx
   have K23:=AA<|AF hk2 hk3;have gi2:(k2:Int)<(s.size:Int):=zx
   have gi3:(k3:Int)<(s.size:Int):=zx
   have wk2:IntKind.i64.wrap (k2:Int)=(k2:Int):=by rw[IntKind.wrap_i64];omega
   have wk3:IntKind.i64.wrap (k3:Int)=(k3:Int):=by rw[IntKind.wrap_i64];omega
   have HZ:=AA hz;clear hk2 hk3 hz;go_wp2
   go_region_with (go_at_call 203;refine(V.out _ (by assumption) _).mono ?_;rintro e w' ⟨rfl,rfl⟩)
   all_goals go_wp2_with fail
   all_goals
    refine⟨⟨k+1,_,zx,zw,⟨H.out.1.1.away _ _ zx _,H.out.1.2⟩,(H.out.2.1.Ai _ _ _ hsz).drew,(H.out.2.2.1.set k _).dr 1,by simp[Gy],fun j hj=>?_⟩,by simp[OM];omega⟩;rw[Bc,JJ.out];obtain⟨r1,r2⟩:=K23.out;obtain⟨s1,s2⟩:=HD.out;by_cases hjk:j=k
    ·subst hjk;rw[if_pos rfl,if_pos zx,show p+2*j=p+k2 by omega,show p+k2+1=p+k3 by omega,s1,s2]
    ·rw[if_neg fun z=>hjk z.symm];exact H.out.2.2.2 j zx
  ·obtain rfl:k=n:=zx
   have g5: ¬ (k:Int)<(k:Int):=zx
   have CV:=Yc4 (xs:=Qg (Ab t) k p) hB (fun j hj=>by
    rw[jR]at hj;rw[hall j hj];have e1:=Zv8 (Ab t) k p j hj;simp only[List.getD,e1];have a1:=jF<|AL.out (p+2*j) zx zx;have a2:=jF<|AL.out (p+2*j+1) zx zx;exact Yc7 a1 a2) k k (jR ..).symm
   obtain⟨d0,d1,-,-,d4,d5,d6,d7,UR⟩:=hR.1.eight;clear hR hK hB hall;go_wp2_with fail
   exact⟨rfl,_,(by simp[results,results166,go_sem];try rfl),H.out.2.1.term,Or.inr ⟨_,_,_,_,Y.out,rfl,rfl,H.out.1.term 4 0 _⟩⟩
end Go.P
