import Derived.Test.YtgnakaplmhmdcaaGreatDoorW14
set_option maxRecDepth 100000
set_option maxHeartbeats 8000000
open Go.Proofs Go.RowKit Go.W
namespace Go.P
variable {w:World}{b p:Nat}{t:ByteArray}{x:Tk}{n:Int}
theorem Zdw {P:Program}{f:FuncId}{args:Array Value}{n k:Nat}{v:Value}(h: ∀ w,Calls P f args w fun e w'=>e= .returned v/\w'=w):
  Calls P f args (w.drewN (n+k)) fun e w''=>e= .returned v/\ ∃ m,w''=w.drewN (n+m):=(h _).mono fun _ _ ⟨a,b⟩=>⟨a,k,b⟩
theorem Rd.next (h:Rd w b t p x)(hq:p < t.size):Rd (w.setCell ⟨b,1,none⟩ (.int .i64 ((p:Int)+1))) b t (p+1) x:=h.goes (q:=p+1) hq
def Zfo (a:Nat->Addr) (n:Int) (at_ N:Nat) (e:Ending) (w:World):Prop:= ∃ L,N<=L/\e= .panicked [{v:= .iface 86 (.pointer (some ⟨L,0,none⟩)),recovered:=false}]/\Blk w L #[.int .i64 (at_:Int),Zc3 a n] 90
theorem Zeu (a:Nat->Addr)(hn:n≠0)(p:Nat)(w:World):Calls Tryz.prog 134 #[.int .i64 (p:Int),Zc3 a n] w fun e w'=>Zfo a n p w.heap.size e w'/\Below w.heap.size w w':=by
 unfold Zfo;rw[Zah _ hn];go_enter Tryz.func134,Tryz.ntmps134
 go_wp2_with fail
 exact⟨rfl,⟨_,Ydu _,rfl,Blk.new _ _ _⟩,(Yct _ w).alloc lr _⟩
theorem Zbh (a:Nat->Addr)(hn:n≠0)(h:Rd w b t p x):Calls Tryz.prog 81 #[.pointer (some ⟨b,0,none⟩),Zc3 a n] w fun e w'=>Zfo a n x.at_ w.heap.size e w'/\Below w.heap.size w w':=by
 obtain⟨-,-,c2,-,-,-,-,-,sf⟩:=h.1.eight;have C:=Zaa (Zeu a hn x.at_);clear h;generalize Zc3 a n=v at*;go_enter Tryz.func81,Tryz.ntmps81
 go_wp2_with fail
 refine(C.out _).mono ?_;rintro e w' ⟨⟨L,hL,rfl,hb⟩,hw⟩;exact⟨rfl,⟨L,hL,rfl,hb⟩,hw⟩
theorem Zk6:Yaq 173 (fun c=>decide (c≠10)):=⟨Zak Tryz.func173 (by kernel_rfl) rfl,Zmk⟩
theorem Zg2:Yaq 174 Zav:=⟨Zak Tryz.func174 (by kernel_rfl) rfl,Zhv⟩
theorem Zu1:Yaq 129 Zaz:=⟨Zak Tryz.func129 (by kernel_rfl) rfl,Zjz⟩
theorem Z0o:Yaq 204 Zdh:=⟨Zak Tryz.func204 (by kernel_rfl) rfl,Zt0⟩
def Z8j (b:Nat) (w:World) (t:ByteArray) (p:Nat) (x:Tk) (wr:World):Prop:= ∃ q,p<=q/\Rd wr b t q x/\Zaf b w wr/\Zgv (Zab t) q=Zgv (Zab t) p
theorem Z63 (h:Rd w b t p x):
  Calls Tryz.prog 124 #[.pointer (some ⟨b,0,none⟩)] w fun e w'=>e= .returned (.tuple #[])/\Zaf b w w'/\Rd w' b t (Zgv (Zab t) p) x:=by
 go_enter Tryz.func124,Tryz.ntmps124
 go_wp2_with fail
 go_loopw [5] (fun _ wr=>Z8j b w t p x wr) (fun _ wr=>t.size - Zm6 b wr)
 case atStart=>exact⟨p,Ydu _,h,Zaf.refl _ _,rfl⟩
 case round=>
  obtain⟨q,hq,hR,hK,hE⟩:=hrel;clear h;have h3:=hR.2.2.1;have ht:=hR.2.1;have hM:=Zd3 hR;obtain⟨c0,c1,-,-,-,-,-,-,sf⟩:=hR.1.eight;have HR:=Zaa hR;have HK:=Zaa hK;have HE:=Zaa hE;have hl:=Zbn t;have S3:= @Zzl (Zab t) q;clear hR hK hE;by_cases hlt:q < t.size
  ·have g:(q:Int) < (t.size:Int):=by omega
   have hx:=Zhp t q hlt;have C:=Zaa (Zxm ((Zab t).getD q 0));have P:=Zaa (fun u=>Zqa (t.extract q t.size) ⟨#[47,47]⟩ u);rw[Zwo hlt]at P;have S1:=Zaa (Zv3 (bs:=Zab t) (p:=q) (by omega));have S2:=Zaa (Z0t (bs:=Zab t) (p:=q));cases hb:Z3i ((Zab t).getD q 0)
   ·rw[hb]at C;by_cases hn:q+1 < t.size/\(Zab t).getD q 0=47/\(Zab t).getD (q+1) 0=47
    ·rw[decide_eq_true hn]at P;have S:=Zaa (S2.out hb (by rw[hl];exact hn));have hs:=Zaa (Zn8 (bs:=Zab t) (p:=q) (by omega) hn.2.1);have CR:=Zaa (fun u (hu:Rd u b t q x)=>Zoo Zk6 hu);clear S1 S2 S3 hn hb;generalize (Zab t).getD q 0=c at*;go_wp2_with fail
     go_quiet (fail)
     go_wp2_with fail
     go_quiet ((go_at_call 170;first | exact Calls.quiet_of_same (C.out _) | exact Zdw C.out))
     go_wp2_with fail
     go_quiet ((go_at_call 171;first | exact Calls.quiet_of_same (P.out _) | exact Zdw P.out))
     go_wp2_with fail
     refine(CR.out _ (HR.out.dr _)).mono ?_;rintro e w1 ⟨rfl,hk,hr⟩;have hM1:=Zd3 hr;have HR1:=Zaa hr;have HK1:=Zaa ((HK.out.dr _).trans hk);clear hk hr;go_wp2_with fail
     go_roundw
     case rel=>exact⟨_,by have:=hs.out;omega,HR1.out,HK1.out,S.out.symm.trans HE.out⟩
     case measure=>
      have:=hs.out
      rw[hM,hM1];omega
    ·rw[decide_eq_false hn]at P;have E:Box (Zgv (Zab t) p=q):=⟨HE.out.symm.trans (S3 (fun z=>by rw[show Zi3 ((Zab t).getD q 0)=false from hb]at z;cases z.2) (by rw[hl];exact hn))⟩;clear S1 S2 S3 hn hb;generalize (Zab t).getD q 0=c at*;go_wp2_with fail
     go_quiet (fail)
     go_wp2_with fail
     go_quiet ((go_at_call 170;first | exact Calls.quiet_of_same (C.out _) | exact Zdw C.out))
     go_wp2_with fail
     go_quiet ((go_at_call 171;first | exact Calls.quiet_of_same (P.out _) | exact Zdw P.out))
     go_wp2_with fail
     refine bodyPost_ret (by simp[results,Tryz.results124,go_sem];try rfl) rfl ?_;rw[E.out];exact⟨rfl,((HK.out.dr _).dr _).dr _,HR.out⟩
   ·rw[hb]at C;have S:=Zaa (S1.out hb);clear S1 S2 S3 P hb;generalize (Zab t).getD q 0=c at*;go_wp2_with fail
    go_quiet (fail)
    go_wp2_with fail
    go_quiet ((go_at_call 170;first | exact Calls.quiet_of_same (C.out _) | exact Zdw C.out))
    go_wp2_with fail
    go_roundw
    case rel=>exact⟨q+1,by omega,(HR.out.dr _).next hlt,(HK.out.dr _).set _ _,S.out.symm.trans HE.out⟩
    case measure=>
     rw[hM,Zd3 ((HR.out.dr _).next hlt)];omega
  ·obtain rfl:q=t.size:=by omega
   have E:Box (Zgv (Zab t) p=t.size):=⟨HE.out.symm.trans (S3 (by omega) (by omega))⟩;go_wp2_with fail
   go_quiet (fail)
   go_wp2_with fail
   rw[E.out];exact⟨rfl,_,(by simp[results,Tryz.results124,go_sem];try rfl),rfl,HK.out.dr _,HR.out.dr _⟩
end Go.P
namespace Go.W
def Zee (t:ByteArray) (x:Tk) (p:Nat):Except (Int×Nat) (Unit×Tk×Nat):=
 let q:=Zbv (Zab t) Zav (p+1)
 if 16 < q - (p+1)then .error (4,x.at_)else if Zcp (t.extract (p+1) q)=false then .error (1,x.at_)else .ok ((),{x with k:=1,i:=0,s:=t.extract (p+1) q},q)
end Go.W
namespace Go.P
variable {w:World}{b p:Nat}{t:ByteArray}{x:Tk}
theorem Rd.term (h:Rd w b t p x)(k i:Int)(s:ByteArray):Rd ((((w.setCell ⟨b,4,none⟩ (.int .i64 k)).setCell ⟨b,5,none⟩ (.int .i64 i)).setCell ⟨b,6,none⟩ (.string s)).setCell ⟨b,7,none⟩ (.slice none 0 0)) b t p {x with k:=k,i:=i,s:=s}:=⟨(((h.1.set 4 _).set 5 _).set 6 _).set 7 _,h.2⟩
theorem Rd.text (h:Rd w b t p x)(s:ByteArray):Rd (w.setCell ⟨b,3,none⟩ (.string s)) b t p {x with text:=s}:=⟨h.1.set 3 _,h.2⟩
theorem _root_.Go.W.Zaf.term {w0:World}{v4 v5 v6 v7:Value}(h:Zaf b w0 w):Zaf b w0 ((((w.setCell ⟨b,4,none⟩ v4).setCell ⟨b,5,none⟩ v5).setCell ⟨b,6,none⟩ v6).setCell ⟨b,7,none⟩ v7):=(((h.set _ _).set _ _).set _ _).set _ _
def Zey {α:Type} (a:Nat->Addr) (b:Nat) (t:ByteArray) (V:World->Value->α->Prop) (w:World) (Y:Except (Int×Nat) (α×Tk×Nat)) (e:Ending) (w':World):Prop:=
 Zaf b w w'/\((∃ n p,Y= .error (n,p)/\n≠0/\Zfo a n p w.heap.size e w')\/ ∃ v y x q,Y= .ok (y,x,q)/\e= .returned v/\V w' v y/\Rd w' b t q x)
def VU (_:World) (v:Value) (_:Unit):Prop:=v= .tuple #[]
theorem Zmt {a:Nat->Addr}(Z:Zap a w)(h:Rd w b t p x)(hp:p < t.size):
  Calls Tryz.prog 127 #[.pointer (some ⟨b,0,none⟩)] w (Zey a b t VU w (Zee t x p)):=by
 have ht:=h.2.1;have hg:=h.2.2.2;obtain⟨c0,c1,-,-,-,-,-,-,sf⟩:=h.1.eight;have HN:=Zaa (h.next hp);have CR:=Zaa (Zoo Zg2 (h.next hp));have hl:=Zbn t;have hs:=Zha (bs:=Zab t) (ok:=Zav) (p:=p+1) (by omega);have F:Box (Zee t x p=if 16 < Zbv (Zab t) Zav (p+1) - (p+1)then .error (4,x.at_)else if Zcp (t.extract (p+1) (Zbv (Zab t) Zav (p+1)))=false then .error (1,x.at_)else .ok ((),{x with k:=1,i:=0,s:=t.extract (p+1) (Zbv (Zab t) Zav (p+1))},Zbv (Zab t) Zav (p+1))):=⟨rfl⟩;generalize Zbv (Zab t) Zav (p+1)=q at*;have hz:(t.extract (p+1) q).size=q - (p+1):=by rw[Ydz];omega
 generalize t.extract (p+1) q=s at*;have ZZ:=Zaa Z;have HK0:=Zaa ((Zaf.refl b w).set 1 (.int .i64 ((p:Int)+1)));clear h Z;go_enter Tryz.func127,Tryz.ntmps127
 go_wp2_with fail
 refine CR.out.mono ?_;rintro e w1 ⟨rfl,hk,hr⟩;have ZA:=Zaa (ZZ.out.keeps (HK0.out.trans hk) hg);have HK:=Zaa (HK0.out.trans hk);have HR:=Zaa hr;obtain⟨d0,d1,-,-,-,-,-,-,sf1⟩:=hr.1.eight;have C1:=Zaa (fun n (hn:n≠0)=>Zbh a hn hr);have C2:=Zaa (fun u=>Zlq s u (by omega));have C3:=Zaa (fun u=>Zr9 s u (by omega));have z4:=ZA.out.c4;have z1:=ZA.out.c1;clear hk hr CR HN c0 c1 sf ZZ HK0;by_cases h16:16 < s.size
 ·have g:(16:Int) < (s.size:Int):=by omega
  have Y:Box (Zee t x p= .error (4,x.at_)):=⟨by rw[F.out,if_pos (by omega)]⟩;go_wp2_with fail
  refine(C1.out 4 (by decide)).mono ?_;rintro e w2 ⟨⟨L,hL,rfl,hB⟩,hb⟩;exact⟨rfl,HK.out.ofBelow hb,Or.inl ⟨4,_,Y.out,by decide,L,Ycu HK.out.size hL,rfl,hB⟩⟩
 ·have g: ¬ (16:Int) < (s.size:Int):=by omega
  clear C1 z4;go_wp2_with fail
  refine(C2.out _).mono ?_;rintro e w2 ⟨rfl,hb⟩;have hr2:=HR.out.of hb;have z1:=Zac z1 hb;have HK2:=Zaa (HK.out.ofBelow hb);have HR2:=Zaa hr2;have C1:=Zaa (Zbh a (n:=1) (by decide) hr2);obtain⟨d0,d1,-,-,-,-,-,-,sf2⟩:=hr2.1.eight;clear sf1 hr2 hb;cases hn:Zcp s
  ·have Y:Box (Zee t x p= .error (1,x.at_)):=⟨by rw[F.out,if_neg (by omega),if_pos hn]⟩;go_wp2_with fail
   refine C1.out.mono ?_;rintro e w3 ⟨⟨L,hL,rfl,hB⟩,hb⟩;exact⟨rfl,HK2.out.ofBelow hb,Or.inl ⟨1,_,Y.out,by decide,L,Ycu HK2.out.size hL,rfl,hB⟩⟩
  ·have Y:Box (Zee t x p= .ok ((),{x with k:=1,i:=0,s:=s},q)):=⟨by rw[F.out,if_neg (by omega),if_neg (by rw[hn];simp)]⟩;clear C1 z1;go_wp2_with fail
   refine(C3.out _).mono ?_;rintro e w3 ⟨rfl,hb⟩;have hr3:=HR2.out.of hb;have HK3:=Zaa (HK2.out.ofBelow hb);have HR3:=Zaa hr3;obtain⟨e0,e1,-,-,e4,e5,e6,e7,sf3⟩:=hr3.1.eight;clear sf2 hr3 hb d0 d1;go_wp2_with fail
   exact⟨rfl,_,(by simp[results,Tryz.results127,go_sem];try rfl),HK3.out.term,Or.inr ⟨_,_,_,_,Y.out,rfl,rfl,HR3.out.term 1 0 s⟩⟩
end Go.P
namespace Go.W
def Zm3 (bs:List Nat):Nat->Nat->List UInt8
 | 0,_=>[]
 | n+1,p=>UInt8.ofNat (16*Zdd (bs.getD p 0)+Zdd (bs.getD (p+1) 0))::Zm3 bs n (p+2)
def Zg3 (t:ByteArray) (x:Tk) (p:Nat):Except (Int×Nat) (Unit×Tk×Nat):=
 let q:=Zbv (Zab t) Zdh p
 if(q - p) % 2≠0 then .error (1,x.at_)else if 64 < (q - p) / 2 then .error (4,x.at_)else .ok ((),{x with k:=4,i:=0,s:=⟨(Zm3 (Zab t) ((q - p) / 2) p).toArray⟩},q)
def Zp7 (t:ByteArray) (x:Tk) (p:Nat):Except (Int×Nat) (Unit×Tk×Nat):=
 let q:=Zbv (Zab t) Zav p
 if 16 < q - p then .error (4,x.at_)else if(t.extract p q).toList=[104,101,120]/\(Zab t).getD q 0=58 then Zg3 t x (q+1)else .ok ((),{x with text:=t.extract p q},q)
theorem Z8w {t:ByteArray}{q:Nat}(h:(Zab t).getD q 0=58):q < t.size:=by
 rcases Yel q t.size with g | g
 ·exact g
 ·simp[List.getD,Zbn,g]at h
end Go.W
namespace Go.P
def Zni:Prop:= ∀ {a:Nat->Addr} {w:World} {b:Nat} {t:ByteArray} {p:Nat} {x:Tk},Zap a w->Rd w b t p x->Calls Tryz.prog 176 #[.pointer (some ⟨b,0,none⟩)] w (Zey a b t VU w (Zg3 t x p))
theorem Zuo (RB:Zni){a:Nat->Addr}{w:World}{b:Nat}{t:ByteArray}{p:Nat}{x:Tk}(Z:Zap a w)(h:Rd w b t p x):
  Calls Tryz.prog 126 #[.pointer (some ⟨b,0,none⟩)] w (Zey a b t VU w (Zp7 t x p)):=by
 have ht:=h.2.1;have hg:=h.2.2.2;have hp:=h.2.2.1;have CR:=Zaa (Zoo Zg2 h);have hl:=Zbn t;have hs:=Zha (bs:=Zab t) (ok:=Zav) (p:=p) (by omega);have F:Box (Zp7 t x p=if 16 < Zbv (Zab t) Zav p - p then .error (4,x.at_)else if(t.extract p (Zbv (Zab t) Zav p)).toList=[104,101,120]/\(Zab t).getD (Zbv (Zab t) Zav p) 0=58 then Zg3 t x (Zbv (Zab t) Zav p+1)else .ok ((),{x with text:=t.extract p (Zbv (Zab t) Zav p)},Zbv (Zab t) Zav p)):=⟨rfl⟩;generalize Zbv (Zab t) Zav p=q at*;have hz:(t.extract p q).size=q - p:=by rw[Ydz];omega
 generalize t.extract p q=s at*;have ZZ:=Zaa Z;clear h Z;go_enter Tryz.func126,Tryz.ntmps126
 go_wp2_with fail
 refine CR.out.mono ?_;rintro e w1 ⟨rfl,hk,hr⟩;have ZA:=Zaa (ZZ.out.keeps hk hg);have HK:=Zaa hk;have HR:=Zaa hr;have C1:=Zaa (fun n (hn:n≠0)=>Zbh a hn hr);have C2:=Zaa (fun u (hu:Rd u b t q x)=>Zkf hu);have C3:=Zaa (fun u=>Zr9 s u (by omega));have z4:=ZA.out.c4;clear hk hr CR ZZ;by_cases h16:16 < s.size
 ·have g:(16:Int) < (s.size:Int):=by omega
  have Y:Box (Zp7 t x p= .error (4,x.at_)):=⟨by rw[F.out,if_pos (by omega)]⟩;go_wp2_with fail
  refine(C1.out 4 (by decide)).mono ?_;rintro e w2 ⟨⟨L,hL,rfl,hB⟩,hb⟩;exact⟨rfl,HK.out.ofBelow hb,Or.inl ⟨4,_,Y.out,by decide,L,Ycu HK.out.size hL,rfl,hB⟩⟩
 ·have g: ¬ (16:Int) < (s.size:Int):=by omega
  clear C1 z4;by_cases hx:s.toList=[104,101,120]
  ·go_wp2_with fail
   refine(C2.out _ HR.out).mono ?_;rintro e w2 ⟨rfl,hb⟩;have hr2:=HR.out.of hb;have ZB:=Zaa (ZA.out.below hb);have HK2:=Zaa (HK.out.ofBelow hb);have HR2:=Zaa hr2;obtain⟨d0,d1,-,d3,-,-,-,-,sf2⟩:=hr2.1.eight;clear hr2 hb;have LT:=Zaa (Z8w (t:=t) (q:=q));generalize (Zab t).getD q 0=c at*;by_cases hc:c=58
   ·have Y:Box (Zp7 t x p=Zg3 t x (q+1)):=⟨by rw[F.out,if_neg (by omega),if_pos ⟨hx,hc⟩]⟩;have hq:=LT.out hc;have g2:((c:Int)==58)=true:=by rw[beq_iff_eq];omega
    have RB':=Zaa (fun u (h1:Zap a u) (h2:Rd u b t (q+1) x)=>RB h1 h2);clear hc F LT RB;go_wp2_with fail
    refine(RB'.out _ (ZB.out.keeps ((Zaf.refl b w2).set _ _) hg) (HR2.out.next hq)).mono ?_;rintro e w3 ⟨hk3,⟨n,r,hy,hn,L,hL,rfl,hB⟩ | ⟨v,y,x2,r,hy,rfl,hv,hr3⟩⟩
    ·exact⟨rfl,(HK2.out.set _ _).trans hk3,Or.inl ⟨n,r,Y.out.trans hy,hn,L,by have:=HK2.out.size;simp at hL;omega,rfl,hB⟩⟩
    ·obtain rfl:v= .tuple #[]:=hv;have R:=Zaa (Ycs ((HK2.out.set 1 (.int .i64 ((q:Int)+1))).trans hk3) (Ycs (Y.out.trans hy) hr3));clear hk3 hy hr3;go_wp2_with fail
     refine bodyPost_ret (by simp[results,Tryz.results126,go_sem];try rfl) rfl ?_;exact⟨R.out.1,Or.inr ⟨_,_,_,_,R.out.2.1,rfl,rfl,R.out.2.2⟩⟩
   ·have Y:Box (Zp7 t x p= .ok ((),{x with text:=s},q)):=⟨by rw[F.out,if_neg (by omega),if_neg (fun z=>hc z.2)]⟩;have g2:((c:Int)==58)=false:=by rw[beq_eq_false_iff_ne];omega
    clear hc F LT RB;go_wp2_with fail
    refine(C3.out _).mono ?_;rintro e w3 ⟨rfl,hb⟩;have hr3:=HR2.out.of hb;have HK3:=Zaa (HK2.out.ofBelow hb);have HR3:=Zaa hr3;clear d0 d1 d3 sf2;obtain⟨d0,d1,-,d3,-,-,-,-,sf3⟩:=hr3.1.eight;clear hr3 hb;go_wp2_with fail
    exact⟨rfl,_,(by simp[results,Tryz.results126,go_sem];try rfl),HK3.out.set _ _,Or.inr ⟨_,_,_,_,Y.out,rfl,rfl,HR3.out.text s⟩⟩
  ·have Y:Box (Zp7 t x p= .ok ((),{x with text:=s},q)):=⟨by rw[F.out,if_neg (by omega),if_neg (fun z=>hx z.1)]⟩;go_wp2_with fail
   refine(C3.out _).mono ?_;rintro e w3 ⟨rfl,hb⟩;have hr3:=HR.out.of hb;have HK3:=Zaa (HK.out.ofBelow hb);have HR3:=Zaa hr3;obtain⟨d0,d1,-,d3,-,-,-,-,sf3⟩:=hr3.1.eight;clear hr3 hb;go_wp2_with fail
   exact⟨rfl,_,(by simp[results,Tryz.results126,go_sem];try rfl),HK3.out.set _ _,Or.inr ⟨_,_,_,_,Y.out,rfl,rfl,HR3.out.text s⟩⟩
end Go.P
namespace Go.W
def Zkz (bs:List Nat) (at_:Nat):Nat->Nat->Nat->Except (Int×Nat) (Nat×Nat)
 | 0,v,p=> .ok (v,p)
 | f+1,v,p=>if Zdh (bs.getD p 0)=true then Zkz bs at_ f (16*v+Zdd (bs.getD p 0)) (p+1)else .error (1,at_)
def Zk5 (t:ByteArray) (x:Tk) (p:Nat):Except (Int×Nat) (Nat×Tk×Nat):=match Zkz (Zab t) x.at_ 4 0 p with
 | .error e=> .error e
 | .ok (v,q)=>if Lib.validRune (v:Int)=true then .ok (v,x,q)else .error (1,x.at_)
theorem Z0q {bs:List Nat}{at_ f v p:Nat}:(Zdh (bs.getD p 0)=true->Zkz bs at_ (f+1) v p=Zkz bs at_ f (16*v+Zdd (bs.getD p 0)) (p+1))/\(Zdh (bs.getD p 0)=false->Zkz bs at_ (f+1) v p= .error (1,at_)):=
 ⟨fun h=>by rw[Zkz,if_pos h],fun h=>by rw[Zkz,if_neg (by rw[h];simp)]⟩
theorem Yap (a b:Nat)(ha:a < 2147483648)(hb:b < 2147483648):bits .or .i32 (a:Int) (b:Int)=((a ||| b:Nat):Int):=by
 have hx:a ||| b < 2 ^ 31:=Nat.or_lt_two_pow (by omega) (by omega);show IntKind.i32.wrap ((BitVec.ofInt 32 (a:Int) ||| BitVec.ofInt 32 (b:Int)).toNat:Int)=_;rw[BitVec.toNat_or,ofInt_u32 a (by omega),ofInt_u32 b (by omega),IntKind.wrap_i32];omega
theorem Z4j (v h:Nat)(hv:v < 4096)(hh:h < 16):bits .or .i32 ((v:Int)*16) (h:Int)=((16*v+h:Nat):Int):=by
 have e:((v:Int)*16)=((16*v:Nat):Int):=by omega
 rw[e,Yap _ _ (by omega) (by omega),nat_join 4 (16*v) h (by omega) (by omega)]
theorem Zh3 {c:Nat}(h:Zdh c=true):Zdd c < 16:=by
 simp[Zdh,Zaz]at h;unfold Zdd Zaz;split <;> simp_all <;> omega
end Go.W
namespace Go.P
def Z9s (b:Nat) (w:World) (t:ByteArray) (p:Nat) (x:Tk) (cv iv:Value) (wr:World):Prop:= ∃ k v q:Nat,k<=4/\v < 16 ^ k/\cv= .int .i32 (v:Int)/\iv= .int .i64 ((k:Nat):Int)/\Rd wr b t q x/\Zaf b w wr/\Zkz (Zab t) x.at_ (4 - k) v q=Zkz (Zab t) x.at_ 4 0 p
def Zyf (v:Value):Nat:=match v with
 | .int _ i=>i.toNat
 | _=>0
theorem Zlf {a:Nat->Addr}{w:World}{b:Nat}{t:ByteArray}{p:Nat}{x:Tk}(Z:Zap a w)(h:Rd w b t p x):
  Calls Tryz.prog 207 #[.pointer (some ⟨b,0,none⟩)] w (Zey a b t (fun _ v (y:Nat)=>v= .int .i32 (y:Int)/\Lib.validRune (y:Int)=true/\y < 65536) w (Zk5 t x p)):=by
 have hg:=h.2.2.2;go_enter Tryz.func207,Tryz.ntmps207
 go_wp2_with fail
 go_loopw [3,4] (fun cv iv wr=>Z9s b w t p x cv iv wr) (fun _ iv _=>4 - Zyf iv)
 case atStart=>exact⟨0,0,p,by omega,by decide,rfl,rfl,h,Zaf.refl _ _,rfl⟩
 case round=>
  obtain⟨k,v,q,hk,hv,rfl,rfl,hR,hK,hE⟩:=hrel;have ZA:=Zaa (Z.keeps hK hg);have HR:=Zaa hR;have HK:=Zaa hK;have HE:=Zaa hE;by_cases hlt:k < 4
  ·have g:(k:Int) < 4:=by omega
   have hv3:v < 4096:=by
    have:16 ^ k<=16 ^ 3:=Nat.pow_le_pow_right (by omega) (by omega)
    omega
   have hv4:16*v < 16 ^ (k+1):=by rw[Nat.pow_succ];omega
   have CP:=Zaa (fun u (hu:Rd u b t q x)=>Zkf hu);have S:=Z0q (bs:=Zab t) (at_:=x.at_) (f:=4 - (k+1)) (v:=v) (p:=q);rw[show 4 - (k+1)+1=4 - k by omega]at S;have h3:=hR.2.2.1;have hp0:Zdh ((Zab t).getD q 0)=true->q < t.size:=fun hh=>by
    rcases Yel q t.size with g | g
    ·exact g
    ·rw[show(Zab t).getD q 0=0 by simp[List.getD,Zbn,g]]at hh;cases hh
   have SS:=Zaa S;have HX:=Zaa (fun h=>Zh3 (c:=(Zab t).getD q 0) h);have CH:=Zaa (Zt0 ((Zab t).getD q 0));have CV:=Zaa (Zlz ((Zab t).getD q 0));have hp1:=Zaa hp0;clear hp0 S hR hK hE Z h;generalize (Zab t).getD q 0=c at*;go_wp2_with fail
   refine(CP.out _ HR.out).mono ?_;rintro e w1 ⟨rfl,hb1⟩;have HR1:=Zaa (HR.out.of hb1);have HK1:=Zaa (HK.out.ofBelow hb1);have ZB:=Zaa (ZA.out.below hb1);clear hb1;cases hh:Zdh c
   ·rw[hh]at CH;have Y:Box (Zk5 t x p= .error (1,x.at_)):=⟨by unfold Zk5;rw[<- HE.out,SS.out.2 hh]⟩;have z1:=ZB.out.c1;have C1:=Zaa (Zbh a (n:=1) (by decide) HR1.out);go_wp2_with (go_at_call 204;refine(CH.out _).mono ?_;rintro e w' ⟨rfl,rfl⟩)
    refine C1.out.mono ?_;rintro e w2 ⟨⟨L,hL,rfl,hB⟩,hb⟩;exact⟨rfl,HK1.out.ofBelow hb,Or.inl ⟨1,_,Y.out,by decide,L,Ycu HK1.out.size hL,rfl,hB⟩⟩
   ·rw[hh]at CH;have hx:=HX.out hh;have hq:=hp1.out hh;have CV1:=Zaa (fun u=>CV.out hh u);have E1:=Zaa (SS.out.1 hh);have J:=Zaa (Z4j v (Zdd c) hv3 hx);have hts:=HR1.out.2.1;have hq8:q < 8000:=by omega
    clear SS HX CV hh hp1;go_wp2_with (go_at_call 204;refine(CH.out _).mono ?_;rintro e w' ⟨rfl,rfl⟩)
    refine(CP.out _ HR1.out).mono ?_;rintro e w2 ⟨rfl,hb2⟩;have hr2:=HR1.out.of hb2;have HR2:=Zaa hr2;have HK2:=Zaa (HK1.out.ofBelow hb2);obtain⟨d0,d1,-,-,-,-,-,-,sf2⟩:=hr2.1.eight;clear hr2 hb2;generalize Zdd c=d at*;go_wp2_with (go_at_call 205;refine(CV1.out _).mono ?_;rintro e w' ⟨rfl,rfl⟩)
    refine⟨⟨k+1,16*v+d,q+1,by omega,by rw[Nat.pow_succ]at hv4⊢;omega,by rw[J.out],by simp,HR2.out.next hq,HK2.out.set _ _,E1.out.symm.trans HE.out⟩,by simp[Zyf];omega⟩
  ·obtain rfl:k=4:=by omega
   have C0:=Zaa (fun u=>Zss (v:Int) u);have z1:=ZA.out.c1;have C1:=Zaa (Zbh a (n:=1) (by decide) HR.out);have hv4:v < 65536:=hv;have E:Box (Zkz (Zab t) x.at_ 4 0 p= .ok (v,q)):=⟨HE.out.symm⟩;clear hR hK hE HE Z h hv;cases hr:Lib.validRune (v:Int)
   ·rw[hr]at C0;have Y:Box (Zk5 t x p= .error (1,x.at_)):=⟨by unfold Zk5;rw[E.out];simp[hr]⟩;go_wp2_with (go_at_call 229;refine(C0.out _).mono ?_;rintro e w' ⟨rfl,rfl⟩)
    refine C1.out.mono ?_;rintro e w2 ⟨⟨L,hL,rfl,hB⟩,hb⟩;exact⟨rfl,HK.out.ofBelow hb,Or.inl ⟨1,_,Y.out,by decide,L,Ycu HK.out.size hL,rfl,hB⟩⟩
   ·rw[hr]at C0;have Y:Box (Zk5 t x p= .ok (v,x,q)):=⟨by unfold Zk5;rw[E.out];simp[hr]⟩;go_wp2_with (go_at_call 229;refine(C0.out _).mono ?_;rintro e w' ⟨rfl,rfl⟩)
    go_ret
    exact⟨HK.out,Or.inr ⟨_,v,x,q,Y.out,rfl,⟨by simp,hr,hv4⟩,HR.out⟩⟩
end Go.P
namespace Go.W
variable {t:ByteArray}{x:Tk}{p:Nat}
def Zer:List (Nat×Nat):=[(34,34),(92,92),(110,10),(116,9),(114,13)]
def Zy9 (t:ByteArray) (x:Tk) (p:Nat):Except (Int×Nat) (Nat×Tk×Nat):=match Zer.find? (fun y=>decide (y.1=(Zab t).getD p 0))with
 | some y=> .ok (y.2,x,p+1)
 | none=>if(Zab t).getD p 0=117 then Zk5 t x (p+1)else .error (1,x.at_)
theorem Z93 {k:Nat}{y:Nat×Nat}(hk:Zer[k]?=some y)(h0: ∀ j y',j < k->Zer[j]?=some y'->y'.1≠(Zab t).getD p 0)(h1:y.1=(Zab t).getD p 0):Zy9 t x p= .ok (y.2,x,p+1):=by
 have:Zer.find? (fun y=>decide (y.1=(Zab t).getD p 0))=some y:=by
  rw[List.find?_eq_some_iff_getElem];refine⟨decide_eq_true h1,k,(Yc3.1 hk).1,(Yc3.1 hk).2,?_⟩;intro j hj;rw[decide_eq_false (h0 j _ hj (Yc0 _))];rfl
 unfold Zy9;rw[this]
theorem Ya1 (h0: ∀ j y',j < 5->Zer[j]?=some y'->y'.1≠(Zab t).getD p 0):Zy9 t x p=if(Zab t).getD p 0=117 then Zk5 t x (p+1)else .error (1,x.at_):=by
 have:Zer.find? (fun y=>decide (y.1=(Zab t).getD p 0))=none:=by
  rw[List.find?_eq_none];intro m hm;obtain⟨j,hj,rfl⟩:=List.getElem_of_mem hm;rw[decide_eq_false (h0 j _ hj (Yc0 _))];simp
 unfold Zy9;rw[this]
theorem Zzm {m:Nat}(h:m < 128):Lib.validRune (m:Int)=true:=by
 simp[Lib.validRune];omega
theorem Zoc {q:Nat}(h:(Zab t).getD q 0≠0):q < t.size:=by
 rcases Yel q t.size with g | g
 ·exact g
 ·exact absurd (by simp[List.getD,Zbn,g]) h
end Go.W
namespace Go.P
variable {a:Nat->Addr}{w:World}{b p:Nat}{t:ByteArray}{x:Tk}
theorem Zap.esc (h:Zap a w)(i:Nat)(c:Nat)(hs:Ybw[i]?=some c):w.cell? ⟨13,i,none⟩=some (.int .u8 (c:Int)):=by
 obtain⟨_,h0,h1⟩:=h;exact(h1 _ _ (by decide)).2.trans (h0.esc i c hs)
theorem Z5k (k:Nat)(h:k < 5): ∃ y:Nat×Nat,Zer[k]?=some y/\y.1≠0/\y.1 < 128/\y.2 < 128/\ ∀ w,(Instr.index 299 (.agg #[.int .u8 34,.int .u8 34,.int .u8 92,.int .u8 92,.int .u8 110,.int .u8 10,.int .u8 116,.int .u8 9,.int .u8 114,.int .u8 13]) (.int .i64 (k:Int))).run Tryz.prog w= .ok (.agg #[.int .u8 (y.1:Int),.int .u8 (y.2:Int)]) w:=by
 have g:k=0\/k=1\/k=2\/k=3\/k=4:=by omega
 rcases g with rfl | rfl | rfl | rfl | rfl;all_goals exact⟨_,rfl,by decide,by decide,by decide,fun _=>by kernel_rfl⟩
theorem Rd.alloc (h:Rd w b t p x)(o:Obj):Rd (w.alloc o) b t p x:=⟨h.1.alloc o,h.2⟩
def Yao (b:Nat) (w:World) (t:ByteArray) (p:Nat) (x:Tk) (iv:Value) (wr:World):Prop:= ∃ k:Nat,k<=5/\iv= .int .i64 (k:Int)/\Rd wr b t p x/\Zaf b w wr/\ ∀ j y',j < k->Zer[j]?=some y'->y'.1≠(Zab t).getD p 0
theorem Zp6 (Z:Zap a w)(h:Rd w b t p x):
  Calls Tryz.prog 178 #[.pointer (some ⟨b,0,none⟩)] w (Zey a b t (fun _ v (y:Nat)=>v= .int .i32 (y:Int)/\Lib.validRune (y:Int)=true/\y < 65536) w (Zy9 t x p)):=by
 have hg:=h.2.2.2;have m0:=Z.esc 0 _ rfl;have m1:=Z.esc 1 _ rfl;have m2:=Z.esc 2 _ rfl;have m3:=Z.esc 3 _ rfl;have m4:=Z.esc 4 _ rfl;have m5:=Z.esc 5 _ rfl;have m6:=Z.esc 6 _ rfl;have m7:=Z.esc 7 _ rfl;have m8:=Z.esc 8 _ rfl;have m9:=Z.esc 9 _ rfl;go_enter Tryz.func178,Tryz.ntmps178
 go_wp2_with fail
 clear m0 m1 m2 m3 m4 m5 m6 m7 m8 m9;go_loopw [6] (fun iv wr=>Yao b w t p x iv wr) (fun iv _=>5 - Zyf iv)
 case atStart=>exact⟨0,by omega,rfl,h,Zaf.refl _ _,fun j _ hj=>absurd hj (by omega)⟩
 case round=>
  obtain⟨k,hk,rfl,hR,hK,hall⟩:=hrel;have HR:=Zaa hR;have HK:=Zaa hK;have ZA:=Zaa (Z.keeps hK hg);have A:=Zaa hall;have hbl:=hR.1.lt;clear hall hR hK Z h;by_cases hlt:k < 5
  ·obtain⟨y,hy,y0,y1,y2,ik⟩:=Z5k k hlt;have g:(k:Int) < 5:=by omega
   have CP:=Zaa (fun n=>Zwy ((HR.out.alloc (.cells #[.int .u8 (y.1:Int),.int .u8 (y.2:Int)] 298)).dr n));have BL:=Zaa (Blk.new wr #[.int .u8 (y.1:Int),.int .u8 (y.2:Int)] 298);have l0:(wr.alloc (.cells #[.int .u8 (y.1:Int),.int .u8 (y.2:Int)] 298)).cell? ⟨wr.heap.size,0,none⟩=some (.int .u8 (y.1:Int)):=BL.out.two.1;have l1:(wr.alloc (.cells #[.int .u8 (y.1:Int),.int .u8 (y.2:Int)] 298)).cell? ⟨wr.heap.size,1,none⟩=some (.int .u8 (y.2:Int)):=BL.out.two.2.1;have HRa:=Zaa (HR.out.alloc (.cells #[.int .u8 (y.1:Int),.int .u8 (y.2:Int)] 298));obtain⟨c0,c1,-,-,-,-,-,-,sf⟩:=HRa.out.1.eight;have hb8:=HR.out.2.1;have GI:=Zaa (Zoc (t:=t) (q:=p));have E:=Zaa (fun(h1:y.1=(Zab t).getD p 0)=>Z93 (x:=x) hy A.out h1);have NX:=Zaa (fun(h1:y.1≠(Zab t).getD p 0)=>(fun j y' hj hy'=>by
    by_cases hjk:j=k
    ·subst hjk;rw[hy]at hy';cases hy';exact h1
    ·exact A.out j y' (by omega) hy': ∀ j y',j < k+1->Zer[j]?=some y'->y'.1≠(Zab t).getD p 0))
   clear A hy;obtain⟨l,m⟩:=y;simp only at y0 y1 y2 ik CP BL l0 l1 HRa c0 c1 sf E NX;generalize hc:(Zab t).getD p 0=c at*;by_cases he:l=c
   ·have g2:((l:Int)==(c:Int))=true:=by rw[beq_iff_eq];omega
    have Y:=Zaa (E.out he);have hp:=GI.out (by omega);clear E NX GI he hc;go_wp2_with fail
    go_quiet ((go_at_call 175;exact Calls.quiet_of (CP.out _)))
    go_wp2_with fail
    go_ret
    exact⟨((HK.out.alloc _).dr _).set _ _,Or.inr ⟨_,m,x,p+1,Y.out,rfl,⟨by simp,Zzm y2,by omega⟩,(HRa.out.dr _).next hp⟩⟩
   ·have g2:((l:Int)==(c:Int))=false:=by rw[beq_eq_false_iff_ne];omega
    have NN:=Zaa (NX.out he);clear E NX GI he;go_wp2_with fail
    go_quiet ((go_at_call 175;exact Calls.quiet_of (CP.out _)))
    go_wp2_with fail
    exact⟨⟨k+1,by omega,by simp,HRa.out.dr _,(HK.out.alloc _).dr _,by rw[hc];exact NN.out⟩,by simp[Zyf];omega⟩
  ·obtain rfl:k=5:=by omega
   have Y:=Zaa (Ya1 (x:=x) A.out);have CP:=Zaa (Zkf HR.out);have GI:=Zaa (Zoc (t:=t) (q:=p));generalize (Zab t).getD p 0=c at*;clear A;go_wp2_with fail
   refine CP.out.mono ?_;rintro e w1 ⟨rfl,hb⟩;have hr1:=HR.out.of hb;have HR1:=Zaa hr1;have HK1:=Zaa (HK.out.ofBelow hb);have ZB:=Zaa (ZA.out.below hb);obtain⟨c0,c1,-,-,-,-,-,-,sf⟩:=hr1.1.eight;clear hb hr1;by_cases hu:c=117
   ·have g2:((c:Int) != 117)=false:=by rw[bne_eq_false_iff_eq];omega
    have Y2:=Zaa (Y.out.trans (if_pos hu));have hp:=GI.out (by omega);have hb8:=HR1.out.2.1;have CC:=Zaa (fun u (h1:Zap a u) (h2:Rd u b t (p+1) x)=>Zlf h1 h2);clear Y GI hu;go_wp2_with fail
    refine(CC.out _ (ZB.out.keeps ((Zaf.refl b w1).set _ _) hg) (HR1.out.next hp)).mono ?_;rintro e w3 ⟨hk3,⟨n,r,hy,hn,L,hL,rfl,hB⟩ | ⟨v,y,x2,r,hy,rfl,⟨rfl,hv⟩,hr3⟩⟩
    ·exact⟨rfl,(HK1.out.set _ _).trans hk3,Or.inl ⟨n,r,Y2.out.trans hy,hn,L,by have:=HK1.out.size;simp at hL;omega,rfl,hB⟩⟩
    ·have R:=Zaa (Ycs ((HK1.out.set 1 (.int .i64 ((p:Int)+1))).trans hk3) (Ycs (Y2.out.trans hy) hr3));clear hk3 hy hr3;go_wp2_with fail
     go_ret
     exact⟨R.out.1,Or.inr ⟨_,_,_,_,R.out.2.1,rfl,⟨by simp,hv⟩,R.out.2.2⟩⟩
   ·have g2:((c:Int) != 117)=true:=by rw[bne_iff_ne];omega
    have Y2:=Zaa (Y.out.trans (if_neg hu));have z1:=ZB.out.c1;have C1:=Zaa (Zbh a (n:=1) (by decide) HR1.out);clear Y GI hu;go_wp2_with fail
    refine C1.out.mono ?_;rintro e w2 ⟨⟨L,hL,rfl,hB⟩,hb⟩;exact⟨rfl,HK1.out.ofBelow hb,Or.inl ⟨1,_,Y2.out,by decide,L,Ycu HK1.out.size hL,rfl,hB⟩⟩
end Go.P
