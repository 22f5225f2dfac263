import Derived.Test.YtghnjdpgbldlkaaGreatDoorW24
import Derived.Lib.RuneBytes
import Derived.Lib.TrimU
set_option linter.defProp false
set_option maxRecDepth 100000
set_option maxHeartbeats 8000000
set_option linter.unusedSimpArgs false
open Go.Proofs Go.RowKit Go.W Tryz
namespace Go.W
variable {t s:ByteArray}{x:Tk}{f p b:Nat}{acc:List UInt8}{o:Obj}
def Es (t:ByteArray) (x:Tk):Nat->Nat->List UInt8->Except (Int×Nat) (List UInt8×Nat)
 | 0,_,_=> .error (1,x.at_)
 | f+1,p,acc=>if(Ab t).getD p 0=34 then .ok (acc,p)else if p=t.size\/(Ab t).getD p 0=10 then .error (1,x.at_)
  else if(Ab t).getD p 0=92 then match NU t x (p+1)with
   | .error e=> .error e
   | .ok (y,_,q)=>Es t x f q (acc++Lib.encodeRune (y:Int))
  else if(Lib.decodeGo<|t.extract p t.size).1=65533/\(Lib.decodeGo<|t.extract p t.size).2=1 then .error (1,x.at_)
  else Es t x f (p+(Lib.decodeGo<|t.extract p t.size).2) (acc++Lib.encodeRune ((Lib.decodeGo<|t.extract p t.size).1:Nat))
def KF (t:ByteArray) (x:Tk) (p:Nat):Except (Int×Nat) (Unit×Tk×Nat):=match Es t x (t.size+1) (p+1) []with
 | .error e=> .error e
 | .ok (s,q)=>if 64<s.length then .error (4,x.at_)else .ok ((),{x with k:=3,i:=0,s:=⟨s.toArray⟩},q+1)
def Z06 (h:(Ab t).getD p 0=34):Es t x (f+1) p acc= .ok (acc,p):=by rw[Es,if_pos h]
def Z9t (h0:(Ab t).getD p 0≠34)(h:p=t.size\/(Ab t).getD p 0=10):Es t x (f+1) p acc= .error (1,x.at_):=by rw[Es,if_neg h0,if_pos h]
def Z9u (h0:(Ab t).getD p 0≠34)(h1: ¬ (p=t.size\/(Ab t).getD p 0=10))(h:(Ab t).getD p 0=92):(∀ e,NU t x (p+1)= .error e->Es t x (f+1) p acc= .error e)/\ ∀ y x' q,NU t x (p+1)= .ok (y,x',q)->Es t x (f+1) p acc=Es t x f q (acc++Lib.encodeRune (y:Int)):=by
 rw[Es,if_neg h0,if_neg h1,if_pos h];exact⟨fun e he=>by rw[he],fun y x' q he=>by rw[he]⟩
def Z6x (h0:(Ab t).getD p 0≠34)(h1: ¬ (p=t.size\/(Ab t).getD p 0=10))(h2:(Ab t).getD p 0≠92):((Lib.decodeGo<|t.extract p t.size).1=65533/\(Lib.decodeGo<|t.extract p t.size).2=1->Es t x (f+1) p acc= .error (1,x.at_))/\(¬ ((Lib.decodeGo<|t.extract p t.size).1=65533/\(Lib.decodeGo<|t.extract p t.size).2=1)->Es t x (f+1) p acc=Es t x f (p+(Lib.decodeGo<|t.extract p t.size).2) (acc++Lib.encodeRune ((Lib.decodeGo<|t.extract p t.size).1:Nat))):=by
 rw[Es,if_neg h0,if_neg h1,if_neg h2];exact⟨fun h=>by rw[if_pos h],fun h=>by rw[if_neg h]⟩
def Z0c {bs:List Nat}{at_:Nat}: ∀ {f v p r q:Nat},LM bs at_ f v p= .ok (r,q)->p<=q
 | 0,v,p,r,q,h=>by rw[LM]at h;cases h;exact JB _
 | f+1,v,p,r,q,h=>by
  rw[LM]at h;split at h
  ·have:=Z0c h
   omega
  ·cases h
def Yej {x2:Tk}{y r:Nat}(h:NU t x p= .ok (y,x2,r)):x2=x/\p<=r:=by
 unfold NU at h;split at h
 ·cases h;exact⟨rfl,zx⟩
 ·split at h
  ·unfold PI at h;split at h
   ·cases h
   ·rename_i hc
    have:=Z0c hc
    split at h
    ·cases h;exact⟨rfl,zx⟩
    ·cases h
  ·cases h
def Ycx (s:ByteArray):(Lib.decodeGo s).1<=1114111:=by
 unfold Lib.decodeGo;split
 ·decide
 ·rw[Lib.decode_at];exact Lib.decodeN_rune_le _ _ _ _ _<|UInt8.toNat_lt _
def Yai (h:s.size≠0):1<=(Lib.decodeGo s).2:=by
 unfold Lib.decodeGo;rw[if_neg h];exact Lib.width_pos s 0
def Yaj (h:s.size≠0):(Lib.decodeGo s).2<=s.size:=by
 unfold Lib.decodeGo;rw[if_neg h,Lib.decode_at];unfold Lib.decodeN
 repeat' split
 all_goals (simp only;omega)
section
variable {w w':World} {B:Nat} {e:TypeId} {v:Value} {n:Nat} {xs:List Value}
def XT (h:w.ownsRow B e 1 v n xs)(k: ∀ j,B<=j->j<w.heap.size->w'.heap[j]?=w.heap[j]?):w'.ownsRow B e 1 v n xs:=by
 refine⟨h.1,?_⟩;rcases h.2 with h0 | ⟨g,cap,cur,hv,hb,hg,rest⟩
 ·exact Or.inl h0
 ·exact Or.inr ⟨g,cap,cur,hv,hb,(k g hb (IU.1 hg).1).trans hg,rest⟩
def Yaz (h:w.ownsRow B e 1 v n xs){k:Nat}(hk:v.ownBlock=some k):B<=k:=by
 rcases h.2 with⟨rfl,_⟩ | ⟨g,cap,cur,rfl,hb,_⟩
 ·cases hk
 ·cases hk;exact hb
def Z6f (h:w.ownsRow B e 1 v n xs)(g:(w.alloc o).grownBy w' v.ownBlock){w0:World}(hB:w0.heap.size<=B)(k:Ac b w0 w):Ac b w0 w':=
 ⟨g.os.trans k.os,g.tape.trans k.tape,g.output.trans k.output,AU k.size<|AU zw g.size,fun j hj hb=>by
  have hjw:j<w.heap.size:=Ba hj k.size;rw[g.block j (by simp;omega) (fun hh=>by have:=Yaz h hh.symm;omega),Ah w o j hjw];exact k.block j hj hb⟩
def Z0z (h:w.ownsRow B e 1 v n xs)(g:(w.alloc o).grownBy w' v.ownBlock)(hb:b<B)(hw:b<w.heap.size):w'.heap[b]?=w.heap[b]?:=by
 rw[g.block b (by simp;omega) (fun hh=>by have:=Yaz h hh.symm;omega),Ah w o b hw]
end
end Go.W
namespace Go.P
variable {w:World}{a:Nat->Addr}{b p:Nat}{t:ByteArray}{x:Tk}
def Yad {B:Nat}{p:Option Addr}{n c:Nat}{acc:List UInt8}(h:w.ownsRow B 5 1 (.slice p n c) n (Lib.byteCells acc)):(convert 74 9<|.slice p n c).run prog w= .ok (.string ⟨acc.toArray⟩) w:=by
 have hl:acc.length=n:=by have:=h.1;simpa[Lib.byteCells]using this
 rcases h.2 with⟨h1,h2⟩ | ⟨g,cap,cur,hv,_,hg,hc,_,hs,ht⟩
 ·cases h1;obtain rfl:acc=[]:=Ht zx;exact run_convert_bytes_nil (P:=prog) w 74 5 underlying74 underlying5 0 0 9 underlying9
 ·cases hv;subst hl;refine oM (P:=prog) w 74 9 5 ⟨g,0,none⟩ c acc underlying74 underlying5 underlying9 fun j hj=>?_;have e:(⟨g,0,none⟩:Addr).add j=⟨g,j,none⟩:=by unfold Addr.add;split <;> simp_all
  rw[e,cell_of_row w g j cur _ (0,0) hg];have h3:(Lib.byteCells acc)[j]?=cur.toList[j]?:=by rw[<- ht,List.getElem?_take,if_pos zx]
  rw[<- UG,<- h3];simp[Lib.byteCells,hj]
def Aa.drew (h:Aa a w):Aa a w.drew:=h
def Rd.drew (h:Rd w b t p x):Rd w.drew b t p x:=h
def Ydw (b:Nat) (w:World) (t:ByteArray) (p:Nat) (x:Tk) (tv:Value) (wr:World):Prop:= ∃ (f q:Nat) (acc:List UInt8) (pp:Option Addr) (c:Nat),tv= .slice pp acc.length c/\p+1<=q/\acc.length<=4*q/\t.size<f+q/\wr.ownsRow w.heap.size 5 1 tv acc.length (Lib.byteCells acc)/\Rd wr b t q x/\Ac b w wr/\Es t x f q acc=Es t x (t.size+1) (p+1) []
def Zre (Z:Aa a w)(h:Rd w b t p x)(hp:p<t.size):
  Calls prog 113 #[.pointer<|Qb b 0] w (IA a b t VU w<|KF t x p):=by
 have ht:=h.2.1;have hg:=h.2.2.2;obtain⟨c0,c1,-,-,-,-,-,-,sf⟩:=h.1.eight;have Ep:=h.1.lt;have HN:=AA<|h.next hp;have dC:=AA<|(Ac.refl b w).set 1<|.int .i64<|(p:Int)+1;have ZZ:=AA Z;clear h Z;go_in
 go_wp2
 go_loopw [2] (fun tv wr=>Ydw b w t p x tv wr) (fun _ wr=>t.size-iV b wr)
 case atStart=>exact⟨t.size+1,p+1,[],none,0,rfl,zx,zw,zx,⟨rfl,Or.inl ⟨rfl,rfl⟩⟩,HN.out,dC.out,rfl⟩
 case round=>
  obtain⟨f,q,acc,pp,cc,rfl,hpq,hacc,hf,hO,hR,hK,hE⟩:=hrel;have hM:=Xe hR;have hq:=hR.2.2.1;obtain⟨f,rfl⟩: ∃ f',f=f'+1:=⟨f-1,zx⟩;have HO:=AA hO;have HR:=AA hR;have HK:=AA hK;have HE:=AA hE;have ZA:=AA<|ZZ.out.keeps hK hg;have hsz:=hK.size;have CP:=AA fun u (hu:Rd u b t q x)=>iY hu;have S0:=AA<|@Z06 t x f q acc;have S1:=AA<|@Z9t t x f q acc;have S2:=AA<|@Z9u t x f q acc;have S3:=AA<|@Z6x t x f q acc;have DN:AC ((Ab t).getD q 0≠0->q<t.size):=⟨fun hh=>iU hh⟩;clear hO hR hK hE HN dC c0 c1 sf ZZ;obtain⟨c,hcc⟩: ∃ c,(Ab t).getD q 0=c:=⟨_,rfl⟩;have HC:=AA hcc;rw[hcc]at CP S0 S1 S2 S3 DN;clear hcc;go_wp2_with fail
  refine(CP.out _ HR.out).mono ?_;rintro e w1 ⟨rfl,hb1⟩;have DZ:=AA<|HR.out.of hb1;have Gw:=AA<|HK.out.AR hb1;have ZB:=AA<|ZA.out.below hb1;have WQ:=AA (XT HO.out fun j _ hj=>hb1.block j hj);clear hb1 HR HK ZA HO;by_cases TT:c=34
  ·have g1:((c:Int) != 34)=false:=by rw[bne_eq_false_iff_eq];omega
   have E:AC (Es t x (t.size+1) (p+1) []= .ok (acc,q)):=⟨HE.out.symm.trans<|S0.out TT⟩;have Dv:=DN.out zx;obtain⟨d0,d1,-,-,-,-,-,-,sf1⟩:=DZ.out.1.eight;clear S0 S1 S2 S3 DN CP;have C1:=AA fun u (hu:Rd u b t (q+1) x)=>Nr a (n:=4) zu hu;have z4:=(ZB.out.keeps ((Ac.refl b w1).set 1<|.int .i64<|(q:Int)+1) hg).c4;by_cases Ej:64<acc.length
   ·have Y:AC (KF t x p= .error (4,x.at_)):=⟨by unfold KF;rw[E.out];simp only;rw[if_pos Ej]⟩;have g2:decide (64<(acc.length:Int))=true:=by simp;omega
    go_wp2_with fail
    refine(C1.out _<|DZ.out.next Dv).mono ?_;rintro e w2 ⟨⟨L,hL,rfl,hB⟩,hb⟩;exact⟨rfl,(Gw.out.set _ _).AR hb,Or.inl ⟨4,_,Y.out,zu,L,by have:=Gw.out.size;simp at hL;omega,rfl,hB⟩⟩
   ·have Y:AC (KF t x p= .ok ((),{x with k:=3,i:=0,s:=⟨acc.toArray⟩},q+1)):=⟨by unfold KF;rw[E.out];simp only;rw[if_neg Ej]⟩;have g2:decide (64<(acc.length:Int))=false:=by simp;omega
    have CV:=Yad (XT (w':=w1.setCell ⟨b,1,none⟩<|.int .i64<|(q:Int)+1) WQ.out fun j hj _=>Au w1 _ _ j (by show j≠b;omega));obtain⟨-,-,-,-,e4,e5,e6,e7,-⟩:=(DZ.out.next Dv).1.eight;clear C1 z4;go_wp2_with fail
    exact⟨rfl,_,(by simp[results,results113,go_sem];try rfl),(Gw.out.set _ _).term,Or.inr ⟨_,_,_,_,Y.out,rfl,rfl,(DZ.out.next Dv).term 3 0 _⟩⟩
  have g1:((c:Int) != 34)=true:=by rw[bne_iff_ne];omega
  have C1:=AA fun u (hu:Rd u b t q x)=>Nr a (n:=1) zu hu;clear S0;by_cases YQ:q=t.size
  ·have Y:AC (KF t x p= .error (1,x.at_)):=⟨by unfold KF;rw[<- HE.out,S1.out TT<|Or.inl YQ]⟩;have g2:((q:Int)==(t.size:Int))=true:=by rw[DJ];omega
   obtain⟨d0,d1,-,-,-,-,-,-,sf1⟩:=DZ.out.1.eight;have z1:=ZB.out.c1;clear S1 S2 S3 DN CP YQ;go_wp2
   go_quiet (fail)
   go_wp2_with fail
   refine(C1.out _<|DZ.out.dr _).mono ?_;rintro e w2 ⟨⟨L,hL,rfl,hB⟩,hb⟩;exact⟨rfl,(Gw.out.dr _).AR hb,Or.inl ⟨1,_,Y.out,zu,L,AU Gw.out.size hL,rfl,hB⟩⟩
  have Dv:q<t.size:=zx
  have g2:((q:Int)==(t.size:Int))=false:=by rw[BK];omega
  obtain⟨d0,d1,-,-,-,-,-,-,sf1⟩:=DZ.out.1.eight;have CD:=AA fun n=>uB (DZ.out.dr n);have hgd:AC ((Ab t).getD q 0=c):=HC;rw[hgd.out]at CD;by_cases h10:c=10
  ·have Y:AC (KF t x p= .error (1,x.at_)):=⟨by unfold KF;rw[<- HE.out,S1.out TT<|Or.inr h10]⟩;have g3:((c:Int)==10)=true:=by rw[DJ];omega
   have z1:=ZB.out.c1;clear S1 S2 S3 DN CP;go_wp2
   go_quiet ((go_at_call 165;exact Calls.quiet_of<|CD.out _))
   go_wp2_with fail
   refine(C1.out _<|DZ.out.dr _).mono ?_;rintro e w3 ⟨⟨L,hL,rfl,hB⟩,hb⟩;exact⟨rfl,(Gw.out.dr _).AR hb,Or.inl ⟨1,_,Y.out,zu,L,AU Gw.out.size hL,rfl,hB⟩⟩
  have g3:((c:Int)==10)=false:=by rw[BK];omega
  have hno: ¬ (q=t.size\/c=10):=zx
  clear S1;go_wp2
  go_quiet ((go_at_call 165;exact Calls.quiet_of<|CD.out _))
  have BF:=AA<|DZ.out.dr nq;have IE:=AA<|Gw.out.dr nq;have ZC:=AA<|ZB.out.below<|KR (n:=nq)<|AQ _ w1;have HO2:=AA (XT (w':=w1.drewN nq) WQ.out fun j _ hj=>rfl);clear DZ Gw ZB WQ d0 d1 sf1 CD;go_wp2_with fail
  refine(CP.out _ BF.out).mono ?_;rintro e w3 ⟨rfl,hb3⟩;have Du:=AA<|BF.out.of hb3;have D8:=AA<|IE.out.AR hb3;have ZD:=AA<|ZC.out.below hb3;have o7:=AA (XT HO2.out fun j _ hj=>hb3.block j hj);obtain⟨d0,d1,-,-,-,-,-,-,sf3⟩:=Du.out.1.eight;clear hb3 BF IE ZC HO2 CP;by_cases h92:c=92
  ·have g4:((c:Int)==92)=true:=by rw[DJ];omega
   have T:=AA<|S2.out TT hno h92;have CE:=AA fun u (h1:Aa a u) (h2:Rd u b t (q+1) x)=>Zrd h1 h2;clear S2 S3 C1 DN;go_wp2_with fail
   refine(CE.out _ (ZD.out.keeps ((Ac.refl b w3).set _ _) hg)<|Du.out.next Dv).mono ?_;rintro e w4 ⟨hk4,⟨n,r,hy,hn,L,hL,rfl,hB⟩ | ⟨v,y,x2,r,hy,rfl,⟨rfl,hv,hy6⟩,hr4⟩⟩
   ·have Y:AC (KF t x p= .error (n,r)):=⟨by unfold KF;rw[<- HE.out,T.out.1 _ hy]⟩;exact⟨rfl,(D8.out.set _ _).trans hk4,Or.inl ⟨n,r,Y.out,hn,L,by have:=D8.out.size;simp at hL;omega,rfl,hB⟩⟩
   ·obtain⟨rfl,hqr⟩:=Yej hy;have hsz4:=hk4.size;have hrl:=hr4.2.2.1;have EQ:AC (Es t x2 f r (acc++Lib.encodeRune (y:Int))=Es t x2 (t.size+1) (p+1) []):=⟨(T.out.2 _ _ _ hy).symm.trans HE.out⟩;have Zx:AC (w4.ownsRow w.heap.size 5 1 (.slice pp acc.length cc) acc.length<|Lib.byteCells acc):=⟨XT (XT (w':=w3.setCell ⟨b,1,none⟩<|.int .i64<|(q:Int)+1) o7.out fun j hj _=>Au w3 _ _ j (by show j≠b;omega)) fun j hj hl=>hk4.block j hl zx⟩;have Zz:=AA<|(D8.out.set 1<|.int .i64<|(q:Int)+1).trans hk4;have SH:=AA hr4;have AP:=AA<|Zj4 w.heap.size (.slice pp acc.length cc) acc.length (Lib.byteCells acc) (y:Int) zx zx w4 Zx.out zx Zz.out.size;have el:=Lib.encodeRuneZ_length (y:Int);clear hk4 hr4 hy T CE HE o7 D8 Du d0 d1 sf3;go_wp2_with fail
    refine AP.out.mono ?_;rintro e w5 ⟨v',rfl,BQ,o5,QX⟩;have J7:=Z6f Zx.out QX lr Zz.out;have Me:Rd w5 b t r x2:=⟨SH.out.1.of<|Z0z Zx.out QX Ep SH.out.1.lt,SH.out.2⟩;rw[<- Lib.byteCells_encodeRune,<- Lib.byteCells_append,Lib.byteCells_encodeRune]at BQ;obtain⟨pa,ca,rfl⟩:=V7 BQ;have R5:=AA<|AF BQ<|AF J7 Me;have lH:=Xe Me;clear BQ J7 Me QX AP;go_wp2_with fail
    have el2:=Lib.runeCells_le (y:Int);have iK:=Lib.runeCells_length (y:Int);exact⟨⟨f,r,acc++Lib.encodeRune (y:Int),pa,ca,by rw[Bq,iK],zx,by rw[Bq];omega,zx,by rw[Bq,<- iK];exact R5.out.1,R5.out.2.2,R5.out.2.1,EQ.out⟩,by rw[lH,hM];omega⟩
  have g4:((c:Int)==92)=false:=by rw[BK];omega
  have T:=AA<|S3.out TT hno h92;have qJ:(t.extract q t.size).size≠0:=by rw[U9];omega
  have wg:=Yai qJ;have wl:=Yaj qJ;have rl:=Ycx<|t.extract q t.size;rw[U9,Nat.min_self]at wl;have CU:=AA fun u (h1:Aa a u)=>Z9v h1 (t.extract q t.size);clear S2 S3 DN qJ;generalize (Lib.decodeGo<|t.extract q t.size).1=y at*;generalize (Lib.decodeGo<|t.extract q t.size).2=n at*;go_wp2
  go_region_with (go_at_call 170;refine(CU.out _ (by first | exact ZD.out | exact ZD.out.drew)).mono ?_;rintro e w4 ⟨rfl,hb4⟩)
  all_goals
   have SH:=AA<|Du.out.drew.of hb4;have Zz:=AA<|D8.out.drew.AR hb4;have ZE:=AA<|ZD.out.drew.below hb4;have Zx:=AA (XT (w':=w4) o7.out fun j _ hj=>hb4.block j hj);clear hb4 Du D8 ZD o7 CU d0 d1 sf3;by_cases O3:y=65533/\n=1
   ·have Y:AC (KF t x p= .error (1,x.at_)):=⟨by unfold KF;rw[<- HE.out,T.out.1 O3]⟩;obtain⟨rfl,rfl⟩:=O3;have z1:=ZE.out.c1;go_wp2_with fail
    refine(C1.out _ SH.out).mono ?_;rintro e w5 ⟨⟨L,hL,rfl,hB⟩,hb⟩;exact⟨rfl,Zz.out.AR hb,Or.inl ⟨1,_,Y.out,zu,L,AU Zz.out.size hL,rfl,hB⟩⟩
   have EQ:AC (Es t x f (q+n) (acc++Lib.encodeRune (y:Int))=Es t x (t.size+1) (p+1) []):=⟨(T.out.2 O3).symm.trans HE.out⟩;have AP:=AA<|Zj4 w.heap.size (.slice pp acc.length cc) acc.length (Lib.byteCells acc) (y:Int) zx zx w4 Zx.out zx Zz.out.size;have GG:((y:Int)==65533)=false\/((y:Int)==65533)=true/\((n:Int)==1)=false:=by
    by_cases h1:y=65533
    ·right
     exact⟨by rw[DJ];omega,by rw[BK];omega⟩
    ·left
     rw[BK];omega
   clear T HE C1 ZE O3;rcases GG with ga | ⟨ga,gb⟩;all_goals
    go_wp2_with fail
    refine AP.out.mono ?_;rintro e w5 ⟨v',rfl,BQ,o5,QX⟩;have J7:=Z6f Zx.out QX lr Zz.out;have Me:Rd w5 b t q x:=⟨SH.out.1.of<|Z0z Zx.out QX Ep SH.out.1.lt,SH.out.2⟩;rw[<- Lib.byteCells_encodeRune,<- Lib.byteCells_append,Lib.byteCells_encodeRune]at BQ;obtain⟨pa,ca,rfl⟩:=V7 BQ;have R5:=AA<|AF BQ<|AF J7 Me;have lH:=Xe<|Me.goes (q:=q+n) zx;obtain⟨d0,d1,-,-,-,-,-,-,sf3⟩:=Me.1.eight;clear BQ J7 Me QX AP;go_wp2_with fail
    have el2:=Lib.runeCells_le (y:Int);have iK:=Lib.runeCells_length (y:Int);refine⟨⟨f,q+n,acc++Lib.encodeRune (y:Int),pa,ca,by rw[Bq,iK],zx,by rw[Bq];omega,zx,by rw[Bq,<- iK];exact XT R5.out.1 fun j hj _=>Au w5 _ _ j (by show j≠b;omega),R5.out.2.2.goes zx,R5.out.2.1.set _ _,EQ.out⟩,?_⟩;rw[hM];simp at lH⊢;rw[lH];omega
end Go.P
namespace Go.W
variable {t:ByteArray}{x y:Tk}{p:Nat}{n q k:Int}
def ED (q:Nat):Tk:=⟨q,⟨#[]⟩,0,0,⟨#[]⟩⟩
def NS (t:ByteArray) (_q k:Int) (x:Tk) (p:Nat):Except (Int×Nat) (Unit×Tk×Nat):=match OO t x p with
 | .error e=> .error e
 | .ok (n,_,r)=> .ok ((),{x with k:=k,i:=n},r)
def Nl (t:ByteArray) (c q:Nat):Except (Int×Nat) (Unit×Tk×Nat):=
 if Jm c=true then Qj t (ED q) q else if c=36 then Tz t (ED q) q else if c=34 then KF t (ED q) q
 else if c=64 then NS t q 5 (ED q) (q+1)else if c=45\/Dr c=true then NS t q 2 (ED q) q else TX t (ED q) q
def BD (t:ByteArray) (p:Nat):Except (Int×Nat) (Unit×Tk×Nat):=
 if IP (Ab t) p=t.size then .ok ((),ED t.size,t.size)else Nl t ((Ab t).getD (IP (Ab t) p) 0) (IP (Ab t) p)
def EP (t:ByteArray) (x:Tk) (p:Nat):Except (Int×Nat) (Tk×Tk×Nat):=match BD t p with
 | .error e=> .error e
 | .ok (_,x',q)=> .ok (x,x',q)
def Yau {q:Nat}(h:OO t x p= .ok (n,y,q)):y=x:=by
 unfold OO at h;dsimp only at h;generalize (if(Ab t).getD p 0=45 then p+1 else p)=p1 at h;split at h
 ·cases h
 ·split at h
  ·cases h;rfl
  ·cases h
def Zsd {e:Int×Nat}(h:OO t x p= .error e):NS t q k x p= .error e:=by unfold NS;rw[h]
def Z6b {r:Nat}(h:OO t x p= .ok (n,y,r)):NS t q k x p= .ok ((),{x with k:=k,i:=n},r):=by unfold NS;rw[h]
end Go.W
namespace Go.P
variable {w w0:World}{b p L:Nat}{t:ByteArray}{x:Tk}{a:Nat->Addr}{x0 x1 x2 x3 x4 x5:Value}
def Rd.anew (h:Rd w b t p x){q:Nat}:Rd ((((((w.setCell ⟨b,2,none⟩<|.int .i64 (q:Int)).setCell ⟨b,3,none⟩<|.string ⟨#[]⟩).setCell ⟨b,4,none⟩<|.int .i64 0).setCell ⟨b,5,none⟩<|.int .i64 0).setCell ⟨b,6,none⟩<|.string ⟨#[]⟩).setCell ⟨b,7,none⟩<|.slice none 0 0) b t p (ED q):=⟨(((((h.1.set 2 _).set 3 _).set 4 _).set 5 _).set 6 _).set 7 _,h.2⟩
def _root_.Go.W.Ac.anew {v2 v3 v4 v5 v6 v7:Value}(h:Ac b w0 w):Ac b w0 ((((((w.setCell ⟨b,2,none⟩ v2).setCell ⟨b,3,none⟩ v3).setCell ⟨b,4,none⟩ v4).setCell ⟨b,5,none⟩ v5).setCell ⟨b,6,none⟩ v6).setCell ⟨b,7,none⟩ v7):=(((((h.set _ _).set _ _).set _ _).set _ _).set _ _).set _ _
def uW (Z:Aa a w)(h:Rd w b t p x):
  Calls prog 63 #[.pointer<|Qb b 0] w (IA a b t VU w<|BD t p):=by
 have ht:=h.2.1;have hg:=h.2.2.2;have CS:=AA<|Z91 h;have ZZ:=AA Z;have F:AC (BD t p=if IP (Ab t) p=t.size then .ok ((),ED t.size,t.size)else Nl t ((Ab t).getD (IP (Ab t) p) 0) (IP (Ab t) p)):=⟨rfl⟩;clear h Z;generalize IP (Ab t) p=q at*;go_in
 go_wp2_with fail
 refine CS.out.mono ?_;rintro e w1 ⟨rfl,hk,hr⟩;have HK:=AA hk;have HR:=AA hr;have ZA:=AA<|ZZ.out.keeps hk hg;have hq:=hr.2.2.1;obtain⟨c0,c1,c2,c3,c4,c5,c6,c7,sf⟩:=hr.1.eight;clear hk hr CS ZZ;obtain⟨w2,hw2⟩: ∃ w2,((((((w1.setCell ⟨b,2,none⟩<|.int .i64 (q:Int)).setCell ⟨b,3,none⟩<|.string ⟨#[]⟩).setCell ⟨b,4,none⟩<|.int .i64 0).setCell ⟨b,5,none⟩<|.int .i64 0).setCell ⟨b,6,none⟩<|.string ⟨#[]⟩).setCell ⟨b,7,none⟩<|.slice none 0 0)=w2:=⟨_,rfl⟩;have BF:AC (Rd w2 b t q<|ED q):=⟨hw2▸HR.out.anew⟩;have IE:AC (Ac b w w2):=⟨hw2▸HK.out.anew⟩;have Z2:AC (Aa a w2):=⟨hw2▸ZA.out.keeps (Ac.refl b w1).anew hg⟩;go_wp2_with fail
 clear hw2 c0 c1 c2 c3 c4 c5 c6 c7 sf HR HK ZA;obtain⟨c0,c1,c2,c3,c4,c5,c6,c7,sf⟩:=BF.out.1.eight;by_cases YQ:q=t.size
 ·have Y:AC (BD t p= .ok ((),ED q,q)):=⟨by rw[F.out,if_pos YQ,YQ]⟩;have g1:((q:Int)==(t.size:Int))=true:=by rw[DJ];omega
  clear YQ;go_quiet (fail)
  go_wp2
  refine CQ (by simp[results,results63,go_sem];try rfl) rfl ?_;exact⟨IE.out.dr _,Or.inr ⟨_,_,_,_,Y.out,rfl,rfl,BF.out⟩⟩
 have Y:=AA<|F.out.trans<|if_neg YQ;have g1:((q:Int)==(t.size:Int))=false:=by rw[BK];omega
 have Dv:q<t.size:=zx
 have hx:=V5 t q Dv;have C0:=AA<|wL<|(Ab t).getD q 0;have C1:=AA<|wM<|(Ab t).getD q 0;generalize (Ab t).getD q 0=c at*;clear F;go_quiet (fail)
 obtain⟨w5,Pe⟩: ∃ w3,w2.drewN nq=w3:=⟨_,rfl⟩;rw[Pe];have Zu:AC (Rd w5 b t q<|ED q):=⟨Pe▸BF.out.dr _⟩;have HK5:AC (Ac b w w5):=⟨Pe▸IE.out.dr _⟩;have Z5:AC (Aa a w5):=⟨Pe▸Z2.out.below (KR<|AQ _ _)⟩;clear Pe BF IE Z2 c0 c1 c2 c3 c4 c5 c6 c7 sf;obtain⟨c0,c1,c2,c3,c4,c5,c6,c7,sf⟩:=Zu.out.1.eight;go_wp2
 go_quiet (fail)
 obtain⟨w3,hw3⟩: ∃ w3,w5.drewN nq=w3:=⟨_,rfl⟩;rw[hw3];have Du:AC (Rd w3 b t q<|ED q):=⟨hw3▸Zu.out.dr _⟩;have D8:AC (Ac b w w3):=⟨hw3▸HK5.out.dr _⟩;have Z3:AC (Aa a w3):=⟨hw3▸Z5.out.below (KR<|AQ _ _)⟩;clear hw3 Zu HK5 Z5 c0 c1 c2 c3 c4 c5 c6 c7 sf;obtain⟨c0,c1,c2,c3,c4,c5,c6,c7,sf⟩:=Du.out.1.eight;cases hs:Jm c
 case' true=>
  rw[hs]at C0;have E:AC (BD t p=Qj t (ED q) q):=⟨by rw[Y.out];unfold Nl;rw[if_pos hs]⟩;go_wp2_with (first | (go_at_call 110;refine(C0.out _).mono ?_;rintro e w' ⟨rfl,rfl⟩) | (go_at_call 114;refine(C1.out _).mono ?_;rintro e w' ⟨rfl,rfl⟩))
  refine(Zw0 Zt3 Z3.out Du.out).mono ?_;rintro e w4 ⟨hk4,⟨n,r,hy,hn,L,hL,rfl,hB⟩ | ⟨v,y,x2,r,hy,rfl,hv,hr4⟩⟩
  ·exact⟨rfl,D8.out.trans hk4,Or.inl ⟨n,r,E.out.trans hy,hn,L,AU D8.out.size hL,rfl,hB⟩⟩
  ·obtain rfl:v= .tuple #[]:=hv;have R:=AA<|AF (D8.out.trans hk4)<|AF (E.out.trans hy) hr4;clear hk4 hy hr4;go_wp2_with fail
   exact⟨rfl,_,(by simp[results,results63,go_sem];try rfl),R.out.1,Or.inr ⟨_,_,_,_,R.out.2.1,rfl,rfl,R.out.2.2⟩⟩
 rw[hs]at C0;by_cases ah:c=36
 ·have E:AC (BD t p=Tz t (ED q) q):=⟨by rw[Y.out];unfold Nl;rw[if_neg (by rw[hs];simp),if_pos ah]⟩;have g2:((c:Int)==36)=true:=by rw[DJ];omega
  clear ah;go_wp2_with (first | (go_at_call 110;refine(C0.out _).mono ?_;rintro e w' ⟨rfl,rfl⟩) | (go_at_call 114;refine(C1.out _).mono ?_;rintro e w' ⟨rfl,rfl⟩))
  refine(Zob Z3.out Du.out Dv).mono ?_;rintro e w4 ⟨hk4,⟨n,r,hy,hn,L,hL,rfl,hB⟩ | ⟨v,y,x2,r,hy,rfl,hv,hr4⟩⟩
  ·exact⟨rfl,D8.out.trans hk4,Or.inl ⟨n,r,E.out.trans hy,hn,L,AU D8.out.size hL,rfl,hB⟩⟩
  ·obtain rfl:v= .tuple #[]:=hv;have R:=AA<|AF (D8.out.trans hk4)<|AF (E.out.trans hy) hr4;clear hk4 hy hr4;go_wp2_with fail
   exact⟨rfl,_,(by simp[results,results63,go_sem];try rfl),R.out.1,Or.inr ⟨_,_,_,_,R.out.2.1,rfl,rfl,R.out.2.2⟩⟩
 have g2:((c:Int)==36)=false:=by rw[BK];omega
 by_cases TT:c=34
 ·have E:AC (BD t p=KF t (ED q) q):=⟨by rw[Y.out];unfold Nl;rw[if_neg (by rw[hs];simp),if_neg ah,if_pos TT]⟩;have g3:((c:Int)==34)=true:=by rw[DJ];omega
  clear TT;go_wp2_with (first | (go_at_call 110;refine(C0.out _).mono ?_;rintro e w' ⟨rfl,rfl⟩) | (go_at_call 114;refine(C1.out _).mono ?_;rintro e w' ⟨rfl,rfl⟩))
  refine(Zre Z3.out Du.out Dv).mono ?_;rintro e w4 ⟨hk4,⟨n,r,hy,hn,L,hL,rfl,hB⟩ | ⟨v,y,x2,r,hy,rfl,hv,hr4⟩⟩
  ·exact⟨rfl,D8.out.trans hk4,Or.inl ⟨n,r,E.out.trans hy,hn,L,AU D8.out.size hL,rfl,hB⟩⟩
  ·obtain rfl:v= .tuple #[]:=hv;have R:=AA<|AF (D8.out.trans hk4)<|AF (E.out.trans hy) hr4;clear hk4 hy hr4;go_wp2_with fail
   exact⟨rfl,_,(by simp[results,results63,go_sem];try rfl),R.out.1,Or.inr ⟨_,_,_,_,R.out.2.1,rfl,rfl,R.out.2.2⟩⟩
 have g3:((c:Int)==34)=false:=by rw[BK];omega
 by_cases Ej:c=64
 ·have E:AC (BD t p=NS t q 5 (ED q) (q+1)):=⟨by rw[Y.out];unfold Nl;rw[if_neg (by rw[hs];simp),if_neg ah,if_neg TT,if_pos Ej]⟩;have g4:((c:Int)==64)=true:=by rw[DJ];omega
  clear Ej;go_wp2_with (first | (go_at_call 110;refine(C0.out _).mono ?_;rintro e w' ⟨rfl,rfl⟩) | (go_at_call 114;refine(C1.out _).mono ?_;rintro e w' ⟨rfl,rfl⟩))
  refine(Zqc (Z3.out.keeps ((Ac.refl b _).set _ _) hg)<|Du.out.next Dv).mono ?_;rintro e w4 ⟨hk4,⟨n,r,hy,hn,L,hL,rfl,hB⟩ | ⟨v,y,x2,r,hy,rfl,hv,hr4⟩⟩
  ·exact⟨rfl,(D8.out.set _ _).trans hk4,Or.inl ⟨n,r,E.out.trans<|Zsd hy,hn,L,(by have:=D8.out.size;first | omega | (simp at hL;omega)),rfl,hB⟩⟩
  ·obtain rfl:v= .int .i64 y:=hv;obtain rfl:=Yau hy;have R:=AA<|AF ((D8.out.set 1<|.int .i64<|(q:Int)+1).trans hk4)<|AF (E.out.trans<|Z6b hy) hr4;obtain⟨d0,d1,d2,d3,d4,d5,d6,d7,sf4⟩:=hr4.1.eight;clear hk4 hy hr4 c0 c1 c2 c3 c4 c5 c6 c7 sf;go_wp2_with fail
   exact⟨rfl,_,(by simp[results,results63,go_sem];try rfl),R.out.1.term,Or.inr ⟨_,_,_,_,R.out.2.1,rfl,rfl,R.out.2.2.term 5 y ⟨#[]⟩⟩⟩
 have g4:((c:Int)==64)=false:=by rw[BK];omega
 by_cases Sn:c=45\/Dr c=true
 ·have E:AC (BD t p=NS t q 2 (ED q) q):=⟨by rw[Y.out];unfold Nl;rw[if_neg (by rw[hs];simp),if_neg ah,if_neg TT,if_neg Ej,if_pos Sn]⟩;have GG:((c:Int)==45)=true\/((c:Int)==45)=false/\Dr c=true:=by
   by_cases h45:c=45
   ·exact Or.inl (by rw[DJ];omega)
   ·exact Or.inr ⟨by rw[BK];omega,Sn.resolve_left h45⟩
  clear Sn;rcases GG with ga | ⟨ga,gb⟩
  case' inr=>rw[gb]at C1
  all_goals
   go_wp2_with (first | (go_at_call 110;refine(C0.out _).mono ?_;rintro e w' ⟨rfl,rfl⟩) | (go_at_call 114;refine(C1.out _).mono ?_;rintro e w' ⟨rfl,rfl⟩))
   refine(Zqc Z3.out Du.out).mono ?_;rintro e w4 ⟨hk4,⟨n,r,hy,hn,L,hL,rfl,hB⟩ | ⟨v,y,x2,r,hy,rfl,hv,hr4⟩⟩
   ·exact⟨rfl,D8.out.trans hk4,Or.inl ⟨n,r,E.out.trans<|Zsd hy,hn,L,(by have:=D8.out.size;first | omega | (simp at hL;omega)),rfl,hB⟩⟩
   ·obtain rfl:v= .int .i64 y:=hv;obtain rfl:=Yau hy;have R:=AA<|AF (D8.out.trans hk4)<|AF (E.out.trans<|Z6b hy) hr4;obtain⟨d0,d1,d2,d3,d4,d5,d6,d7,sf4⟩:=hr4.1.eight;clear hk4 hy hr4 c0 c1 c2 c3 c4 c5 c6 c7 sf;go_wp2_with fail
    exact⟨rfl,_,(by simp[results,results63,go_sem];try rfl),R.out.1.term,Or.inr ⟨_,_,_,_,R.out.2.1,rfl,rfl,R.out.2.2.term 2 y ⟨#[]⟩⟩⟩
 have E:AC (BD t p=TX t (ED q) q):=⟨by rw[Y.out];unfold Nl;rw[if_neg (by rw[hs];simp),if_neg ah,if_neg TT,if_neg Ej,if_neg Sn]⟩;have g5:((c:Int)==45)=false:=by rw[BK];omega
 have hd:Dr c=false:=by
  cases hdd:Dr c
  ·rfl
  ·exact absurd (Or.inr hdd) Sn
 rw[hd]at C1;go_wp2_with (first | (go_at_call 110;refine(C0.out _).mono ?_;rintro e w' ⟨rfl,rfl⟩) | (go_at_call 114;refine(C1.out _).mono ?_;rintro e w' ⟨rfl,rfl⟩))
 refine(Zwz Z3.out Du.out).mono ?_;rintro e w4 ⟨hk4,⟨n,r,hy,hn,L,hL,rfl,hB⟩ | ⟨v,y,x2,r,hy,rfl,hv,hr4⟩⟩
 ·exact⟨rfl,D8.out.trans hk4,Or.inl ⟨n,r,E.out.trans hy,hn,L,AU D8.out.size hL,rfl,hB⟩⟩
 ·obtain rfl:v= .tuple #[]:=hv;have R:=AA<|AF (D8.out.trans hk4)<|AF (E.out.trans hy) hr4;clear hk4 hy hr4;go_wp2_with fail
  exact⟨rfl,_,(by simp[results,results63,go_sem];try rfl),R.out.1,Or.inr ⟨_,_,_,_,R.out.2.1,rfl,rfl,R.out.2.2⟩⟩
def _root_.Go.W.AJ.six {e:TypeId}{a b c d f g:Value}(h:AJ w L #[a,b,c,d,f,g] e):w.cell? ⟨L,0,none⟩=some a/\w.cell? ⟨L,1,none⟩=some b/\w.cell? ⟨L,2,none⟩=some c/\w.cell? ⟨L,3,none⟩=some d/\w.cell? ⟨L,4,none⟩=some f/\w.cell? ⟨L,5,none⟩=some g/\ ∀ j,w.frozen? ⟨L,j,none⟩=false:=⟨h.cell 0,h.cell 1,h.cell 2,h.cell 3,h.cell 4,h.cell 5,h.soft⟩
def _root_.Go.W.Ac.r6 (h:Ac b w0 w)(hL:w0.heap.size<=L):Ac b w0 ((((((w.setCell ⟨L,0,none⟩ x0).setCell ⟨L,1,none⟩ x1).setCell ⟨L,2,none⟩ x2).setCell ⟨L,3,none⟩ x3).setCell ⟨L,4,none⟩ x4).setCell ⟨L,5,none⟩ x5):=((h.r4 hL).Ai _ _ _ hL).Ai _ _ _ hL
def Rd.r6 (h:Rd w b t p x)(hL:b≠L):Rd ((((((w.setCell ⟨L,0,none⟩ x0).setCell ⟨L,1,none⟩ x1).setCell ⟨L,2,none⟩ x2).setCell ⟨L,3,none⟩ x3).setCell ⟨L,4,none⟩ x4).setCell ⟨L,5,none⟩ x5) b t p x:=⟨(((((h.1.away _ _ hL _).away _ _ hL _).away _ _ hL _).away _ _ hL _).away _ _ hL _).away _ _ hL _,h.2⟩
def IK (x:Tk):Value:= .agg #[.int .i64 (x.at_:Int),.string x.text,.int .i64 x.k,.int .i64 x.i,.string x.s,.slice none 0 0]
def Ro (Z:Aa a w)(h:Rd w b t p x):
  Calls prog 70 #[.pointer<|Qb b 0] w (IA a b t (fun _ v y=>v=IK y) w<|EP t x p):=by
 have hg:=h.2.2.2;have Ep:=h.1.lt;have xh:=AA<|h.alloc<|.cells #[.int .i64 0,.string ⟨#[]⟩,.int .i64 0,.int .i64 0,.string ⟨#[]⟩,.slice none 0 0] 153;have Z0:=AA<|Z.below<|(AQ _ w).alloc lr<|.cells #[.int .i64 0,.string ⟨#[]⟩,.int .i64 0,.int .i64 0,.string ⟨#[]⟩,.slice none 0 0] 153;have K0:=AA<|(Ac.refl b w).alloc<|.cells #[.int .i64 0,.string ⟨#[]⟩,.int .i64 0,.int .i64 0,.string ⟨#[]⟩,.slice none 0 0] 153;have L0:=AA<|AJ.new w #[.int .i64 0,.string ⟨#[]⟩,.int .i64 0,.int .i64 0,.string ⟨#[]⟩,.slice none 0 0] 153;obtain⟨c0,c1,c2,c3,c4,c5,c6,c7,sf⟩:=xh.out.1.eight;have DZ:=AA<|xh.out.alloc<|.cells #[.int .i64 (x.at_:Int),.string x.text,.int .i64 x.k,.int .i64 x.i,.string x.s,.slice none 0 0] 153;have Z1:=AA<|Z0.out.below<|(AQ _ _).alloc lr<|.cells #[.int .i64 (x.at_:Int),.string x.text,.int .i64 x.k,.int .i64 x.i,.string x.s,.slice none 0 0] 153;have K1:=AA<|K0.out.alloc<|.cells #[.int .i64 (x.at_:Int),.string x.text,.int .i64 x.k,.int .i64 x.i,.string x.s,.slice none 0 0] 153;have L1:=AA<|AJ.new (w.alloc<|.cells #[.int .i64 0,.string ⟨#[]⟩,.int .i64 0,.int .i64 0,.string ⟨#[]⟩,.slice none 0 0] 153) #[.int .i64 (x.at_:Int),.string x.text,.int .i64 x.k,.int .i64 x.i,.string x.s,.slice none 0 0] 153;have L2:=AA<|L0.out.alloc<|.cells #[.int .i64 (x.at_:Int),.string x.text,.int .i64 x.k,.int .i64 x.i,.string x.s,.slice none 0 0] 153;have CR:=AA<|uW Z1.out DZ.out;clear Z h xh Z0 K0 L0;go_in
 go_wp2_with fail
 refine CR.out.mono ?_;rintro e w1 ⟨hk4,⟨n,r,hy,hn,L,hL,rfl,hB⟩ | ⟨v,y,x2,r,hy,rfl,hv,hr4⟩⟩
 ·exact⟨rfl,K1.out.trans hk4,Or.inl ⟨n,r,by unfold EP;rw[hy],hn,L,by simp at hL;omega,rfl,hB⟩⟩
 ·obtain rfl:v= .tuple #[]:=hv;have M1:=L1.out.of<|hk4.block _ zw (by simp;omega);have M2:=L2.out.of<|hk4.block _ (by simp;omega) zx;simp only[EH]at M1;have Y:AC (EP t x p= .ok (x,x2,r)):=⟨by unfold EP;rw[hy]⟩;have R:=AA<|AF (K1.out.trans hk4) hr4;obtain⟨d0,d1,d2,d3,d4,d5,sd⟩:=M1.six;obtain⟨f0,f1,f2,f3,f4,f5,sg⟩:=M2.six;clear hk4 hy hr4 c0 c1 c2 c3 c4 c5 c6 c7 sf DZ Z1 K1 L1 L2 CR M1 M2;go_wp2
  refine CQ (by simp[results,results70,go_sem,f0,f1,f2,f3,f4,f5];try rfl) rfl ?_;exact⟨R.out.1.r6 lr,Or.inr ⟨_,x,_,_,Y.out,rfl,rfl,R.out.2.r6 zx⟩⟩
end Go.P
namespace Go.W
abbrev Re (α:Type):=Except (Int×Nat)<|α×Tk×Nat
def BU {α β:Type} (m:Re α) (f:α->Tk->Nat->Re β):Re β:=match m with
 | .error e=> .error e
 | .ok (y,x,p)=>f y x p
def Ef {α β:Type}{m:Re α}{e:Int×Nat}(h:m= .error e){f:α->Tk->Nat->Re β}:BU m f= .error e:=by rw[h];rfl
def Cc {α β:Type}{m:Re α}{y:α}{x:Tk}{p:Nat}(h:m= .ok (y,x,p)){f:α->Tk->Nat->Re β}:BU m f=f y x p:=by rw[h];rfl
def JH (t:ByteArray) (s:List UInt8) (x:Tk) (p:Nat):Re Unit:=if x.text.toList=s then BU (EP t x p) fun _ x' p'=> .ok ((),x',p')else .error (2,x.at_)
def Gg {α:Type} (t:ByteArray) (read:Tk->Nat->Re α) (s:List UInt8) (most:Nat):Nat->List α->Tk->Nat->Re (List α)
 | 0,_,x,_=> .error (4,x.at_)
 | n+1,xs,x,p=>BU (read x p) fun y x1 p1=>if xs.length=most then .error (4,x.at_)else if x1.text.toList=s then BU (EP t x1 p1) fun _ x2 p2=>Gg t read s most n (xs++[y]) x2 p2 else .ok (xs++[y],x1,p1)
def Oe (t:ByteArray) (read:Tk->Nat->Re T) (s:List UInt8) (x:Tk) (p:Nat):Re (List T):=BU (if x.text.toList=s then .ok ([],x,p)else Gg t read [44] 6 7 [] x p) fun l x1 p1=>BU (JH t s x1 p1) fun _ x2 p2=> .ok (l,x2,p2)
def H7:List UInt8:=[116,114,117,101]
def EO (t:ByteArray):Nat->Tk->Nat->Re T
 | 0,x,p=>if H8 x.text=true then BU (EP t x p) fun _ x1 p1=> .ok (.mk 6 (if x.text.toList=H7 then 1 else 0) ⟨#[]⟩ [],x1,p1)else if x.text.toList=[91]then .error (3,x.at_)else if x.k=0\/x.k=1 then .error (2,x.at_)else BU (EP t x p) fun _ x1 p1=> .ok (.mk x.k x.i x.s [],x1,p1)
 | d+1,x,p=>if H8 x.text=true then BU (EP t x p) fun _ x1 p1=> .ok (.mk 6 (if x.text.toList=H7 then 1 else 0) ⟨#[]⟩ [],x1,p1)else if x.text.toList=[91]then BU (EP t x p) fun _ x1 p1=>BU (Oe t (EO t d) [93] x1 p1) fun l x2 p2=> .ok (.mk 7 0 ⟨#[]⟩ l,x2,p2)else if x.k=0\/x.k=1/\d+1<3 then .error (2,x.at_)else BU (EP t x p) fun _ x1 p1=> .ok (.mk x.k x.i x.s [],x1,p1)
def GM (s:ByteArray):Bool:=decide (s.size≠0) && Jm ((Ab s).getD 0 0)
def OZ (t:ByteArray) (x:Tk) (p:Nat):Re A:=if GM x.text=true/\TZ x.text=false then BU (EP t x p) fun _ x1 p1=>BU (JH t [40] x1 p1) fun _ x2 p2=>BU (Oe t (EO t 3) [41] x2 p2) fun l x3 p3=> .ok (⟨x.text,l⟩,x3,p3)else .error (2,x.at_)
def OB (s:ByteArray):Nat:=match JO.findIdx? (fun m=>decide (m=s))with
 | some i=>i+1
 | none=>0
def Vx (t:ByteArray) (x:Tk) (p:Nat):Re G:=BU (EO t 3 x p) fun a x1 p1=>if OB x1.text=0 then .error (2,x1.at_)else BU (EP t x1 p1) fun _ x2 p2=>BU (EO t 3 x2 p2) fun b x3 p3=> .ok (⟨OB x1.text,a,b⟩,x3,p3)
def Qi (t:ByteArray) (r:R) (x:Tk) (p:Nat):Re R:=if GM x.text=true/\H8 x.text=false then BU (OZ t x p) fun a x1 p1=>if r.body.length=4 then .error (4,x.at_)else .ok ({r with body:=r.body++[a]},x1,p1)else BU (Vx t x p) fun g x1 p1=>if r.guards.length=4 then .error (4,x.at_)else .ok ({r with guards:=r.guards++[g]},x1,p1)
def Iw (t:ByteArray):Nat->R->Tk->Nat->Re R
 | 0,_,x,_=> .error (4,x.at_)
 | n+1,r,x,p=>BU (Qi t r x p) fun r1 x1 p1=>if x1.text.toList=[44]then BU (EP t x1 p1) fun _ x2 p2=>Iw t n r1 x2 p2 else .ok (r1,x1,p1)
def Jh:R:=⟨⟨⟨#[]⟩,[]⟩,[],[]⟩
def MN (t:ByteArray) (x:Tk) (p:Nat):Re R:=BU (Iw t 9 Jh x p) fun r x1 p1=>if r.guards.all (fun g=>Ez [g.a,g.b] r.body)=true then .ok (r,x1,p1)else .error (5,x.at_)
def Ti (t:ByteArray) (x:Tk) (p:Nat):Re (List R):=BU (JH t [105,102] x p) fun _ x1 p1=>Gg t (MN t) [111,114] 4 5 [] x1 p1
def Rf (t:ByteArray) (b:Bk) (x:Tk) (p:Nat):Re Bk:=BU (EP t x p) fun _ x1 p1=>BU (Ti t x1 p1) fun l x2 p2=>if b.checks.length=24 then .error (4,x.at_)else .ok ({b with checks:=b.checks++[l]},x2,p2)
def Ns (t:ByteArray) (b:Bk) (x:Tk) (p:Nat):Re Bk:=BU (OZ t x p) fun h x1 p1=>if x1.text.toList=[60,45]then BU (EP t x1 p1) fun _ x2 p2=>BU (MN t x2 p2) fun r x3 p3=>if Ez h.terms r.body=false then .error (5,x.at_)else if b.rules.length=24 then .error (4,x.at_)else .ok ({b with rules:=b.rules++[{r with head:=h}]},x3,p3)else if Ez h.terms []=false then .error (5,x.at_)else if b.facts.length=24 then .error (4,x.at_)else .ok ({b with facts:=b.facts++[h]},x1,p1)
def JA (x:Tk):Bool:=decide (x.text.size=0) && decide (x.k=0)
def Oc:List UInt8:=[99,104,101,99,107]
def Le (t:ByteArray):Nat->Bk->Tk->Nat->Re Bk
 | 0,_,x,_=> .error (4,x.at_)
 | n+1,b,x,p=>if JA x=true then .ok (b,x,p)else BU (if x.text.toList=Oc then Rf t b x p else Ns t b x p) fun b1 x1 p1=>BU (JH t [59] x1 p1) fun _ x2 p2=>Le t n b1 x2 p2
def Jj (t:ByteArray) (x:Tk) (p:Nat):Re Bk:=Le t 73 ⟨[],[],[]⟩ x p
def Ta:List UInt8:=[97,108,108,111,119]
def nk:List UInt8:=[100,101,110,121]
def Tv (t:ByteArray):Nat->List IV->Tk->Nat->Re (List IV)
 | 0,_,x,_=> .error (4,x.at_)
 | n+1,l,x,p=>if JA x=true then .ok (l,x,p)else if x.text.toList=Ta\/x.text.toList=nk then BU (EP t x p) fun _ x1 p1=>BU (Ti t x1 p1) fun e x2 p2=>if l.length=24 then .error (4,x.at_)else BU (JH t [59] x2 p2) fun _ x3 p3=>Tv t n (l++[⟨decide<|x.text.toList=Ta,e⟩]) x3 p3 else .error (2,x.at_)
def T9 (t:ByteArray) (x:Tk) (p:Nat):Re (List IV):=Tv t 25 [] x p
def Et {α:Type} (t:ByteArray) (read:Tk->Nat->Re α):Except (Int×Nat) α:=if 8000<t.size then .error (4,8000)else match BU (BD t 0) fun _ x p=>read x p with
 | .error e=> .error e
 | .ok (y,_,_)=> .ok y
end Go.W
namespace Go.W
variable {f n m d:Nat}{t:ByteArray}{x:T}{k:Int}{a:A}{b:List A}{r:R}
def bl (s:ByteArray):By:=s.data.toList
def MQ (a b:ByteArray):bl (a++b)=bl a++bl b:=by simp[bl]
def xH (n:Nat):bl (b1 n)=[UInt8.ofNat n]:=rfl
def MO (l:By):bl (ba l)=l:=by simp[bl,ba]
def IQ (s:ByteArray):ba (bl s)=s:=by simp[bl,ba]
def IR (s:ByteArray):(bl s).length=s.size:=UE
def RG {α:Type} (f:De α) (p:α->ByteArray) (x:α):Prop:= ∀ r,f (bl (p x)++r)= .ok (x,r)
def nR (n:Nat)(h:n<256):(UInt8.ofNat n).toNat=n:=by simp;omega
def Ych (h:128<=n):Kz (f+1) n=b1 (n % 128+128)++Kz f (n / 128):=by rw[Kz,if_pos h]
def Z6a (h:n<128):Kz f n=b1 n:=by cases f with
 | zero=>rfl
 | succ f=>rw[Kz,if_neg zx]
def Yc0 (n c m p:Nat):n+c*p+m*(p*128)=n+(c+128*m)*p:=by
 rw[Nat.add_mul,Nat.mul_comm p 128,<- Nat.mul_assoc,Nat.mul_comm m 128,Nat.add_assoc]
def Z0u: ∀ (g k n m:Nat) (r:By),k+g=9->m<2*128 ^ g->(0<k->0<m)->Qt k n (bl (Kz (g+1) m)++r)= .ok (n+m*128 ^ k,r)
 | 0,k,n,m,r,hk,hm,h0=>by
  have:m<2:=by simpa using hm
  rw[Z6a zx,xH];show Qt k n (UInt8.ofNat m::r)=_;rw[Qt,nR m zx,if_neg zx,if_pos zx]
 | g+1,k,n,m,r,hk,hm,h0=>by
  by_cases h:128<=m
  ·rw[Ych h,MQ,xH];show Qt k n (UInt8.ofNat (m % 128+128)::(bl (Kz (g+1)<|m / 128)++r))=_;rw[Qt,nR _ zx,if_neg zx,if_neg zx,Z0u g (k+1) _ (m / 128) r zx (by rw[Nat.pow_succ]at hm;omega) fun _=>zx,Nat.pow_succ,Yc0,Nat.add_sub_cancel,Nat.mod_add_div]
  ·rw[Z6a zx,xH];show Qt k n (UInt8.ofNat m::r)=_;rw[Qt,nR m zx,if_neg zx,if_pos zx]
def jQ (h:n<18446744073709551616):RG QC Dm n:=fun r=>by
 have:=Z0u 9 0 0 n r rfl (by simpa using h) zx
 simpa[QC,Dm]using this
def mY (l r:By):KI l.length (l++r)= .ok (l,r):=by
 unfold KI;rw[if_neg zw];simp
def Tu (h:n<256):RG KM b1 n:=fun r=>by
 show KM (UInt8.ofNat n::r)=_;rw[KM,nR n h]
def uj (h:t.size<18446744073709551616):RG Vp GH t:=fun r=>by
 unfold Vp GH;rw[MQ,GY,De.map_ok (x:=bl t) (r:=r),IQ];rw[De.then_ok<|jQ h _,<- IR,mY]
def Z08 {α:Type}{f:De α}{p:α->ByteArray}: ∀ (xs:List α),(∀ x∈xs,RG f p x)-> ∀ r,GD f xs.length (bl (cat p xs)++r)= .ok (xs,r)
 | [],_,r=>rfl
 | x::xs,h,r=>by
  show(f.then fun y=>(GD f xs.length).map fun r=>y::r) _=_;rw[cat,MQ,GY,De.then_ok<|h x zw _,De.map_ok<|Z08 xs (fun y hy=>h y (by simp[hy])) r]
def V8 {α:Type}{f:De α}{p:α->ByteArray}{xs:List α}(h: ∀ x∈xs,RG f p x)(hl:xs.length<=m)(hm:m<18446744073709551616):RG (DI m f) (BZ p) xs:=fun r=>by
 unfold DI BZ;rw[MQ,GY,De.then_ok<|jQ zx _,if_neg zx,Z08 xs h]
def nN {i:Int}(h:Ey i):Td (Pv i)=i/\Pv i<18446744073709551616:=by
 obtain⟨h1,h2⟩:=h;unfold Td Pv;by_cases hi:i<0
 ·rw[if_pos hi,if_neg zx];omega
 ·rw[if_neg hi,if_pos zx];omega
def InT:Nat->T->Prop
 | 0,x=>Ey x.i
 | d+1,x=>Ey x.i/\ ∀ y∈x.l,InT d y
def InT.i (h:InT d x):Ey x.i:=by cases d with
 | zero=>exact h
 | succ d=>exact h.1
def jM {α:Type}{f:α->Int}: ∀ {l:List α},EF f l=0-> ∀ x∈l,f x=0
 | [],_,x,hx=>by cases hx
 | y::l,h,x,hx=>by
  unfold EF at h;split at h
  ·rename_i h';exact absurd h h'
  ·rename_i h';rcases List.mem_cons.mp hx with rfl | hx
   ·exact Decidable.not_not.mp h'
   ·exact jM h x hx
def jN {α:Type}{f:α->Int}: ∀ {l:List α},(∀ x∈l,f x=0)->EF f l=0
 | [],_=>rfl
 | y::l,h=>by rw[EF,if_neg (by simp[h y zw]),jN fun x hx=>h x (by simp[hx])]
def QA {a b:Int}(h:(if a≠0 then a else b)=0):a=0/\b=0:=by
 split at h
 ·rename_i h';exact absurd h h'
 ·rename_i h';exact⟨Decidable.not_not.mp h',h⟩
def Zqv (h:A9 d x=0):MI d x.k x.i x.t x.l.length=0/\ ∀ y∈x.l,A9 (d+1) y=0:=by
 rw[mJ]at h;exact⟨(QA h).1,jM (QA h).2⟩
def Z01 {i:Int}(h:MI d k i t n=0):GN k i t n=true/\ ¬ (k=1/\0<d)/\t.size<=64/\n<=6/\ ¬ (k=7/\d=3):=by
 unfold MI at h;split at h
 ·cases h
 ·rename_i h1;split at h
  ·cases h
  ·rename_i h2;split at h
   ·cases h
   ·rename_i h3;exact⟨by cases hf:GN k i t n with | true=>rfl | false=>exact absurd (Or.inl hf) h1,fun h'=>h1 (Or.inr h'),zx,zx,h3⟩
def Zr4 {i:Int}(h:GN k i t n=true):((k=1\/k=3\/k=4)/\i=0/\n=0)\/((k=2\/k=5)/\t.size=0/\n=0)\/(k=6/\t.size=0/\n=0/\(i=0\/i=1))\/(k=7/\i=0/\t.size=0):=by
 unfold GN Pq at h;split at h
 ·simp at h;simp[*]
 split at h
 ·simp at h;simp[*]
 split at h
 ·simp at h;simp[*]
 split at h
 ·simp at h;simp[*]
 split at h
 ·simp at h;simp[*]
 split at h
 ·simp at h;simp[*]
 ·cases h
def bQ (h:t.size=0):t=ByteArray.empty:=by
 rcases t with⟨a⟩
 have:a.size=0:=h
 rw[Array.eq_empty_of_size_eq_zero this];rfl
def Z6u (k i:Int)(t:ByteArray)(l:List T):Ci (.mk k i t l)=b1 (k % 256).toNat++(if k=2\/k=5 then Dm (Pv i)else if k=6 then b1 (i % 256).toNat else if k=7 then BZ Ci l else GH t):=by rw[Ci,Z05];rfl
def ul: ∀ (d:Nat) (x:T),d<=3->A9 (3-d) x=0->InT d x->RG (KH d) Ci x:=by
 intro d;induction d with
 | zero=>
  intro x _ hw hi r;obtain⟨ho,hl⟩:=Zqv hw;obtain⟨hf,h1,Ej,h6,h7⟩:=Z01 ho;have hI:=hi.i;obtain⟨k,i,t,l⟩:=x;dsimp only[T.k,T.i,T.t,T.l]at*;rw[Z6u,MQ,GY,KH];rcases Zr4 hf with⟨hk,rfl,hn⟩ | ⟨hk,ht,hn⟩ | ⟨rfl,ht,hn,hb⟩ | ⟨rfl,rfl,ht⟩
  ·have hl0:l=[]:=Ht hn;subst hl0;rcases hk with rfl | rfl | rfl <;> (rw[De.then_ok<|Tu zu _];simp;rw[De.map_ok<|uj zx r])
  ·have hl0:l=[]:=Ht hn;have IW:=bQ ht;subst hl0 IW;rcases hk with rfl | rfl <;> (rw[De.then_ok<|Tu zu _];simp;rw[De.map_ok<|jQ (nN hI).2 r,(nN hI).1])
  ·have hl0:l=[]:=Ht hn;have IW:=bQ ht;subst hl0 IW;rcases hb with rfl | rfl <;> (rw[De.then_ok<|Tu zu _];simp;rw[De.map_ok<|Tu zu r];rfl)
  ·exact absurd ⟨rfl,rfl⟩ h7
 | succ d ih=>
  intro x hd hw hi r;obtain⟨ho,hl⟩:=Zqv hw;obtain⟨hf,h1,Ej,h6,h7⟩:=Z01 ho;have hI:=hi.i;have hL:=hi.2;obtain⟨k,i,t,l⟩:=x;dsimp only[T.k,T.i,T.t,T.l]at*;rw[Z6u,MQ,GY,KH];rcases Zr4 hf with⟨hk,rfl,hn⟩ | ⟨hk,ht,hn⟩ | ⟨rfl,ht,hn,hb⟩ | ⟨rfl,rfl,ht⟩
  ·have hl0:l=[]:=Ht hn;subst hl0;rcases hk with rfl | rfl | rfl <;> (rw[De.then_ok<|Tu zu _];simp;rw[De.map_ok<|uj zx r])
  ·have hl0:l=[]:=Ht hn;have IW:=bQ ht;subst hl0 IW;rcases hk with rfl | rfl <;> (rw[De.then_ok<|Tu zu _];simp;rw[De.map_ok<|jQ (nN hI).2 r,(nN hI).1])
  ·have hl0:l=[]:=Ht hn;have IW:=bQ ht;subst hl0 IW;rcases hb with rfl | rfl <;> (rw[De.then_ok<|Tu zu _];simp;rw[De.map_ok<|Tu zu r];rfl)
  ·have IW:=bQ ht;subst IW;rw[De.then_ok<|Tu zu _];simp;rw[De.map_ok<|V8 (fun y hy=>ih y zx (by have:=hl y hy;rwa [show 3-(d+1)+1=3-d by omega]at this) (hL y hy)) h6 zx r]
def UN (a:A):Prop:= ∀ y∈a.terms,InT 3 y
def Zr (g:G):Prop:=InT 3 g.a/\InT 3 g.b
def UM (r:R):Prop:=UN r.head/\(∀ a∈r.body,UN a)/\ ∀ g∈r.guards,Zr g
def Na (b:Bk):Prop:=(∀ a∈b.facts,UN a)/\(∀ r∈b.rules,UM r)/\ ∀ c∈b.checks,∀ r∈c,UM r
def jP {α:Type}{f:α->Int}{l:List α}(h:ES f m l=0):l.length<=m/\ ∀ x∈l,f x=0:=by
 unfold ES at h;split at h
 ·cases h
 ·exact⟨zx,jM h⟩
def vM (h:ER a=0)(hi:UN a):RG XP Hy a:=fun r=>by
 unfold ER at h;split at h
 ·cases h
 ·rename_i hn;obtain⟨h6,ht⟩:=jP h;have hs:a.name.size<=16:=by
   have:En a.name=true:=by simpa using hn
   unfold En at this;simp at this;exact this.2
  rw[Hy,MQ,GY,XP,De.then_ok<|uj zx _,De.map_ok<|V8 (fun y hy=>ul 3 y zx (ht y hy) (hi y hy)) h6 zx r]
def Zw3 {t:T}(h:MU b t=0):A9 0 t=0:=(QA h).1
def Z2h {g:G}(h:MP b g=0)(hi:Zr g):RG bG QI g:=fun r=>by
 unfold MP at h;split at h
 ·cases h
 ·rename_i ho;have h':=QA h;rw[QI,MQ,MQ,GY,GY,bG,De.then_ok<|Tu zx _,De.then_ok<|ul 3 g.a zx (Zw3 h'.1) hi.1 _,De.map_ok<|ul 3 g.b zx (Zw3 h'.2) hi.2 _,show(((g.op % 256).toNat:Nat):Int)=g.op by omega]
def Z4t (h:GX r=0):r.body.length<=4/\r.guards.length<=4/\(∀ a∈r.body,ER a=0)/\ ∀ g∈r.guards,MP r.body g=0:=by
 unfold GX at h;split at h
 ·cases h
 ·split at h
  ·cases h
  ·rename_i h4;have h':=QA h;exact⟨zx,zx,jM h'.1,jM h'.2⟩
def Zu7 (h:GX r=0)(hi:UM r): ∀ s,XO (bl (JM r)++s)= .ok (⟨⟨ByteArray.empty,[]⟩,r.body,r.guards⟩,s):=fun s=>by
 obtain⟨h4,h5,ha,hg⟩:=Z4t h;rw[JM,MQ,GY,XO,De.then_ok<|V8 (fun y hy=>vM (ha y hy) (hi.2.1 y hy)) h4 zx _,De.map_ok<|V8 (fun y hy=>Z2h (hg y hy) (hi.2.2 y hy)) h5 zx _]
def Z66 (h:MV r=0)(hi:UM r):RG bZ QH r:=fun s=>by
 have h1:=QA h;have h2:=QA h1.2;rw[QH,MQ,GY,bZ,De.then_ok<|vM h1.1 hi.1 _,De.map_ok<|Zu7 h2.1 hi s]
def Z4p (h:Og r=0)(hi:UM r):RG XO JM r:=fun s=>by
 unfold Og at h;split at h
 ·cases h
 ·rename_i hn;rw[Zu7 h hi];obtain⟨⟨n,ts⟩,b,g⟩:=r;dsimp only at hn⊢;rw[bQ (t:=n) zx,Ht (l:=ts) zx]
def Zpd {l:List R}(h:Hq l=0):l.length<=4/\ ∀ r∈l,Og r=0:=by
 unfold Hq at h;split at h
 ·cases h
 ·exact jP h
def Z5e (h:PP a=0):ER a=0:=(QA h).1
def Z1p {b:Bk}(h:GV b=0)(hi:Na b):RG Vy JI b:=fun s=>by
 have h1:=QA h;have h2:=QA h1.2;obtain⟨n1,q1⟩:=jP h1.1;obtain⟨n2,q2⟩:=jP h2.1;obtain⟨n3,q3⟩:=jP h2.2;rw[JI,MQ,MQ,GY,GY,Vy,
  De.then_ok (V8 (fun y hy=>vM (Z5e<|q1 y hy) (hi.1 y hy)) n1 zx _),
  De.then_ok (V8 (fun y hy=>Z66 (q2 y hy) (hi.2.1 y hy)) n2 zx _),
  De.map_ok (V8 (f:=ax) (fun y hy=>V8 (fun z hz=>Z4p ((Zpd<|q3 y hy).2 z hz) (hi.2.2 y hy z hz)) (Zpd<|q3 y hy).1 zx) n3 zx s)]
def Z17 {b:Bk}(h:GV b=0)(hi:Na b)(hs:(JI b).size<=4000):Tf (bl<|JI b)= .ok b:=by
 unfold Tf;rw[if_neg (by rw[IR];omega)]
 have:=Z1p h hi []
 rw[List.append_nil]at this;simp only[JK,this,if_pos,h];rfl
end Go.W
