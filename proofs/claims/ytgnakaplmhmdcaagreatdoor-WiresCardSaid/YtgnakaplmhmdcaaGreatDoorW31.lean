import Derived.Test.YtgnakaplmhmdcaaGreatDoorW30
import Derived.Lib.RuneBytes
import Derived.Lib.TrimU
set_option maxRecDepth 100000
set_option maxHeartbeats 8000000
set_option linter.unusedSimpArgs false
open Go.Proofs Go.RowKit Go.W
namespace Go.W
variable {t s:ByteArray}{x:Tk}{f p b:Nat}{acc:List UInt8}{o:Obj}
def Zl1 (t:ByteArray) (x:Tk):Nat->Nat->List UInt8->Except (Int×Nat) (List UInt8×Nat)
 | 0,_,_=> .error (1,x.at_)
 | f+1,p,acc=>if(Zab t).getD p 0=34 then .ok (acc,p)else if p=t.size\/(Zab t).getD p 0=10 then .error (1,x.at_)
  else if(Zab t).getD p 0=92 then match Zy9 t x (p+1)with
   | .error e=> .error e
   | .ok (y,_,q)=>Zl1 t x f q (acc++Lib.encodeRune (y:Int))
  else if(Lib.decodeGo (t.extract p t.size)).1=65533/\(Lib.decodeGo (t.extract p t.size)).2=1 then .error (1,x.at_)
  else Zl1 t x f (p+(Lib.decodeGo (t.extract p t.size)).2) (acc++Lib.encodeRune ((Lib.decodeGo (t.extract p t.size)).1:Nat))
def Zsw (t:ByteArray) (x:Tk) (p:Nat):Except (Int×Nat) (Unit×Tk×Nat):=match Zl1 t x (t.size+1) (p+1) []with
 | .error e=> .error e
 | .ok (s,q)=>if 64 < s.length then .error (4,x.at_)else .ok ((),{x with k:=3,i:=0,s:=⟨s.toArray⟩},q+1)
theorem Z68 (h:(Zab t).getD p 0=34):Zl1 t x (f+1) p acc= .ok (acc,p):=by rw[Zl1,if_pos h]
theorem Z56 (h0:(Zab t).getD p 0≠34)(h:p=t.size\/(Zab t).getD p 0=10):Zl1 t x (f+1) p acc= .error (1,x.at_):=by rw[Zl1,if_neg h0,if_pos h]
theorem Z7d (h0:(Zab t).getD p 0≠34)(h1: ¬ (p=t.size\/(Zab t).getD p 0=10))(h:(Zab t).getD p 0=92):(∀ e,Zy9 t x (p+1)= .error e->Zl1 t x (f+1) p acc= .error e)/\ ∀ y x' q,Zy9 t x (p+1)= .ok (y,x',q)->Zl1 t x (f+1) p acc=Zl1 t x f q (acc++Lib.encodeRune (y:Int)):=by
 rw[Zl1,if_neg h0,if_neg h1,if_pos h];exact⟨fun e he=>by rw[he],fun y x' q he=>by rw[he]⟩
theorem Z1z (h0:(Zab t).getD p 0≠34)(h1: ¬ (p=t.size\/(Zab t).getD p 0=10))(h2:(Zab t).getD p 0≠92):((Lib.decodeGo (t.extract p t.size)).1=65533/\(Lib.decodeGo (t.extract p t.size)).2=1->Zl1 t x (f+1) p acc= .error (1,x.at_))/\(¬ ((Lib.decodeGo (t.extract p t.size)).1=65533/\(Lib.decodeGo (t.extract p t.size)).2=1)->Zl1 t x (f+1) p acc=Zl1 t x f (p+(Lib.decodeGo (t.extract p t.size)).2) (acc++Lib.encodeRune ((Lib.decodeGo (t.extract p t.size)).1:Nat))):=by
 rw[Zl1,if_neg h0,if_neg h1,if_neg h2];exact⟨fun h=>by rw[if_pos h],fun h=>by rw[if_neg h]⟩
theorem Zyx {bs:List Nat}{at_:Nat}: ∀ {f v p r q:Nat},Zkz bs at_ f v p= .ok (r,q)->p<=q
 | 0,v,p,r,q,h=>by rw[Zkz]at h;cases h;exact Ydu _
 | f+1,v,p,r,q,h=>by
  rw[Zkz]at h;split at h
  ·have:=Zyx h
   omega
  ·cases h
theorem Yax {x2:Tk}{y r:Nat}(h:Zy9 t x p= .ok (y,x2,r)):x2=x/\p<=r:=by
 unfold Zy9 at h;split at h
 ·cases h;exact⟨rfl,by omega⟩
 ·split at h
  ·unfold Zk5 at h;split at h
   ·cases h
   ·rename_i hc
    have:=Zyx hc
    split at h
    ·cases h;exact⟨rfl,by omega⟩
    ·cases h
  ·cases h
theorem Z8y (s:ByteArray):(Lib.decodeGo s).1<=1114111:=by
 unfold Lib.decodeGo;split
 ·decide
 ·rw[Lib.decode_at];exact Lib.decodeN_rune_le _ _ _ _ _ (UInt8.toNat_lt _)
theorem Z5a (h:s.size≠0):1<=(Lib.decodeGo s).2:=by
 unfold Lib.decodeGo;rw[if_neg h];exact Lib.width_pos s 0
theorem Z5i (h:s.size≠0):(Lib.decodeGo s).2<=s.size:=by
 unfold Lib.decodeGo;rw[if_neg h,Lib.decode_at];unfold Lib.decodeN
 repeat' split
 all_goals (simp only;omega)
section
variable {w w':World} {B:Nat} {e:TypeId} {v:Value} {n:Nat} {xs:List Value}
theorem Zlv (h:w.ownsRow B e 1 v n xs)(k: ∀ j,B<=j->j < w.heap.size->w'.heap[j]?=w.heap[j]?):w'.ownsRow B e 1 v n xs:=by
 refine⟨h.1,?_⟩;rcases h.2 with h0 | ⟨g,cap,cur,hv,hb,hg,rest⟩
 ·exact Or.inl h0
 ·exact Or.inr ⟨g,cap,cur,hv,hb,(k g hb (Yc6.1 hg).1).trans hg,rest⟩
theorem Z7s (h:w.ownsRow B e 1 v n xs){k:Nat}(hk:v.ownBlock=some k):B<=k:=by
 rcases h.2 with⟨rfl,_⟩ | ⟨g,cap,cur,rfl,hb,_⟩
 ·cases hk
 ·cases hk;exact hb
theorem Z2v (h:w.ownsRow B e 1 v n xs)(g:(w.alloc o).grownBy w' v.ownBlock){w0:World}(hB:w0.heap.size<=B)(k:Zaf b w0 w):Zaf b w0 w':=
 ⟨g.os.trans k.os,g.tape.trans k.tape,g.output.trans k.output,Ycu k.size (Ycu (by simp) g.size),fun j hj hb=>by
  have hjw:j < w.heap.size:=Ycz hj k.size;rw[g.block j (by simp;omega) (fun hh=>by have:=Z7s h hh.symm;omega),Ycx w o j hjw];exact k.block j hj hb⟩
theorem Zxz (h:w.ownsRow B e 1 v n xs)(g:(w.alloc o).grownBy w' v.ownBlock)(hb:b < B)(hw:b < w.heap.size):w'.heap[b]?=w.heap[b]?:=by
 rw[g.block b (by simp;omega) (fun hh=>by have:=Z7s h hh.symm;omega),Ycx w o b hw]
end
end Go.W
namespace Go.P
variable {w:World}{a:Nat->Addr}{b p:Nat}{t:ByteArray}{x:Tk}
theorem Z5z {B:Nat}{p:Option Addr}{n c:Nat}{acc:List UInt8}(h:w.ownsRow B 5 1 (.slice p n c) n (Lib.byteCells acc)):(convert 76 9 (.slice p n c)).run Tryz.prog w= .ok (.string ⟨acc.toArray⟩) w:=by
 have hl:acc.length=n:=by have:=h.1;simpa[Lib.byteCells]using this
 rcases h.2 with⟨h1,h2⟩ | ⟨g,cap,cur,hv,_,hg,hc,_,hs,ht⟩
 ·cases h1;obtain rfl:acc=[]:=Yda (by omega);exact run_convert_bytes_nil (P:=Tryz.prog) w 76 5 Tryz.underlying76 Tryz.underlying5 0 0 9 Tryz.underlying9
 ·cases hv;subst hl;refine run_convert_bytes_back (P:=Tryz.prog) w 76 9 5 ⟨g,0,none⟩ c acc Tryz.underlying76 Tryz.underlying5 Tryz.underlying9 (fun j hj=>?_);have e:(⟨g,0,none⟩:Addr).add j=⟨g,j,none⟩:=by unfold Addr.add;split <;> simp_all
  rw[e,cell_of_row w g j cur _ (0,0) hg];have h3:(Lib.byteCells acc)[j]?=cur.toList[j]?:=by rw[<- ht,List.getElem?_take,if_pos (by omega)]
  rw[<- Ydw,<- h3];simp[Lib.byteCells,hj]
theorem Zap.drew (h:Zap a w):Zap a w.drew:=h
theorem Rd.drew (h:Rd w b t p x):Rd w.drew b t p x:=h
def Yag (b:Nat) (w:World) (t:ByteArray) (p:Nat) (x:Tk) (tv:Value) (wr:World):Prop:= ∃ (f q:Nat) (acc:List UInt8) (pp:Option Addr) (c:Nat),tv= .slice pp acc.length c/\p+1<=q/\acc.length<=4*q/\t.size < f+q/\wr.ownsRow w.heap.size 5 1 tv acc.length (Lib.byteCells acc)/\Rd wr b t q x/\Zaf b w wr/\Zl1 t x f q acc=Zl1 t x (t.size+1) (p+1) []
theorem Zp2 (Z:Zap a w)(h:Rd w b t p x)(hp:p < t.size):
  Calls Tryz.prog 128 #[.pointer (some ⟨b,0,none⟩)] w (Zey a b t VU w (Zsw t x p)):=by
 have ht:=h.2.1;have hg:=h.2.2.2;obtain⟨c0,c1,-,-,-,-,-,-,sf⟩:=h.1.eight;have hblt:=h.1.lt;have HN:=Zaa (h.next hp);have HK0:=Zaa ((Zaf.refl b w).set 1 (.int .i64 ((p:Int)+1)));have ZZ:=Zaa Z;clear h Z;go_enter Tryz.func128,Tryz.ntmps128
 go_wp2_with fail
 go_loopw [2] (fun tv wr=>Yag b w t p x tv wr) (fun _ wr=>t.size - Zm6 b wr)
 case atStart=>exact⟨t.size+1,p+1,[],none,0,rfl,by omega,by simp,by omega,⟨rfl,Or.inl ⟨rfl,rfl⟩⟩,HN.out,HK0.out,rfl⟩
 case round=>
  obtain⟨f,q,acc,pp,cc,rfl,hpq,hacc,hf,hO,hR,hK,hE⟩:=hrel;have hM:=Zd3 hR;have hq:=hR.2.2.1;obtain⟨f,rfl⟩: ∃ f',f=f'+1:=⟨f - 1,by omega⟩;have HO:=Zaa hO;have HR:=Zaa hR;have HK:=Zaa hK;have HE:=Zaa hE;have ZA:=Zaa (ZZ.out.keeps hK hg);have hsz:=hK.size;have CP:=Zaa (fun u (hu:Rd u b t q x)=>Zkf hu);have S0:=Zaa (@Z68 t x f q acc);have S1:=Zaa (@Z56 t x f q acc);have S2:=Zaa (@Z7d t x f q acc);have S3:=Zaa (@Z1z t x f q acc);have hin:Box ((Zab t).getD q 0≠0->q < t.size):=⟨fun hh=>Zoc hh⟩;clear hO hR hK hE HN HK0 c0 c1 sf ZZ;obtain⟨c,hcc⟩: ∃ c,(Zab t).getD q 0=c:=⟨_,rfl⟩;have HC:=Zaa hcc;rw[hcc]at CP S0 S1 S2 S3 hin;clear hcc;go_wp2_with fail
  refine(CP.out _ HR.out).mono ?_;rintro e w1 ⟨rfl,hb1⟩;have HR1:=Zaa (HR.out.of hb1);have HK1:=Zaa (HK.out.ofBelow hb1);have ZB:=Zaa (ZA.out.below hb1);have HO1:=Zaa (Zlv HO.out fun j _ hj=>hb1.block j hj);clear hb1 HR HK ZA HO;by_cases h34:c=34
  ·have g1:((c:Int) != 34)=false:=by rw[bne_eq_false_iff_eq];omega
   have E:Box (Zl1 t x (t.size+1) (p+1) []= .ok (acc,q)):=⟨HE.out.symm.trans (S0.out h34)⟩;have hql:=hin.out (by omega);obtain⟨d0,d1,-,-,-,-,-,-,sf1⟩:=HR1.out.1.eight;clear S0 S1 S2 S3 hin CP;have C1:=Zaa (fun u (hu:Rd u b t (q+1) x)=>Zbh a (n:=4) (by decide) hu);have z4:=(ZB.out.keeps ((Zaf.refl b w1).set 1 (.int .i64 ((q:Int)+1))) hg).c4;by_cases h64:64 < acc.length
   ·have Y:Box (Zsw t x p= .error (4,x.at_)):=⟨by unfold Zsw;rw[E.out];simp only;rw[if_pos h64]⟩;have g2:decide (64 < (acc.length:Int))=true:=by simp;omega
    go_wp2_with fail
    refine(C1.out _ (HR1.out.next hql)).mono ?_;rintro e w2 ⟨⟨L,hL,rfl,hB⟩,hb⟩;exact⟨rfl,(HK1.out.set _ _).ofBelow hb,Or.inl ⟨4,_,Y.out,by decide,L,by have:=HK1.out.size;simp at hL;omega,rfl,hB⟩⟩
   ·have Y:Box (Zsw t x p= .ok ((),{x with k:=3,i:=0,s:=⟨acc.toArray⟩},q+1)):=⟨by unfold Zsw;rw[E.out];simp only;rw[if_neg h64]⟩;have g2:decide (64 < (acc.length:Int))=false:=by simp;omega
    have CV:=Z5z (Zlv (w':=w1.setCell ⟨b,1,none⟩ (.int .i64 ((q:Int)+1))) HO1.out fun j hj _=>Ycy w1 _ _ j (by show j≠b;omega));obtain⟨-,-,-,-,e4,e5,e6,e7,-⟩:=(HR1.out.next hql).1.eight;clear C1 z4;go_wp2_with fail
    exact⟨rfl,_,(by simp[results,Tryz.results128,go_sem];try rfl),(HK1.out.set _ _).term,Or.inr ⟨_,_,_,_,Y.out,rfl,rfl,(HR1.out.next hql).term 3 0 _⟩⟩
  have g1:((c:Int) != 34)=true:=by rw[bne_iff_ne];omega
  have C1:=Zaa (fun u (hu:Rd u b t q x)=>Zbh a (n:=1) (by decide) hu);clear S0;by_cases hqe:q=t.size
  ·have Y:Box (Zsw t x p= .error (1,x.at_)):=⟨by unfold Zsw;rw[<- HE.out,S1.out h34 (Or.inl hqe)]⟩;have g2:((q:Int)==(t.size:Int))=true:=by rw[beq_iff_eq];omega
   obtain⟨d0,d1,-,-,-,-,-,-,sf1⟩:=HR1.out.1.eight;have z1:=ZB.out.c1;clear S1 S2 S3 hin CP hqe;go_wp2_with fail
   go_quiet (fail)
   go_wp2_with fail
   refine(C1.out _ (HR1.out.dr _)).mono ?_;rintro e w2 ⟨⟨L,hL,rfl,hB⟩,hb⟩;exact⟨rfl,(HK1.out.dr _).ofBelow hb,Or.inl ⟨1,_,Y.out,by decide,L,Ycu HK1.out.size hL,rfl,hB⟩⟩
  have hql:q < t.size:=by omega
  have g2:((q:Int)==(t.size:Int))=false:=by rw[beq_eq_false_iff_ne];omega
  obtain⟨d0,d1,-,-,-,-,-,-,sf1⟩:=HR1.out.1.eight;have CD:=Zaa (fun n=>Zwy (HR1.out.dr n));have hgd:Box ((Zab t).getD q 0=c):=HC;rw[hgd.out]at CD;by_cases h10:c=10
  ·have Y:Box (Zsw t x p= .error (1,x.at_)):=⟨by unfold Zsw;rw[<- HE.out,S1.out h34 (Or.inr h10)]⟩;have g3:((c:Int)==10)=true:=by rw[beq_iff_eq];omega
   have z1:=ZB.out.c1;clear S1 S2 S3 hin CP;go_wp2_with fail
   go_quiet ((go_at_call 175;exact Calls.quiet_of (CD.out _)))
   go_wp2_with fail
   refine(C1.out _ (HR1.out.dr _)).mono ?_;rintro e w3 ⟨⟨L,hL,rfl,hB⟩,hb⟩;exact⟨rfl,(HK1.out.dr _).ofBelow hb,Or.inl ⟨1,_,Y.out,by decide,L,Ycu HK1.out.size hL,rfl,hB⟩⟩
  have g3:((c:Int)==10)=false:=by rw[beq_eq_false_iff_ne];omega
  have hno: ¬ (q=t.size\/c=10):=by omega
  clear S1;go_wp2_with fail
  go_quiet ((go_at_call 175;exact Calls.quiet_of (CD.out _)))
  have HR2:=Zaa (HR1.out.dr nq);have HK2:=Zaa (HK1.out.dr nq);have ZC:=Zaa (ZB.out.below (Zb2 (n:=nq) (Yct _ w1)));have HO2:=Zaa (Zlv (w':=w1.drewN nq) HO1.out fun j _ hj=>rfl);clear HR1 HK1 ZB HO1 d0 d1 sf1 CD;go_wp2_with fail
  refine(CP.out _ HR2.out).mono ?_;rintro e w3 ⟨rfl,hb3⟩;have HR3:=Zaa (HR2.out.of hb3);have HK3:=Zaa (HK2.out.ofBelow hb3);have ZD:=Zaa (ZC.out.below hb3);have HO3:=Zaa (Zlv HO2.out fun j _ hj=>hb3.block j hj);obtain⟨d0,d1,-,-,-,-,-,-,sf3⟩:=HR3.out.1.eight;clear hb3 HR2 HK2 ZC HO2 CP;by_cases h92:c=92
  ·have g4:((c:Int)==92)=true:=by rw[beq_iff_eq];omega
   have T:=Zaa (S2.out h34 hno h92);have CE:=Zaa (fun u (h1:Zap a u) (h2:Rd u b t (q+1) x)=>Zp6 h1 h2);clear S2 S3 C1 hin;go_wp2_with fail
   refine(CE.out _ (ZD.out.keeps ((Zaf.refl b w3).set _ _) hg) (HR3.out.next hql)).mono ?_;rintro e w4 ⟨hk4,⟨n,r,hy,hn,L,hL,rfl,hB⟩ | ⟨v,y,x2,r,hy,rfl,⟨rfl,hv,hy6⟩,hr4⟩⟩
   ·have Y:Box (Zsw t x p= .error (n,r)):=⟨by unfold Zsw;rw[<- HE.out,T.out.1 _ hy]⟩;exact⟨rfl,(HK3.out.set _ _).trans hk4,Or.inl ⟨n,r,Y.out,hn,L,by have:=HK3.out.size;simp at hL;omega,rfl,hB⟩⟩
   ·obtain⟨rfl,hqr⟩:=Yax hy;have hsz4:=hk4.size;have hrl:=hr4.2.2.1;have EQ:Box (Zl1 t x2 f r (acc++Lib.encodeRune (y:Int))=Zl1 t x2 (t.size+1) (p+1) []):=⟨(T.out.2 _ _ _ hy).symm.trans HE.out⟩;have HO4:Box (w4.ownsRow w.heap.size 5 1 (.slice pp acc.length cc) acc.length (Lib.byteCells acc)):=⟨Zlv (Zlv (w':=w3.setCell ⟨b,1,none⟩ (.int .i64 ((q:Int)+1))) HO3.out fun j hj _=>Ycy w3 _ _ j (by show j≠b;omega)) fun j hj hl=>hk4.block j hl (by omega)⟩;have HK4:=Zaa ((HK3.out.set 1 (.int .i64 ((q:Int)+1))).trans hk4);have HR4:=Zaa hr4;have AP:=Zaa (Zjj w.heap.size (.slice pp acc.length cc) acc.length (Lib.byteCells acc) (y:Int) (by omega) (by omega) w4 HO4.out (by omega) HK4.out.size);have el:=Lib.encodeRuneZ_length (y:Int);clear hk4 hr4 hy T CE HE HO3 HK3 HR3 d0 d1 sf3;go_wp2_with fail
    refine AP.out.mono ?_;rintro e w5 ⟨v',rfl,ho5,o5,hg5⟩;have hk5:=Z2v HO4.out hg5 lr HK4.out;have hr5:Rd w5 b t r x2:=⟨HR4.out.1.of (Zxz HO4.out hg5 hblt HR4.out.1.lt),HR4.out.2⟩;rw[<- Lib.byteCells_encodeRune,<- Lib.byteCells_append,Lib.byteCells_encodeRune]at ho5;obtain⟨pa,ca,rfl⟩:=Zff ho5;have R5:=Zaa (Ycs ho5 (Ycs hk5 hr5));have hM5:=Zd3 hr5;clear ho5 hk5 hr5 hg5 AP;go_wp2_with fail
    have el2:=Lib.runeCells_le (y:Int);have el3:=Lib.runeCells_length (y:Int);exact⟨⟨f,r,acc++Lib.encodeRune (y:Int),pa,ca,by rw[Ydy,el3],by omega,by rw[Ydy];omega,by omega,by rw[Ydy,<- el3];exact R5.out.1,R5.out.2.2,R5.out.2.1,EQ.out⟩,by rw[hM5,hM];omega⟩
  have g4:((c:Int)==92)=false:=by rw[beq_eq_false_iff_ne];omega
  have T:=Zaa (S3.out h34 hno h92);have hsx:(t.extract q t.size).size≠0:=by rw[Ydz];omega
  have wg:=Z5a hsx;have wl:=Z5i hsx;have rl:=Z8y (t.extract q t.size);rw[Ydz,Nat.min_self]at wl;have CU:=Zaa (fun u (h1:Zap a u)=>Z62 h1 (t.extract q t.size));clear S2 S3 hin hsx;generalize (Lib.decodeGo (t.extract q t.size)).1=y at*;generalize (Lib.decodeGo (t.extract q t.size)).2=n at*;go_wp2_with fail
  go_region_with (go_at_call 179;refine(CU.out _ (by first | exact ZD.out | exact ZD.out.drew)).mono ?_;rintro e w4 ⟨rfl,hb4⟩)
  all_goals
   have HR4:=Zaa (HR3.out.drew.of hb4);have HK4:=Zaa (HK3.out.drew.ofBelow hb4);have ZE:=Zaa (ZD.out.drew.below hb4);have HO4:=Zaa (Zlv (w':=w4) HO3.out fun j _ hj=>hb4.block j hj);clear hb4 HR3 HK3 ZD HO3 CU d0 d1 sf3;by_cases hbad:y=65533/\n=1
   ·have Y:Box (Zsw t x p= .error (1,x.at_)):=⟨by unfold Zsw;rw[<- HE.out,T.out.1 hbad]⟩;obtain⟨rfl,rfl⟩:=hbad;have z1:=ZE.out.c1;go_wp2_with fail
    refine(C1.out _ HR4.out).mono ?_;rintro e w5 ⟨⟨L,hL,rfl,hB⟩,hb⟩;exact⟨rfl,HK4.out.ofBelow hb,Or.inl ⟨1,_,Y.out,by decide,L,Ycu HK4.out.size hL,rfl,hB⟩⟩
   have EQ:Box (Zl1 t x f (q+n) (acc++Lib.encodeRune (y:Int))=Zl1 t x (t.size+1) (p+1) []):=⟨(T.out.2 hbad).symm.trans HE.out⟩;have AP:=Zaa (Zjj w.heap.size (.slice pp acc.length cc) acc.length (Lib.byteCells acc) (y:Int) (by omega) (by omega) w4 HO4.out (by omega) HK4.out.size);have GG:((y:Int)==65533)=false\/((y:Int)==65533)=true/\((n:Int)==1)=false:=by
    by_cases h1:y=65533
    ·right
     exact⟨by rw[beq_iff_eq];omega,by rw[beq_eq_false_iff_ne];omega⟩
    ·left
     rw[beq_eq_false_iff_ne];omega
   clear T HE C1 ZE hbad;rcases GG with ga | ⟨ga,gb⟩;all_goals
    go_wp2_with fail
    refine AP.out.mono ?_;rintro e w5 ⟨v',rfl,ho5,o5,hg5⟩;have hk5:=Z2v HO4.out hg5 lr HK4.out;have hr5:Rd w5 b t q x:=⟨HR4.out.1.of (Zxz HO4.out hg5 hblt HR4.out.1.lt),HR4.out.2⟩;rw[<- Lib.byteCells_encodeRune,<- Lib.byteCells_append,Lib.byteCells_encodeRune]at ho5;obtain⟨pa,ca,rfl⟩:=Zff ho5;have R5:=Zaa (Ycs ho5 (Ycs hk5 hr5));have hM5:=Zd3 (hr5.goes (q:=q+n) (by omega));obtain⟨d0,d1,-,-,-,-,-,-,sf3⟩:=hr5.1.eight;clear ho5 hk5 hr5 hg5 AP;go_wp2_with fail
    have el2:=Lib.runeCells_le (y:Int);have el3:=Lib.runeCells_length (y:Int);refine⟨⟨f,q+n,acc++Lib.encodeRune (y:Int),pa,ca,by rw[Ydy,el3],by omega,by rw[Ydy];omega,by omega,by rw[Ydy,<- el3];exact Zlv R5.out.1 fun j hj _=>Ycy w5 _ _ j (by show j≠b;omega),R5.out.2.2.goes (by omega),R5.out.2.1.set _ _,EQ.out⟩,?_⟩;rw[hM];simp at hM5⊢;rw[hM5];omega
end Go.P
namespace Go.W
variable {t:ByteArray}{x y:Tk}{p:Nat}{n q k:Int}
def Zfm (q:Nat):Tk:=⟨q,⟨#[]⟩,0,0,⟨#[]⟩⟩
def Zxw (t:ByteArray) (_q k:Int) (x:Tk) (p:Nat):Except (Int×Nat) (Unit×Tk×Nat):=match Zyj t x p with
 | .error e=> .error e
 | .ok (n,_,r)=> .ok ((),{x with k:=k,i:=n},r)
def Zgp (t:ByteArray) (c q:Nat):Except (Int×Nat) (Unit×Tk×Nat):=
 if Zce c=true then Zp7 t (Zfm q) q else if c=36 then Zee t (Zfm q) q else if c=34 then Zsw t (Zfm q) q
 else if c=64 then Zxw t q 5 (Zfm q) (q+1)else if c=45\/Zaz c=true then Zxw t q 2 (Zfm q) q else Zp8 t (Zfm q) q
def Zg6 (t:ByteArray) (p:Nat):Except (Int×Nat) (Unit×Tk×Nat):=
 if Zgv (Zab t) p=t.size then .ok ((),Zfm t.size,t.size)else Zgp t ((Zab t).getD (Zgv (Zab t) p) 0) (Zgv (Zab t) p)
def Zc0 (t:ByteArray) (x:Tk) (p:Nat):Except (Int×Nat) (Tk×Tk×Nat):=match Zg6 t p with
 | .error e=> .error e
 | .ok (_,x',q)=> .ok (x,x',q)
theorem Z7f {q:Nat}(h:Zyj t x p= .ok (n,y,q)):y=x:=by
 unfold Zyj at h;dsimp only at h;generalize (if(Zab t).getD p 0=45 then p+1 else p)=p1 at h;split at h
 ·cases h
 ·split at h
  ·cases h;rfl
  ·cases h
theorem Zqn {e:Int×Nat}(h:Zyj t x p= .error e):Zxw t q k x p= .error e:=by unfold Zxw;rw[h]
theorem Z2s {r:Nat}(h:Zyj t x p= .ok (n,y,r)):Zxw t q k x p= .ok ((),{x with k:=k,i:=n},r):=by unfold Zxw;rw[h]
end Go.W
namespace Go.P
variable {w w0:World}{b p L:Nat}{t:ByteArray}{x:Tk}{a:Nat->Addr}{x0 x1 x2 x3 x4 x5:Value}
theorem Rd.anew (h:Rd w b t p x){q:Nat}:Rd ((((((w.setCell ⟨b,2,none⟩ (.int .i64 (q:Int))).setCell ⟨b,3,none⟩ (.string ⟨#[]⟩)).setCell ⟨b,4,none⟩ (.int .i64 0)).setCell ⟨b,5,none⟩ (.int .i64 0)).setCell ⟨b,6,none⟩ (.string ⟨#[]⟩)).setCell ⟨b,7,none⟩ (.slice none 0 0)) b t p (Zfm q):=⟨(((((h.1.set 2 _).set 3 _).set 4 _).set 5 _).set 6 _).set 7 _,h.2⟩
theorem _root_.Go.W.Zaf.anew {v2 v3 v4 v5 v6 v7:Value}(h:Zaf b w0 w):Zaf b w0 ((((((w.setCell ⟨b,2,none⟩ v2).setCell ⟨b,3,none⟩ v3).setCell ⟨b,4,none⟩ v4).setCell ⟨b,5,none⟩ v5).setCell ⟨b,6,none⟩ v6).setCell ⟨b,7,none⟩ v7):=(((((h.set _ _).set _ _).set _ _).set _ _).set _ _).set _ _
theorem Zsm (Z:Zap a w)(h:Rd w b t p x):
  Calls Tryz.prog 75 #[.pointer (some ⟨b,0,none⟩)] w (Zey a b t VU w (Zg6 t p)):=by
 have ht:=h.2.1;have hg:=h.2.2.2;have CS:=Zaa (Z63 h);have ZZ:=Zaa Z;have F:Box (Zg6 t p=if Zgv (Zab t) p=t.size then .ok ((),Zfm t.size,t.size)else Zgp t ((Zab t).getD (Zgv (Zab t) p) 0) (Zgv (Zab t) p)):=⟨rfl⟩;clear h Z;generalize Zgv (Zab t) p=q at*;go_enter Tryz.func75,Tryz.ntmps75
 go_wp2_with fail
 refine CS.out.mono ?_;rintro e w1 ⟨rfl,hk,hr⟩;have HK:=Zaa hk;have HR:=Zaa hr;have ZA:=Zaa (ZZ.out.keeps hk hg);have hq:=hr.2.2.1;obtain⟨c0,c1,c2,c3,c4,c5,c6,c7,sf⟩:=hr.1.eight;clear hk hr CS ZZ;obtain⟨w2,hw2⟩: ∃ w2,((((((w1.setCell ⟨b,2,none⟩ (.int .i64 (q:Int))).setCell ⟨b,3,none⟩ (.string ⟨#[]⟩)).setCell ⟨b,4,none⟩ (.int .i64 0)).setCell ⟨b,5,none⟩ (.int .i64 0)).setCell ⟨b,6,none⟩ (.string ⟨#[]⟩)).setCell ⟨b,7,none⟩ (.slice none 0 0))=w2:=⟨_,rfl⟩;have HR2:Box (Rd w2 b t q (Zfm q)):=⟨hw2▸HR.out.anew⟩;have HK2:Box (Zaf b w w2):=⟨hw2▸HK.out.anew⟩;have Z2:Box (Zap a w2):=⟨hw2▸ZA.out.keeps (Zaf.refl b w1).anew hg⟩;go_wp2_with fail
 clear hw2 c0 c1 c2 c3 c4 c5 c6 c7 sf HR HK ZA;obtain⟨c0,c1,c2,c3,c4,c5,c6,c7,sf⟩:=HR2.out.1.eight;by_cases hqe:q=t.size
 ·have Y:Box (Zg6 t p= .ok ((),Zfm q,q)):=⟨by rw[F.out,if_pos hqe,hqe]⟩;have g1:((q:Int)==(t.size:Int))=true:=by rw[beq_iff_eq];omega
  clear hqe;go_quiet (fail)
  go_wp2_with fail
  refine bodyPost_ret (by simp[results,Tryz.results75,go_sem];try rfl) rfl ?_;exact⟨HK2.out.dr _,Or.inr ⟨_,_,_,_,Y.out,rfl,rfl,HR2.out⟩⟩
 have Y:=Zaa (F.out.trans (if_neg hqe));have g1:((q:Int)==(t.size:Int))=false:=by rw[beq_eq_false_iff_ne];omega
 have hql:q < t.size:=by omega
 have hx:=Zhp t q hql;have C0:=Zaa (Zj0 ((Zab t).getD q 0));have C1:=Zaa (Zjz ((Zab t).getD q 0));generalize (Zab t).getD q 0=c at*;clear F;go_quiet (fail)
 obtain⟨w5,hw5⟩: ∃ w3,w2.drewN nq=w3:=⟨_,rfl⟩;rw[hw5];have HR5:Box (Rd w5 b t q (Zfm q)):=⟨hw5▸HR2.out.dr _⟩;have HK5:Box (Zaf b w w5):=⟨hw5▸HK2.out.dr _⟩;have Z5:Box (Zap a w5):=⟨hw5▸Z2.out.below (Zb2 (Yct _ _))⟩;clear hw5 HR2 HK2 Z2 c0 c1 c2 c3 c4 c5 c6 c7 sf;obtain⟨c0,c1,c2,c3,c4,c5,c6,c7,sf⟩:=HR5.out.1.eight;go_wp2_with fail
 go_quiet (fail)
 obtain⟨w3,hw3⟩: ∃ w3,w5.drewN nq=w3:=⟨_,rfl⟩;rw[hw3];have HR3:Box (Rd w3 b t q (Zfm q)):=⟨hw3▸HR5.out.dr _⟩;have HK3:Box (Zaf b w w3):=⟨hw3▸HK5.out.dr _⟩;have Z3:Box (Zap a w3):=⟨hw3▸Z5.out.below (Zb2 (Yct _ _))⟩;clear hw3 HR5 HK5 Z5 c0 c1 c2 c3 c4 c5 c6 c7 sf;obtain⟨c0,c1,c2,c3,c4,c5,c6,c7,sf⟩:=HR3.out.1.eight;cases hs:Zce c
 case' true=>
  rw[hs]at C0;have E:Box (Zg6 t p=Zp7 t (Zfm q) q):=⟨by rw[Y.out];unfold Zgp;rw[if_pos hs]⟩;go_wp2_with (first | (go_at_call 125;refine(C0.out _).mono ?_;rintro e w' ⟨rfl,rfl⟩) | (go_at_call 129;refine(C1.out _).mono ?_;rintro e w' ⟨rfl,rfl⟩))
  refine(Zuo Zsf Z3.out HR3.out).mono ?_;rintro e w4 ⟨hk4,⟨n,r,hy,hn,L,hL,rfl,hB⟩ | ⟨v,y,x2,r,hy,rfl,hv,hr4⟩⟩
  ·exact⟨rfl,HK3.out.trans hk4,Or.inl ⟨n,r,E.out.trans hy,hn,L,Ycu HK3.out.size hL,rfl,hB⟩⟩
  ·obtain rfl:v= .tuple #[]:=hv;have R:=Zaa (Ycs (HK3.out.trans hk4) (Ycs (E.out.trans hy) hr4));clear hk4 hy hr4;go_wp2_with fail
   exact⟨rfl,_,(by simp[results,Tryz.results75,go_sem];try rfl),R.out.1,Or.inr ⟨_,_,_,_,R.out.2.1,rfl,rfl,R.out.2.2⟩⟩
 rw[hs]at C0;by_cases h36:c=36
 ·have E:Box (Zg6 t p=Zee t (Zfm q) q):=⟨by rw[Y.out];unfold Zgp;rw[if_neg (by rw[hs];simp),if_pos h36]⟩;have g2:((c:Int)==36)=true:=by rw[beq_iff_eq];omega
  clear h36;go_wp2_with (first | (go_at_call 125;refine(C0.out _).mono ?_;rintro e w' ⟨rfl,rfl⟩) | (go_at_call 129;refine(C1.out _).mono ?_;rintro e w' ⟨rfl,rfl⟩))
  refine(Zmt Z3.out HR3.out hql).mono ?_;rintro e w4 ⟨hk4,⟨n,r,hy,hn,L,hL,rfl,hB⟩ | ⟨v,y,x2,r,hy,rfl,hv,hr4⟩⟩
  ·exact⟨rfl,HK3.out.trans hk4,Or.inl ⟨n,r,E.out.trans hy,hn,L,Ycu HK3.out.size hL,rfl,hB⟩⟩
  ·obtain rfl:v= .tuple #[]:=hv;have R:=Zaa (Ycs (HK3.out.trans hk4) (Ycs (E.out.trans hy) hr4));clear hk4 hy hr4;go_wp2_with fail
   exact⟨rfl,_,(by simp[results,Tryz.results75,go_sem];try rfl),R.out.1,Or.inr ⟨_,_,_,_,R.out.2.1,rfl,rfl,R.out.2.2⟩⟩
 have g2:((c:Int)==36)=false:=by rw[beq_eq_false_iff_ne];omega
 by_cases h34:c=34
 ·have E:Box (Zg6 t p=Zsw t (Zfm q) q):=⟨by rw[Y.out];unfold Zgp;rw[if_neg (by rw[hs];simp),if_neg h36,if_pos h34]⟩;have g3:((c:Int)==34)=true:=by rw[beq_iff_eq];omega
  clear h34;go_wp2_with (first | (go_at_call 125;refine(C0.out _).mono ?_;rintro e w' ⟨rfl,rfl⟩) | (go_at_call 129;refine(C1.out _).mono ?_;rintro e w' ⟨rfl,rfl⟩))
  refine(Zp2 Z3.out HR3.out hql).mono ?_;rintro e w4 ⟨hk4,⟨n,r,hy,hn,L,hL,rfl,hB⟩ | ⟨v,y,x2,r,hy,rfl,hv,hr4⟩⟩
  ·exact⟨rfl,HK3.out.trans hk4,Or.inl ⟨n,r,E.out.trans hy,hn,L,Ycu HK3.out.size hL,rfl,hB⟩⟩
  ·obtain rfl:v= .tuple #[]:=hv;have R:=Zaa (Ycs (HK3.out.trans hk4) (Ycs (E.out.trans hy) hr4));clear hk4 hy hr4;go_wp2_with fail
   exact⟨rfl,_,(by simp[results,Tryz.results75,go_sem];try rfl),R.out.1,Or.inr ⟨_,_,_,_,R.out.2.1,rfl,rfl,R.out.2.2⟩⟩
 have g3:((c:Int)==34)=false:=by rw[beq_eq_false_iff_ne];omega
 by_cases h64:c=64
 ·have E:Box (Zg6 t p=Zxw t q 5 (Zfm q) (q+1)):=⟨by rw[Y.out];unfold Zgp;rw[if_neg (by rw[hs];simp),if_neg h36,if_neg h34,if_pos h64]⟩;have g4:((c:Int)==64)=true:=by rw[beq_iff_eq];omega
  clear h64;go_wp2_with (first | (go_at_call 125;refine(C0.out _).mono ?_;rintro e w' ⟨rfl,rfl⟩) | (go_at_call 129;refine(C1.out _).mono ?_;rintro e w' ⟨rfl,rfl⟩))
  refine(Zns (Z3.out.keeps ((Zaf.refl b _).set _ _) hg) (HR3.out.next hql)).mono ?_;rintro e w4 ⟨hk4,⟨n,r,hy,hn,L,hL,rfl,hB⟩ | ⟨v,y,x2,r,hy,rfl,hv,hr4⟩⟩
  ·exact⟨rfl,(HK3.out.set _ _).trans hk4,Or.inl ⟨n,r,E.out.trans (Zqn hy),hn,L,(by have:=HK3.out.size;first | omega | (simp at hL;omega)),rfl,hB⟩⟩
  ·obtain rfl:v= .int .i64 y:=hv;obtain rfl:=Z7f hy;have R:=Zaa (Ycs ((HK3.out.set 1 (.int .i64 ((q:Int)+1))).trans hk4) (Ycs (E.out.trans (Z2s hy)) hr4));obtain⟨d0,d1,d2,d3,d4,d5,d6,d7,sf4⟩:=hr4.1.eight;clear hk4 hy hr4 c0 c1 c2 c3 c4 c5 c6 c7 sf;go_wp2_with fail
   exact⟨rfl,_,(by simp[results,Tryz.results75,go_sem];try rfl),R.out.1.term,Or.inr ⟨_,_,_,_,R.out.2.1,rfl,rfl,R.out.2.2.term 5 y ⟨#[]⟩⟩⟩
 have g4:((c:Int)==64)=false:=by rw[beq_eq_false_iff_ne];omega
 by_cases hnum:c=45\/Zaz c=true
 ·have E:Box (Zg6 t p=Zxw t q 2 (Zfm q) q):=⟨by rw[Y.out];unfold Zgp;rw[if_neg (by rw[hs];simp),if_neg h36,if_neg h34,if_neg h64,if_pos hnum]⟩;have GG:((c:Int)==45)=true\/((c:Int)==45)=false/\Zaz c=true:=by
   by_cases h45:c=45
   ·exact Or.inl (by rw[beq_iff_eq];omega)
   ·exact Or.inr ⟨by rw[beq_eq_false_iff_ne];omega,hnum.resolve_left h45⟩
  clear hnum;rcases GG with ga | ⟨ga,gb⟩
  case' inr=>rw[gb]at C1
  all_goals
   go_wp2_with (first | (go_at_call 125;refine(C0.out _).mono ?_;rintro e w' ⟨rfl,rfl⟩) | (go_at_call 129;refine(C1.out _).mono ?_;rintro e w' ⟨rfl,rfl⟩))
   refine(Zns Z3.out HR3.out).mono ?_;rintro e w4 ⟨hk4,⟨n,r,hy,hn,L,hL,rfl,hB⟩ | ⟨v,y,x2,r,hy,rfl,hv,hr4⟩⟩
   ·exact⟨rfl,HK3.out.trans hk4,Or.inl ⟨n,r,E.out.trans (Zqn hy),hn,L,(by have:=HK3.out.size;first | omega | (simp at hL;omega)),rfl,hB⟩⟩
   ·obtain rfl:v= .int .i64 y:=hv;obtain rfl:=Z7f hy;have R:=Zaa (Ycs (HK3.out.trans hk4) (Ycs (E.out.trans (Z2s hy)) hr4));obtain⟨d0,d1,d2,d3,d4,d5,d6,d7,sf4⟩:=hr4.1.eight;clear hk4 hy hr4 c0 c1 c2 c3 c4 c5 c6 c7 sf;go_wp2_with fail
    exact⟨rfl,_,(by simp[results,Tryz.results75,go_sem];try rfl),R.out.1.term,Or.inr ⟨_,_,_,_,R.out.2.1,rfl,rfl,R.out.2.2.term 2 y ⟨#[]⟩⟩⟩
 have E:Box (Zg6 t p=Zp8 t (Zfm q) q):=⟨by rw[Y.out];unfold Zgp;rw[if_neg (by rw[hs];simp),if_neg h36,if_neg h34,if_neg h64,if_neg hnum]⟩;have g5:((c:Int)==45)=false:=by rw[beq_eq_false_iff_ne];omega
 have hd:Zaz c=false:=by
  cases hdd:Zaz c
  ·rfl
  ·exact absurd (Or.inr hdd) hnum
 rw[hd]at C1;go_wp2_with (first | (go_at_call 125;refine(C0.out _).mono ?_;rintro e w' ⟨rfl,rfl⟩) | (go_at_call 129;refine(C1.out _).mono ?_;rintro e w' ⟨rfl,rfl⟩))
 refine(Ztm Z3.out HR3.out).mono ?_;rintro e w4 ⟨hk4,⟨n,r,hy,hn,L,hL,rfl,hB⟩ | ⟨v,y,x2,r,hy,rfl,hv,hr4⟩⟩
 ·exact⟨rfl,HK3.out.trans hk4,Or.inl ⟨n,r,E.out.trans hy,hn,L,Ycu HK3.out.size hL,rfl,hB⟩⟩
 ·obtain rfl:v= .tuple #[]:=hv;have R:=Zaa (Ycs (HK3.out.trans hk4) (Ycs (E.out.trans hy) hr4));clear hk4 hy hr4;go_wp2_with fail
  exact⟨rfl,_,(by simp[results,Tryz.results75,go_sem];try rfl),R.out.1,Or.inr ⟨_,_,_,_,R.out.2.1,rfl,rfl,R.out.2.2⟩⟩
theorem _root_.Go.W.Blk.six {e:TypeId}{a b c d f g:Value}(h:Blk w L #[a,b,c,d,f,g] e):w.cell? ⟨L,0,none⟩=some a/\w.cell? ⟨L,1,none⟩=some b/\w.cell? ⟨L,2,none⟩=some c/\w.cell? ⟨L,3,none⟩=some d/\w.cell? ⟨L,4,none⟩=some f/\w.cell? ⟨L,5,none⟩=some g/\ ∀ j,w.frozen? ⟨L,j,none⟩=false:=⟨h.cell 0,h.cell 1,h.cell 2,h.cell 3,h.cell 4,h.cell 5,h.soft⟩
theorem _root_.Go.W.Zaf.r6 (h:Zaf b w0 w)(hL:w0.heap.size<=L):Zaf b w0 ((((((w.setCell ⟨L,0,none⟩ x0).setCell ⟨L,1,none⟩ x1).setCell ⟨L,2,none⟩ x2).setCell ⟨L,3,none⟩ x3).setCell ⟨L,4,none⟩ x4).setCell ⟨L,5,none⟩ x5):=((h.r4 hL).setNew _ _ _ hL).setNew _ _ _ hL
theorem Rd.r6 (h:Rd w b t p x)(hL:b≠L):Rd ((((((w.setCell ⟨L,0,none⟩ x0).setCell ⟨L,1,none⟩ x1).setCell ⟨L,2,none⟩ x2).setCell ⟨L,3,none⟩ x3).setCell ⟨L,4,none⟩ x4).setCell ⟨L,5,none⟩ x5) b t p x:=⟨(((((h.1.away _ _ hL _).away _ _ hL _).away _ _ hL _).away _ _ hL _).away _ _ hL _).away _ _ hL _,h.2⟩
def Zmm (x:Tk):Value:= .agg #[.int .i64 (x.at_:Int),.string x.text,.int .i64 x.k,.int .i64 x.i,.string x.s,.slice none 0 0]
theorem Zc4 (Z:Zap a w)(h:Rd w b t p x):
  Calls Tryz.prog 82 #[.pointer (some ⟨b,0,none⟩)] w (Zey a b t (fun _ v y=>v=Zmm y) w (Zc0 t x p)):=by
 have hg:=h.2.2.2;have hblt:=h.1.lt;have HR0:=Zaa (h.alloc (.cells #[.int .i64 0,.string ⟨#[]⟩,.int .i64 0,.int .i64 0,.string ⟨#[]⟩,.slice none 0 0] 171));have Z0:=Zaa (Z.below ((Yct _ w).alloc lr (.cells #[.int .i64 0,.string ⟨#[]⟩,.int .i64 0,.int .i64 0,.string ⟨#[]⟩,.slice none 0 0] 171)));have K0:=Zaa ((Zaf.refl b w).alloc (.cells #[.int .i64 0,.string ⟨#[]⟩,.int .i64 0,.int .i64 0,.string ⟨#[]⟩,.slice none 0 0] 171));have L0:=Zaa (Blk.new w #[.int .i64 0,.string ⟨#[]⟩,.int .i64 0,.int .i64 0,.string ⟨#[]⟩,.slice none 0 0] 171);obtain⟨c0,c1,c2,c3,c4,c5,c6,c7,sf⟩:=HR0.out.1.eight;have HR1:=Zaa (HR0.out.alloc (.cells #[.int .i64 (x.at_:Int),.string x.text,.int .i64 x.k,.int .i64 x.i,.string x.s,.slice none 0 0] 171));have Z1:=Zaa (Z0.out.below ((Yct _ _).alloc lr (.cells #[.int .i64 (x.at_:Int),.string x.text,.int .i64 x.k,.int .i64 x.i,.string x.s,.slice none 0 0] 171)));have K1:=Zaa (K0.out.alloc (.cells #[.int .i64 (x.at_:Int),.string x.text,.int .i64 x.k,.int .i64 x.i,.string x.s,.slice none 0 0] 171));have L1:=Zaa (Blk.new (w.alloc (.cells #[.int .i64 0,.string ⟨#[]⟩,.int .i64 0,.int .i64 0,.string ⟨#[]⟩,.slice none 0 0] 171)) #[.int .i64 (x.at_:Int),.string x.text,.int .i64 x.k,.int .i64 x.i,.string x.s,.slice none 0 0] 171);have L2:=Zaa (L0.out.alloc (.cells #[.int .i64 (x.at_:Int),.string x.text,.int .i64 x.k,.int .i64 x.i,.string x.s,.slice none 0 0] 171));have CR:=Zaa (Zsm Z1.out HR1.out);clear Z h HR0 Z0 K0 L0;go_enter Tryz.func82,Tryz.ntmps82
 go_wp2_with fail
 refine CR.out.mono ?_;rintro e w1 ⟨hk4,⟨n,r,hy,hn,L,hL,rfl,hB⟩ | ⟨v,y,x2,r,hy,rfl,hv,hr4⟩⟩
 ·exact⟨rfl,K1.out.trans hk4,Or.inl ⟨n,r,by unfold Zc0;rw[hy],hn,L,by simp at hL;omega,rfl,hB⟩⟩
 ·obtain rfl:v= .tuple #[]:=hv;have M1:=L1.out.of (hk4.block _ (by simp) (by simp;omega));have M2:=L2.out.of (hk4.block _ (by simp;omega) (by omega));simp only[Yc4]at M1;have Y:Box (Zc0 t x p= .ok (x,x2,r)):=⟨by unfold Zc0;rw[hy]⟩;have R:=Zaa (Ycs (K1.out.trans hk4) hr4);obtain⟨d0,d1,d2,d3,d4,d5,sd⟩:=M1.six;obtain⟨f0,f1,f2,f3,f4,f5,sg⟩:=M2.six;clear hk4 hy hr4 c0 c1 c2 c3 c4 c5 c6 c7 sf HR1 Z1 K1 L1 L2 CR M1 M2;go_wp2_with fail
  refine bodyPost_ret (by simp[results,Tryz.results82,go_sem,f0,f1,f2,f3,f4,f5];try rfl) rfl ?_;exact⟨R.out.1.r6 lr,Or.inr ⟨_,x,_,_,Y.out,rfl,rfl,R.out.2.r6 (by omega)⟩⟩
end Go.P
namespace Go.W
abbrev Re (α:Type):=Except (Int×Nat) (α×Tk×Nat)
def Zbf {α β:Type} (m:Re α) (f:α->Tk->Nat->Re β):Re β:=match m with
 | .error e=> .error e
 | .ok (y,x,p)=>f y x p
theorem Zai {α β:Type}{m:Re α}{e:Int×Nat}(h:m= .error e){f:α->Tk->Nat->Re β}:Zbf m f= .error e:=by rw[h];rfl
theorem Zan {α β:Type}{m:Re α}{y:α}{x:Tk}{p:Nat}(h:m= .ok (y,x,p)){f:α->Tk->Nat->Re β}:Zbf m f=f y x p:=by rw[h];rfl
def Zgx (t:ByteArray) (s:List UInt8) (x:Tk) (p:Nat):Re Unit:=if x.text.toList=s then Zbf (Zc0 t x p) fun _ x' p'=> .ok ((),x',p')else .error (2,x.at_)
def Zmr {α:Type} (t:ByteArray) (read:Tk->Nat->Re α) (s:List UInt8) (most:Nat):Nat->List α->Tk->Nat->Re (List α)
 | 0,_,x,_=> .error (4,x.at_)
 | n+1,xs,x,p=>Zbf (read x p) fun y x1 p1=>if xs.length=most then .error (4,x.at_)else if x1.text.toList=s then Zbf (Zc0 t x1 p1) fun _ x2 p2=>Zmr t read s most n (xs++[y]) x2 p2 else .ok (xs++[y],x1,p1)
def Zf4 (t:ByteArray) (read:Tk->Nat->Re T) (s:List UInt8) (x:Tk) (p:Nat):Re (List T):=Zbf (if x.text.toList=s then .ok ([],x,p)else Zmr t read [44] 6 7 [] x p) fun l x1 p1=>Zbf (Zgx t s x1 p1) fun _ x2 p2=> .ok (l,x2,p2)
def Zpx:List UInt8:=[116,114,117,101]
def Zdz (t:ByteArray):Nat->Tk->Nat->Re T
 | 0,x,p=>if Zjq x.text=true then Zbf (Zc0 t x p) fun _ x1 p1=> .ok (.mk 6 (if x.text.toList=Zpx then 1 else 0) ⟨#[]⟩ [],x1,p1)else if x.text.toList=[91]then .error (3,x.at_)else if x.k=0\/x.k=1 then .error (2,x.at_)else Zbf (Zc0 t x p) fun _ x1 p1=> .ok (.mk x.k x.i x.s [],x1,p1)
 | d+1,x,p=>if Zjq x.text=true then Zbf (Zc0 t x p) fun _ x1 p1=> .ok (.mk 6 (if x.text.toList=Zpx then 1 else 0) ⟨#[]⟩ [],x1,p1)else if x.text.toList=[91]then Zbf (Zc0 t x p) fun _ x1 p1=>Zbf (Zf4 t (Zdz t d) [93] x1 p1) fun l x2 p2=> .ok (.mk 7 0 ⟨#[]⟩ l,x2,p2)else if x.k=0\/x.k=1/\d+1 < 3 then .error (2,x.at_)else Zbf (Zc0 t x p) fun _ x1 p1=> .ok (.mk x.k x.i x.s [],x1,p1)
def Zgs (s:ByteArray):Bool:=decide (s.size≠0) && Zce ((Zab s).getD 0 0)
def Zmw (t:ByteArray) (x:Tk) (p:Nat):Re A:=if Zgs x.text=true/\Zzc x.text=false then Zbf (Zc0 t x p) fun _ x1 p1=>Zbf (Zgx t [40] x1 p1) fun _ x2 p2=>Zbf (Zf4 t (Zdz t 3) [41] x2 p2) fun l x3 p3=> .ok (⟨x.text,l⟩,x3,p3)else .error (2,x.at_)
def opW (s:ByteArray):Nat:=match Zbo.findIdx? (fun m=>decide (m=s))with
 | some i=>i+1
 | none=>0
def Zot (t:ByteArray) (x:Tk) (p:Nat):Re G:=Zbf (Zdz t 3 x p) fun a x1 p1=>if opW x1.text=0 then .error (2,x1.at_)else Zbf (Zc0 t x1 p1) fun _ x2 p2=>Zbf (Zdz t 3 x2 p2) fun b x3 p3=> .ok (⟨opW x1.text,a,b⟩,x3,p3)
def Zr5 (t:ByteArray) (r:R) (x:Tk) (p:Nat):Re R:=if Zgs x.text=true/\Zjq x.text=false then Zbf (Zmw t x p) fun a x1 p1=>if r.body.length=4 then .error (4,x.at_)else .ok ({r with body:=r.body++[a]},x1,p1)else Zbf (Zot t x p) fun g x1 p1=>if r.guards.length=4 then .error (4,x.at_)else .ok ({r with guards:=r.guards++[g]},x1,p1)
def Zek (t:ByteArray):Nat->R->Tk->Nat->Re R
 | 0,_,x,_=> .error (4,x.at_)
 | n+1,r,x,p=>Zbf (Zr5 t r x p) fun r1 x1 p1=>if x1.text.toList=[44]then Zbf (Zc0 t x1 p1) fun _ x2 p2=>Zek t n r1 x2 p2 else .ok (r1,x1,p1)
def Zmy:R:=⟨⟨⟨#[]⟩,[]⟩,[],[]⟩
def Zlm (t:ByteArray) (x:Tk) (p:Nat):Re R:=Zbf (Zek t 9 Zmy x p) fun r x1 p1=>if r.guards.all (fun g=>Zcg [g.a,g.b] r.body)=true then .ok (r,x1,p1)else .error (5,x.at_)
def Zho (t:ByteArray) (x:Tk) (p:Nat):Re (List R):=Zbf (Zgx t [105,102] x p) fun _ x1 p1=>Zmr t (Zlm t) [111,114] 4 5 [] x1 p1
def Zkg (t:ByteArray) (b:Bk) (x:Tk) (p:Nat):Re Bk:=Zbf (Zc0 t x p) fun _ x1 p1=>Zbf (Zho t x1 p1) fun l x2 p2=>if b.checks.length=24 then .error (4,x.at_)else .ok ({b with checks:=b.checks++[l]},x2,p2)
def Zb0 (t:ByteArray) (b:Bk) (x:Tk) (p:Nat):Re Bk:=Zbf (Zmw t x p) fun h x1 p1=>if x1.text.toList=[60,45]then Zbf (Zc0 t x1 p1) fun _ x2 p2=>Zbf (Zlm t x2 p2) fun r x3 p3=>if Zcg h.terms r.body=false then .error (5,x.at_)else if b.rules.length=24 then .error (4,x.at_)else .ok ({b with rules:=b.rules++[{r with head:=h}]},x3,p3)else if Zcg h.terms []=false then .error (5,x.at_)else if b.facts.length=24 then .error (4,x.at_)else .ok ({b with facts:=b.facts++[h]},x1,p1)
def Zrw (x:Tk):Bool:=decide (x.text.size=0) && decide (x.k=0)
def Zy3:List UInt8:=[99,104,101,99,107]
def Zed (t:ByteArray):Nat->Bk->Tk->Nat->Re Bk
 | 0,_,x,_=> .error (4,x.at_)
 | n+1,b,x,p=>if Zrw x=true then .ok (b,x,p)else Zbf (if x.text.toList=Zy3 then Zkg t b x p else Zb0 t b x p) fun b1 x1 p1=>Zbf (Zgx t [59] x1 p1) fun _ x2 p2=>Zed t n b1 x2 p2
def Zei (t:ByteArray) (x:Tk) (p:Nat):Re Bk:=Zed t 73 ⟨[],[],[]⟩ x p
def Zia:List UInt8:=[97,108,108,111,119]
def Z5f:List UInt8:=[100,101,110,121]
def Zcu (t:ByteArray):Nat->List Pol->Tk->Nat->Re (List Pol)
 | 0,_,x,_=> .error (4,x.at_)
 | n+1,l,x,p=>if Zrw x=true then .ok (l,x,p)else if x.text.toList=Zia\/x.text.toList=Z5f then Zbf (Zc0 t x p) fun _ x1 p1=>Zbf (Zho t x1 p1) fun e x2 p2=>if l.length=24 then .error (4,x.at_)else Zbf (Zgx t [59] x2 p2) fun _ x3 p3=>Zcu t n (l++[⟨decide (x.text.toList=Zia),e⟩]) x3 p3 else .error (2,x.at_)
def Zdg (t:ByteArray) (x:Tk) (p:Nat):Re (List Pol):=Zcu t 25 [] x p
def Zca {α:Type} (t:ByteArray) (read:Tk->Nat->Re α):Except (Int×Nat) α:=if 8000 < t.size then .error (4,8000)else match Zbf (Zg6 t 0) fun _ x p=>read x p with
 | .error e=> .error e
 | .ok (y,_,_)=> .ok y
end Go.W
