import Derived.Test.YtmebjfclpalmaaaGreatDoorW23
import Derived.Lib.RuneBytes
import Derived.Lib.TrimU
import Derived.Lib.TrimUEq
set_option maxRecDepth 100000
set_option maxHeartbeats 8000000
set_option linter.unusedSimpArgs false
open Go.Proofs Go.RowKit Go.W Tryz
namespace Go.W
variable {t s:ByteArray}{x:Tk}{f p b:Nat}{acc:List UInt8}{o:Obj}
def Zm6 (t:ByteArray) (x:Tk):Nat->Nat->List UInt8->Except (Int×Nat) (List UInt8×Nat)
 | 0,_,_=> .error (1,x.at_)
 | f+1,p,acc=>if(Zac t).getD p 0=34 then .ok (acc,p)else if p=t.size\/(Zac t).getD p 0=10 then .error (1,x.at_)
  else if(Zac t).getD p 0=92 then match Z13 t x (p+1)with
   | .error e=> .error e
   | .ok (y,_,q)=>Zm6 t x f q (acc++Lib.encodeRune (y:Int))
  else if(Lib.decodeGo (t.extract p t.size)).1=65533/\(Lib.decodeGo (t.extract p t.size)).2=1 then .error (1,x.at_)
  else Zm6 t x f (p+(Lib.decodeGo (t.extract p t.size)).2) (acc++Lib.encodeRune ((Lib.decodeGo (t.extract p t.size)).1:Nat))
def Zus (t:ByteArray) (x:Tk) (p:Nat):Except (Int×Nat) (Unit×Tk×Nat):=match Zm6 t x (t.size+1) (p+1) []with
 | .error e=> .error e
 | .ok (s,q)=>if 64 < s.length then .error (4,x.at_)else .ok ((),{x with k:=3,i:=0,s:=⟨s.toArray⟩},q+1)
theorem Z68 (h:(Zac t).getD p 0=34):Zm6 t x (f+1) p acc= .ok (acc,p):=by rw[Zm6,if_pos h]
theorem Z67 (h0:(Zac t).getD p 0≠34)(h:p=t.size\/(Zac t).getD p 0=10):Zm6 t x (f+1) p acc= .error (1,x.at_):=by rw[Zm6,if_neg h0,if_pos h]
theorem Z69 (h0:(Zac t).getD p 0≠34)(h1: ¬ (p=t.size\/(Zac t).getD p 0=10))(h:(Zac t).getD p 0=92):(∀ e,Z13 t x (p+1)= .error e->Zm6 t x (f+1) p acc= .error e)/\ ∀ y x' q,Z13 t x (p+1)= .ok (y,x',q)->Zm6 t x (f+1) p acc=Zm6 t x f q (acc++Lib.encodeRune (y:Int)):=by
 rw[Zm6,if_neg h0,if_neg h1,if_pos h];exact⟨fun e he=>by rw[he],fun y x' q he=>by rw[he]⟩
theorem Z4i (h0:(Zac t).getD p 0≠34)(h1: ¬ (p=t.size\/(Zac t).getD p 0=10))(h2:(Zac t).getD p 0≠92):((Lib.decodeGo (t.extract p t.size)).1=65533/\(Lib.decodeGo (t.extract p t.size)).2=1->Zm6 t x (f+1) p acc= .error (1,x.at_))/\(¬ ((Lib.decodeGo (t.extract p t.size)).1=65533/\(Lib.decodeGo (t.extract p t.size)).2=1)->Zm6 t x (f+1) p acc=Zm6 t x f (p+(Lib.decodeGo (t.extract p t.size)).2) (acc++Lib.encodeRune ((Lib.decodeGo (t.extract p t.size)).1:Nat))):=by
 rw[Zm6,if_neg h0,if_neg h1,if_neg h2];exact⟨fun h=>by rw[if_pos h],fun h=>by rw[if_neg h]⟩
theorem Zx2 {bs:List Nat}{at_:Nat}: ∀ {f v p r q:Nat},Zkm bs at_ f v p= .ok (r,q)->p<=q
 | 0,v,p,r,q,h=>by rw[Zkm]at h;cases h;exact Yec _
 | f+1,v,p,r,q,h=>by
  rw[Zkm]at h;split at h
  ·have:=Zx2 h
   omega
  ·cases h
theorem Ybe {x2:Tk}{y r:Nat}(h:Z13 t x p= .ok (y,x2,r)):x2=x/\p<=r:=by
 unfold Z13 at h;split at h
 ·cases h;exact⟨rfl,by omega⟩
 ·split at h
  ·unfold Zmr at h;split at h
   ·cases h
   ·rename_i hc
    have:=Zx2 hc
    split at h
    ·cases h;exact⟨rfl,by omega⟩
    ·cases h
  ·cases h
theorem Z9y (s:ByteArray):(Lib.decodeGo s).1<=1114111:=by
 unfold Lib.decodeGo;split
 ·decide
 ·rw[Lib.decode_at];exact Lib.decodeN_rune_le _ _ _ _ _ (UInt8.toNat_lt _)
theorem Z7s (h:s.size≠0):1<=(Lib.decodeGo s).2:=by
 unfold Lib.decodeGo;rw[if_neg h];exact Lib.width_pos s 0
theorem Z7t (h:s.size≠0):(Lib.decodeGo s).2<=s.size:=by
 unfold Lib.decodeGo;rw[if_neg h,Lib.decode_at];unfold Lib.decodeN
 repeat' split
 all_goals (simp only;omega)
section
variable {w w':World} {B:Nat} {e:TypeId} {v:Value} {n:Nat} {xs:List Value}
theorem Zmh (h:w.ownsRow B e 1 v n xs)(k: ∀ j,B<=j->j < w.heap.size->w'.heap[j]?=w.heap[j]?):w'.ownsRow B e 1 v n xs:=by
 refine⟨h.1,?_⟩;rcases h.2 with h0 | ⟨g,cap,cur,hv,hb,hg,rest⟩
 ·exact Or.inl h0
 ·exact Or.inr ⟨g,cap,cur,hv,hb,(k g hb (Ydo.1 hg).1).trans hg,rest⟩
theorem Z78 (h:w.ownsRow B e 1 v n xs){k:Nat}(hk:v.ownBlock=some k):B<=k:=by
 rcases h.2 with⟨rfl,_⟩ | ⟨g,cap,cur,rfl,hb,_⟩
 ·cases hk
 ·cases hk;exact hb
theorem Z34 (h:w.ownsRow B e 1 v n xs)(g:(w.alloc o).grownBy w' v.ownBlock){w0:World}(hB:w0.heap.size<=B)(k:Zah b w0 w):Zah b w0 w':=
 ⟨g.os.trans k.os,g.tape.trans k.tape,g.output.trans k.output,Ydc k.size (Ydc (by simp) g.size),fun j hj hb=>by
  have hjw:j < w.heap.size:=Ydh hj k.size;rw[g.block j (by simp;omega) (fun hh=>by have:=Z78 h hh.symm;omega),Ydf w o j hjw];exact k.block j hj hb⟩
theorem Zyw (h:w.ownsRow B e 1 v n xs)(g:(w.alloc o).grownBy w' v.ownBlock)(hb:b < B)(hw:b < w.heap.size):w'.heap[b]?=w.heap[b]?:=by
 rw[g.block b (by simp;omega) (fun hh=>by have:=Z78 h hh.symm;omega),Ydf w o b hw]
end
end Go.W
namespace Go.P
variable {w:World}{a:Nat->Addr}{b p:Nat}{t:ByteArray}{x:Tk}
theorem Z7n {B:Nat}{p:Option Addr}{n c:Nat}{acc:List UInt8}(h:w.ownsRow B 5 1 (.slice p n c) n (Lib.byteCells acc)):(convert 74 9 (.slice p n c)).run prog w= .ok (.string ⟨acc.toArray⟩) w:=by
 have hl:acc.length=n:=by have:=h.1;simpa[Lib.byteCells]using this
 rcases h.2 with⟨h1,h2⟩ | ⟨g,cap,cur,hv,_,hg,hc,_,hs,ht⟩
 ·cases h1;obtain rfl:acc=[]:=Yds (by omega);exact run_convert_bytes_nil (P:=prog) w 74 5 underlying74 underlying5 0 0 9 underlying9
 ·cases hv;subst hl;refine Yfp (P:=prog) w 74 9 5 ⟨g,0,none⟩ c acc underlying74 underlying5 underlying9 (fun j hj=>?_);have e:(⟨g,0,none⟩:Addr).add j=⟨g,j,none⟩:=by unfold Addr.add;split <;> simp_all
  rw[e,cell_of_row w g j cur _ (0,0) hg];have h3:(Lib.byteCells acc)[j]?=cur.toList[j]?:=by rw[<- ht,List.getElem?_take,if_pos (by omega)]
  rw[<- Yee,<- h3];simp[Lib.byteCells,hj]
theorem Zao.drew (h:Zao a w):Zao a w.drew:=h
theorem Rd.drew (h:Rd w b t p x):Rd w.drew b t p x:=h
def Yas (b:Nat) (w:World) (t:ByteArray) (p:Nat) (x:Tk) (tv:Value) (wr:World):Prop:= ∃ (f q:Nat) (acc:List UInt8) (pp:Option Addr) (c:Nat),tv= .slice pp acc.length c/\p+1<=q/\acc.length<=4*q/\t.size < f+q/\wr.ownsRow w.heap.size 5 1 tv acc.length (Lib.byteCells acc)/\Rd wr b t q x/\Zah b w wr/\Zm6 t x f q acc=Zm6 t x (t.size+1) (p+1) []
theorem Zp3 (Z:Zao a w)(h:Rd w b t p x)(hp:p < t.size):
  Calls prog 126 #[.pointer (some ⟨b,0,none⟩)] w (Ze6 a b t VU w (Zus t x p)):=by
 have ht:=h.2.1;have hg:=h.2.2.2;obtain⟨c0,c1,-,-,-,-,-,-,sf⟩:=h.1.eight;have hblt:=h.1.lt;have HN:=Zaa (h.next hp);have HK0:=Zaa ((Zah.refl b w).set 1 (.int .i64 ((p:Int)+1)));have ZZ:=Zaa Z;clear h Z;go_in
 go_wp2
 go_loopw [2] (fun tv wr=>Yas b w t p x tv wr) (fun _ wr=>t.size - Zoj b wr)
 case atStart=>exact⟨t.size+1,p+1,[],none,0,rfl,by omega,by simp,by omega,⟨rfl,Or.inl ⟨rfl,rfl⟩⟩,HN.out,HK0.out,rfl⟩
 case round=>
  obtain⟨f,q,acc,pp,cc,rfl,hpq,hacc,hf,hO,hR,hK,hE⟩:=hrel;have hM:=Zeb hR;have hq:=hR.2.2.1;obtain⟨f,rfl⟩: ∃ f',f=f'+1:=⟨f - 1,by omega⟩;have HO:=Zaa hO;have HR:=Zaa hR;have HK:=Zaa hK;have HE:=Zaa hE;have ZA:=Zaa (ZZ.out.keeps hK hg);have hsz:=hK.size;have CP:=Zaa (fun u (hu:Rd u b t q x)=>Zku hu);have S0:=Zaa (@Z68 t x f q acc);have S1:=Zaa (@Z67 t x f q acc);have S2:=Zaa (@Z69 t x f q acc);have S3:=Zaa (@Z4i t x f q acc);have hin:Box ((Zac t).getD q 0≠0->q < t.size):=⟨fun hh=>Zr6 hh⟩;clear hO hR hK hE HN HK0 c0 c1 sf ZZ;obtain⟨c,hcc⟩: ∃ c,(Zac t).getD q 0=c:=⟨_,rfl⟩;have HC:=Zaa hcc;rw[hcc]at CP S0 S1 S2 S3 hin;clear hcc;go_wp2_with fail
  refine(CP.out _ HR.out).mono ?_;rintro e w1 ⟨rfl,hb1⟩;have HR1:=Zaa (HR.out.of hb1);have HK1:=Zaa (HK.out.ofBelow hb1);have ZB:=Zaa (ZA.out.below hb1);have HO1:=Zaa (Zmh HO.out fun j _ hj=>hb1.block j hj);clear hb1 HR HK ZA HO;by_cases h34:c=34
  ·have g1:((c:Int) != 34)=false:=by rw[bne_eq_false_iff_eq];omega
   have E:Box (Zm6 t x (t.size+1) (p+1) []= .ok (acc,q)):=⟨HE.out.symm.trans (S0.out h34)⟩;have hql:=hin.out (by omega);obtain⟨d0,d1,-,-,-,-,-,-,sf1⟩:=HR1.out.1.eight;clear S0 S1 S2 S3 hin CP;have C1:=Zaa (fun u (hu:Rd u b t (q+1) x)=>Zbf a (n:=4) (by decide) hu);have z4:=(ZB.out.keeps ((Zah.refl b w1).set 1 (.int .i64 ((q:Int)+1))) hg).c4;by_cases h64:64 < acc.length
   ·have Y:Box (Zus t x p= .error (4,x.at_)):=⟨by unfold Zus;rw[E.out];simp only;rw[if_pos h64]⟩;have g2:decide (64 < (acc.length:Int))=true:=by simp;omega
    go_wp2_with fail
    refine(C1.out _ (HR1.out.next hql)).mono ?_;rintro e w2 ⟨⟨L,hL,rfl,hB⟩,hb⟩;exact⟨rfl,(HK1.out.set _ _).ofBelow hb,Or.inl ⟨4,_,Y.out,by decide,L,by have:=HK1.out.size;simp at hL;omega,rfl,hB⟩⟩
   ·have Y:Box (Zus t x p= .ok ((),{x with k:=3,i:=0,s:=⟨acc.toArray⟩},q+1)):=⟨by unfold Zus;rw[E.out];simp only;rw[if_neg h64]⟩;have g2:decide (64 < (acc.length:Int))=false:=by simp;omega
    have CV:=Z7n (Zmh (w':=w1.setCell ⟨b,1,none⟩ (.int .i64 ((q:Int)+1))) HO1.out fun j hj _=>Ydg w1 _ _ j (by show j≠b;omega));obtain⟨-,-,-,-,e4,e5,e6,e7,-⟩:=(HR1.out.next hql).1.eight;clear C1 z4;go_wp2_with fail
    exact⟨rfl,_,(by simp[results,results126,go_sem];try rfl),(HK1.out.set _ _).term,Or.inr ⟨_,_,_,_,Y.out,rfl,rfl,(HR1.out.next hql).term 3 0 _⟩⟩
  have g1:((c:Int) != 34)=true:=by rw[bne_iff_ne];omega
  have C1:=Zaa (fun u (hu:Rd u b t q x)=>Zbf a (n:=1) (by decide) hu);clear S0;by_cases hqe:q=t.size
  ·have Y:Box (Zus t x p= .error (1,x.at_)):=⟨by unfold Zus;rw[<- HE.out,S1.out h34 (Or.inl hqe)]⟩;have g2:((q:Int)==(t.size:Int))=true:=by rw[Yfb];omega
   obtain⟨d0,d1,-,-,-,-,-,-,sf1⟩:=HR1.out.1.eight;have z1:=ZB.out.c1;clear S1 S2 S3 hin CP hqe;go_wp2
   go_quiet (fail)
   go_wp2_with fail
   refine(C1.out _ (HR1.out.dr _)).mono ?_;rintro e w2 ⟨⟨L,hL,rfl,hB⟩,hb⟩;exact⟨rfl,(HK1.out.dr _).ofBelow hb,Or.inl ⟨1,_,Y.out,by decide,L,Ydc HK1.out.size hL,rfl,hB⟩⟩
  have hql:q < t.size:=by omega
  have g2:((q:Int)==(t.size:Int))=false:=by rw[Ye4];omega
  obtain⟨d0,d1,-,-,-,-,-,-,sf1⟩:=HR1.out.1.eight;have CD:=Zaa (fun n=>Zwy (HR1.out.dr n));have hgd:Box ((Zac t).getD q 0=c):=HC;rw[hgd.out]at CD;by_cases h10:c=10
  ·have Y:Box (Zus t x p= .error (1,x.at_)):=⟨by unfold Zus;rw[<- HE.out,S1.out h34 (Or.inr h10)]⟩;have g3:((c:Int)==10)=true:=by rw[Yfb];omega
   have z1:=ZB.out.c1;clear S1 S2 S3 hin CP;go_wp2
   go_quiet ((go_at_call 164;exact Calls.quiet_of (CD.out _)))
   go_wp2_with fail
   refine(C1.out _ (HR1.out.dr _)).mono ?_;rintro e w3 ⟨⟨L,hL,rfl,hB⟩,hb⟩;exact⟨rfl,(HK1.out.dr _).ofBelow hb,Or.inl ⟨1,_,Y.out,by decide,L,Ydc HK1.out.size hL,rfl,hB⟩⟩
  have g3:((c:Int)==10)=false:=by rw[Ye4];omega
  have hno: ¬ (q=t.size\/c=10):=by omega
  clear S1;go_wp2
  go_quiet ((go_at_call 164;exact Calls.quiet_of (CD.out _)))
  have HR2:=Zaa (HR1.out.dr nq);have HK2:=Zaa (HK1.out.dr nq);have ZC:=Zaa (ZB.out.below (Zb6 (n:=nq) (Ydb _ w1)));have HO2:=Zaa (Zmh (w':=w1.drewN nq) HO1.out fun j _ hj=>rfl);clear HR1 HK1 ZB HO1 d0 d1 sf1 CD;go_wp2_with fail
  refine(CP.out _ HR2.out).mono ?_;rintro e w3 ⟨rfl,hb3⟩;have HR3:=Zaa (HR2.out.of hb3);have HK3:=Zaa (HK2.out.ofBelow hb3);have ZD:=Zaa (ZC.out.below hb3);have HO3:=Zaa (Zmh HO2.out fun j _ hj=>hb3.block j hj);obtain⟨d0,d1,-,-,-,-,-,-,sf3⟩:=HR3.out.1.eight;clear hb3 HR2 HK2 ZC HO2 CP;by_cases h92:c=92
  ·have g4:((c:Int)==92)=true:=by rw[Yfb];omega
   have T:=Zaa (S2.out h34 hno h92);have CE:=Zaa (fun u (h1:Zao a u) (h2:Rd u b t (q+1) x)=>Zp2 h1 h2);clear S2 S3 C1 hin;go_wp2_with fail
   refine(CE.out _ (ZD.out.keeps ((Zah.refl b w3).set _ _) hg) (HR3.out.next hql)).mono ?_;rintro e w4 ⟨hk4,⟨n,r,hy,hn,L,hL,rfl,hB⟩ | ⟨v,y,x2,r,hy,rfl,⟨rfl,hv,hy6⟩,hr4⟩⟩
   ·have Y:Box (Zus t x p= .error (n,r)):=⟨by unfold Zus;rw[<- HE.out,T.out.1 _ hy]⟩;exact⟨rfl,(HK3.out.set _ _).trans hk4,Or.inl ⟨n,r,Y.out,hn,L,by have:=HK3.out.size;simp at hL;omega,rfl,hB⟩⟩
   ·obtain⟨rfl,hqr⟩:=Ybe hy;have hsz4:=hk4.size;have hrl:=hr4.2.2.1;have EQ:Box (Zm6 t x2 f r (acc++Lib.encodeRune (y:Int))=Zm6 t x2 (t.size+1) (p+1) []):=⟨(T.out.2 _ _ _ hy).symm.trans HE.out⟩;have HO4:Box (w4.ownsRow w.heap.size 5 1 (.slice pp acc.length cc) acc.length (Lib.byteCells acc)):=⟨Zmh (Zmh (w':=w3.setCell ⟨b,1,none⟩ (.int .i64 ((q:Int)+1))) HO3.out fun j hj _=>Ydg w3 _ _ j (by show j≠b;omega)) fun j hj hl=>hk4.block j hl (by omega)⟩;have HK4:=Zaa ((HK3.out.set 1 (.int .i64 ((q:Int)+1))).trans hk4);have HR4:=Zaa hr4;have AP:=Zaa (Zjk w.heap.size (.slice pp acc.length cc) acc.length (Lib.byteCells acc) (y:Int) (by omega) (by omega) w4 HO4.out (by omega) HK4.out.size);have el:=Lib.encodeRuneZ_length (y:Int);clear hk4 hr4 hy T CE HE HO3 HK3 HR3 d0 d1 sf3;go_wp2_with fail
    refine AP.out.mono ?_;rintro e w5 ⟨v',rfl,ho5,o5,hg5⟩;have hk5:=Z34 HO4.out hg5 lr HK4.out;have hr5:Rd w5 b t r x2:=⟨HR4.out.1.of (Zyw HO4.out hg5 hblt HR4.out.1.lt),HR4.out.2⟩;rw[<- Lib.byteCells_encodeRune,<- Lib.byteCells_append,Lib.byteCells_encodeRune]at ho5;obtain⟨pa,ca,rfl⟩:=Zfo ho5;have R5:=Zaa (Yda ho5 (Yda hk5 hr5));have hM5:=Zeb hr5;clear ho5 hk5 hr5 hg5 AP;go_wp2_with fail
    have el2:=Lib.runeCells_le (y:Int);have el3:=Lib.runeCells_length (y:Int);exact⟨⟨f,r,acc++Lib.encodeRune (y:Int),pa,ca,by rw[Yeg,el3],by omega,by rw[Yeg];omega,by omega,by rw[Yeg,<- el3];exact R5.out.1,R5.out.2.2,R5.out.2.1,EQ.out⟩,by rw[hM5,hM];omega⟩
  have g4:((c:Int)==92)=false:=by rw[Ye4];omega
  have T:=Zaa (S3.out h34 hno h92);have hsx:(t.extract q t.size).size≠0:=by rw[Yeh];omega
  have wg:=Z7s hsx;have wl:=Z7t hsx;have rl:=Z9y (t.extract q t.size);rw[Yeh,Nat.min_self]at wl;have CU:=Zaa (fun u (h1:Zao a u)=>Z7a h1 (t.extract q t.size));clear S2 S3 hin hsx;generalize (Lib.decodeGo (t.extract q t.size)).1=y at*;generalize (Lib.decodeGo (t.extract q t.size)).2=n at*;go_wp2
  go_region_with (go_at_call 170;refine(CU.out _ (by first | exact ZD.out | exact ZD.out.drew)).mono ?_;rintro e w4 ⟨rfl,hb4⟩)
  all_goals
   have HR4:=Zaa (HR3.out.drew.of hb4);have HK4:=Zaa (HK3.out.drew.ofBelow hb4);have ZE:=Zaa (ZD.out.drew.below hb4);have HO4:=Zaa (Zmh (w':=w4) HO3.out fun j _ hj=>hb4.block j hj);clear hb4 HR3 HK3 ZD HO3 CU d0 d1 sf3;by_cases hbad:y=65533/\n=1
   ·have Y:Box (Zus t x p= .error (1,x.at_)):=⟨by unfold Zus;rw[<- HE.out,T.out.1 hbad]⟩;obtain⟨rfl,rfl⟩:=hbad;have z1:=ZE.out.c1;go_wp2_with fail
    refine(C1.out _ HR4.out).mono ?_;rintro e w5 ⟨⟨L,hL,rfl,hB⟩,hb⟩;exact⟨rfl,HK4.out.ofBelow hb,Or.inl ⟨1,_,Y.out,by decide,L,Ydc HK4.out.size hL,rfl,hB⟩⟩
   have EQ:Box (Zm6 t x f (q+n) (acc++Lib.encodeRune (y:Int))=Zm6 t x (t.size+1) (p+1) []):=⟨(T.out.2 hbad).symm.trans HE.out⟩;have AP:=Zaa (Zjk w.heap.size (.slice pp acc.length cc) acc.length (Lib.byteCells acc) (y:Int) (by omega) (by omega) w4 HO4.out (by omega) HK4.out.size);have GG:((y:Int)==65533)=false\/((y:Int)==65533)=true/\((n:Int)==1)=false:=by
    by_cases h1:y=65533
    ·right
     exact⟨by rw[Yfb];omega,by rw[Ye4];omega⟩
    ·left
     rw[Ye4];omega
   clear T HE C1 ZE hbad;rcases GG with ga | ⟨ga,gb⟩;all_goals
    go_wp2_with fail
    refine AP.out.mono ?_;rintro e w5 ⟨v',rfl,ho5,o5,hg5⟩;have hk5:=Z34 HO4.out hg5 lr HK4.out;have hr5:Rd w5 b t q x:=⟨HR4.out.1.of (Zyw HO4.out hg5 hblt HR4.out.1.lt),HR4.out.2⟩;rw[<- Lib.byteCells_encodeRune,<- Lib.byteCells_append,Lib.byteCells_encodeRune]at ho5;obtain⟨pa,ca,rfl⟩:=Zfo ho5;have R5:=Zaa (Yda ho5 (Yda hk5 hr5));have hM5:=Zeb (hr5.goes (q:=q+n) (by omega));obtain⟨d0,d1,-,-,-,-,-,-,sf3⟩:=hr5.1.eight;clear ho5 hk5 hr5 hg5 AP;go_wp2_with fail
    have el2:=Lib.runeCells_le (y:Int);have el3:=Lib.runeCells_length (y:Int);refine⟨⟨f,q+n,acc++Lib.encodeRune (y:Int),pa,ca,by rw[Yeg,el3],by omega,by rw[Yeg];omega,by omega,by rw[Yeg,<- el3];exact Zmh R5.out.1 fun j hj _=>Ydg w5 _ _ j (by show j≠b;omega),R5.out.2.2.goes (by omega),R5.out.2.1.set _ _,EQ.out⟩,?_⟩;rw[hM];simp at hM5⊢;rw[hM5];omega
end Go.P
namespace Go.W
variable {t:ByteArray}{x y:Tk}{p:Nat}{n q k:Int}
def Zga (q:Nat):Tk:=⟨q,⟨#[]⟩,0,0,⟨#[]⟩⟩
def Z15 (t:ByteArray) (_q k:Int) (x:Tk) (p:Nat):Except (Int×Nat) (Unit×Tk×Nat):=match Zyd t x p with
 | .error e=> .error e
 | .ok (n,_,r)=> .ok ((),{x with k:=k,i:=n},r)
def Ziz (t:ByteArray) (c q:Nat):Except (Int×Nat) (Unit×Tk×Nat):=
 if Zcr c=true then Zsx t (Zga q) q else if c=36 then Zfb t (Zga q) q else if c=34 then Zus t (Zga q) q
 else if c=64 then Z15 t q 5 (Zga q) (q+1)else if c=45\/Za1 c=true then Z15 t q 2 (Zga q) q else Zse t (Zga q) q
def Zh3 (t:ByteArray) (p:Nat):Except (Int×Nat) (Unit×Tk×Nat):=
 if Zhc (Zac t) p=t.size then .ok ((),Zga t.size,t.size)else Ziz t ((Zac t).getD (Zhc (Zac t) p) 0) (Zhc (Zac t) p)
def Zdc (t:ByteArray) (x:Tk) (p:Nat):Except (Int×Nat) (Tk×Tk×Nat):=match Zh3 t p with
 | .error e=> .error e
 | .ok (_,x',q)=> .ok (x,x',q)
theorem Z74 {q:Nat}(h:Zyd t x p= .ok (n,y,q)):y=x:=by
 unfold Zyd at h;dsimp only at h;generalize (if(Zac t).getD p 0=45 then p+1 else p)=p1 at h;split at h
 ·cases h
 ·split at h
  ·cases h;rfl
  ·cases h
theorem Zq3 {e:Int×Nat}(h:Zyd t x p= .error e):Z15 t q k x p= .error e:=by unfold Z15;rw[h]
theorem Z32 {r:Nat}(h:Zyd t x p= .ok (n,y,r)):Z15 t q k x p= .ok ((),{x with k:=k,i:=n},r):=by unfold Z15;rw[h]
end Go.W
namespace Go.P
variable {w w0:World}{b p L:Nat}{t:ByteArray}{x:Tk}{a:Nat->Addr}{x0 x1 x2 x3 x4 x5:Value}
theorem Rd.anew (h:Rd w b t p x){q:Nat}:Rd ((((((w.setCell ⟨b,2,none⟩ (.int .i64 (q:Int))).setCell ⟨b,3,none⟩ (.string ⟨#[]⟩)).setCell ⟨b,4,none⟩ (.int .i64 0)).setCell ⟨b,5,none⟩ (.int .i64 0)).setCell ⟨b,6,none⟩ (.string ⟨#[]⟩)).setCell ⟨b,7,none⟩ (.slice none 0 0)) b t p (Zga q):=⟨(((((h.1.set 2 _).set 3 _).set 4 _).set 5 _).set 6 _).set 7 _,h.2⟩
theorem _root_.Go.W.Zah.anew {v2 v3 v4 v5 v6 v7:Value}(h:Zah b w0 w):Zah b w0 ((((((w.setCell ⟨b,2,none⟩ v2).setCell ⟨b,3,none⟩ v3).setCell ⟨b,4,none⟩ v4).setCell ⟨b,5,none⟩ v5).setCell ⟨b,6,none⟩ v6).setCell ⟨b,7,none⟩ v7):=(((((h.set _ _).set _ _).set _ _).set _ _).set _ _).set _ _
theorem Zsl (Z:Zao a w)(h:Rd w b t p x):
  Calls prog 78 #[.pointer (some ⟨b,0,none⟩)] w (Ze6 a b t VU w (Zh3 t p)):=by
 have ht:=h.2.1;have hg:=h.2.2.2;have CS:=Zaa (Z7d h);have ZZ:=Zaa Z;have F:Box (Zh3 t p=if Zhc (Zac t) p=t.size then .ok ((),Zga t.size,t.size)else Ziz t ((Zac t).getD (Zhc (Zac t) p) 0) (Zhc (Zac t) p)):=⟨rfl⟩;clear h Z;generalize Zhc (Zac t) p=q at*;go_in
 go_wp2_with fail
 refine CS.out.mono ?_;rintro e w1 ⟨rfl,hk,hr⟩;have HK:=Zaa hk;have HR:=Zaa hr;have ZA:=Zaa (ZZ.out.keeps hk hg);have hq:=hr.2.2.1;obtain⟨c0,c1,c2,c3,c4,c5,c6,c7,sf⟩:=hr.1.eight;clear hk hr CS ZZ;obtain⟨w2,hw2⟩: ∃ w2,((((((w1.setCell ⟨b,2,none⟩ (.int .i64 (q:Int))).setCell ⟨b,3,none⟩ (.string ⟨#[]⟩)).setCell ⟨b,4,none⟩ (.int .i64 0)).setCell ⟨b,5,none⟩ (.int .i64 0)).setCell ⟨b,6,none⟩ (.string ⟨#[]⟩)).setCell ⟨b,7,none⟩ (.slice none 0 0))=w2:=⟨_,rfl⟩;have HR2:Box (Rd w2 b t q (Zga q)):=⟨hw2▸HR.out.anew⟩;have HK2:Box (Zah b w w2):=⟨hw2▸HK.out.anew⟩;have Z2:Box (Zao a w2):=⟨hw2▸ZA.out.keeps (Zah.refl b w1).anew hg⟩;go_wp2_with fail
 clear hw2 c0 c1 c2 c3 c4 c5 c6 c7 sf HR HK ZA;obtain⟨c0,c1,c2,c3,c4,c5,c6,c7,sf⟩:=HR2.out.1.eight;by_cases hqe:q=t.size
 ·have Y:Box (Zh3 t p= .ok ((),Zga q,q)):=⟨by rw[F.out,if_pos hqe,hqe]⟩;have g1:((q:Int)==(t.size:Int))=true:=by rw[Yfb];omega
  clear hqe;go_quiet (fail)
  go_wp2
  refine Ye6 (by simp[results,results78,go_sem];try rfl) rfl ?_;exact⟨HK2.out.dr _,Or.inr ⟨_,_,_,_,Y.out,rfl,rfl,HR2.out⟩⟩
 have Y:=Zaa (F.out.trans (if_neg hqe));have g1:((q:Int)==(t.size:Int))=false:=by rw[Ye4];omega
 have hql:q < t.size:=by omega
 have hx:=Zhm t q hql;have C0:=Zaa (Zj2 ((Zac t).getD q 0));have C1:=Zaa (Zj1 ((Zac t).getD q 0));generalize (Zac t).getD q 0=c at*;clear F;go_quiet (fail)
 obtain⟨w5,hw5⟩: ∃ w3,w2.drewN nq=w3:=⟨_,rfl⟩;rw[hw5];have HR5:Box (Rd w5 b t q (Zga q)):=⟨hw5▸HR2.out.dr _⟩;have HK5:Box (Zah b w w5):=⟨hw5▸HK2.out.dr _⟩;have Z5:Box (Zao a w5):=⟨hw5▸Z2.out.below (Zb6 (Ydb _ _))⟩;clear hw5 HR2 HK2 Z2 c0 c1 c2 c3 c4 c5 c6 c7 sf;obtain⟨c0,c1,c2,c3,c4,c5,c6,c7,sf⟩:=HR5.out.1.eight;go_wp2
 go_quiet (fail)
 obtain⟨w3,hw3⟩: ∃ w3,w5.drewN nq=w3:=⟨_,rfl⟩;rw[hw3];have HR3:Box (Rd w3 b t q (Zga q)):=⟨hw3▸HR5.out.dr _⟩;have HK3:Box (Zah b w w3):=⟨hw3▸HK5.out.dr _⟩;have Z3:Box (Zao a w3):=⟨hw3▸Z5.out.below (Zb6 (Ydb _ _))⟩;clear hw3 HR5 HK5 Z5 c0 c1 c2 c3 c4 c5 c6 c7 sf;obtain⟨c0,c1,c2,c3,c4,c5,c6,c7,sf⟩:=HR3.out.1.eight;cases hs:Zcr c
 case' true=>
  rw[hs]at C0;have E:Box (Zh3 t p=Zsx t (Zga q) q):=⟨by rw[Y.out];unfold Ziz;rw[if_pos hs]⟩;go_wp2_with (first | (go_at_call 123;refine(C0.out _).mono ?_;rintro e w' ⟨rfl,rfl⟩) | (go_at_call 127;refine(C1.out _).mono ?_;rintro e w' ⟨rfl,rfl⟩))
  refine(Zuy Zsj Z3.out HR3.out).mono ?_;rintro e w4 ⟨hk4,⟨n,r,hy,hn,L,hL,rfl,hB⟩ | ⟨v,y,x2,r,hy,rfl,hv,hr4⟩⟩
  ·exact⟨rfl,HK3.out.trans hk4,Or.inl ⟨n,r,E.out.trans hy,hn,L,Ydc HK3.out.size hL,rfl,hB⟩⟩
  ·obtain rfl:v= .tuple #[]:=hv;have R:=Zaa (Yda (HK3.out.trans hk4) (Yda (E.out.trans hy) hr4));clear hk4 hy hr4;go_wp2_with fail
   exact⟨rfl,_,(by simp[results,results78,go_sem];try rfl),R.out.1,Or.inr ⟨_,_,_,_,R.out.2.1,rfl,rfl,R.out.2.2⟩⟩
 rw[hs]at C0;by_cases h36:c=36
 ·have E:Box (Zh3 t p=Zfb t (Zga q) q):=⟨by rw[Y.out];unfold Ziz;rw[if_neg (by rw[hs];simp),if_pos h36]⟩;have g2:((c:Int)==36)=true:=by rw[Yfb];omega
  clear h36;go_wp2_with (first | (go_at_call 123;refine(C0.out _).mono ?_;rintro e w' ⟨rfl,rfl⟩) | (go_at_call 127;refine(C1.out _).mono ?_;rintro e w' ⟨rfl,rfl⟩))
  refine(Zm0 Z3.out HR3.out hql).mono ?_;rintro e w4 ⟨hk4,⟨n,r,hy,hn,L,hL,rfl,hB⟩ | ⟨v,y,x2,r,hy,rfl,hv,hr4⟩⟩
  ·exact⟨rfl,HK3.out.trans hk4,Or.inl ⟨n,r,E.out.trans hy,hn,L,Ydc HK3.out.size hL,rfl,hB⟩⟩
  ·obtain rfl:v= .tuple #[]:=hv;have R:=Zaa (Yda (HK3.out.trans hk4) (Yda (E.out.trans hy) hr4));clear hk4 hy hr4;go_wp2_with fail
   exact⟨rfl,_,(by simp[results,results78,go_sem];try rfl),R.out.1,Or.inr ⟨_,_,_,_,R.out.2.1,rfl,rfl,R.out.2.2⟩⟩
 have g2:((c:Int)==36)=false:=by rw[Ye4];omega
 by_cases h34:c=34
 ·have E:Box (Zh3 t p=Zus t (Zga q) q):=⟨by rw[Y.out];unfold Ziz;rw[if_neg (by rw[hs];simp),if_neg h36,if_pos h34]⟩;have g3:((c:Int)==34)=true:=by rw[Yfb];omega
  clear h34;go_wp2_with (first | (go_at_call 123;refine(C0.out _).mono ?_;rintro e w' ⟨rfl,rfl⟩) | (go_at_call 127;refine(C1.out _).mono ?_;rintro e w' ⟨rfl,rfl⟩))
  refine(Zp3 Z3.out HR3.out hql).mono ?_;rintro e w4 ⟨hk4,⟨n,r,hy,hn,L,hL,rfl,hB⟩ | ⟨v,y,x2,r,hy,rfl,hv,hr4⟩⟩
  ·exact⟨rfl,HK3.out.trans hk4,Or.inl ⟨n,r,E.out.trans hy,hn,L,Ydc HK3.out.size hL,rfl,hB⟩⟩
  ·obtain rfl:v= .tuple #[]:=hv;have R:=Zaa (Yda (HK3.out.trans hk4) (Yda (E.out.trans hy) hr4));clear hk4 hy hr4;go_wp2_with fail
   exact⟨rfl,_,(by simp[results,results78,go_sem];try rfl),R.out.1,Or.inr ⟨_,_,_,_,R.out.2.1,rfl,rfl,R.out.2.2⟩⟩
 have g3:((c:Int)==34)=false:=by rw[Ye4];omega
 by_cases h64:c=64
 ·have E:Box (Zh3 t p=Z15 t q 5 (Zga q) (q+1)):=⟨by rw[Y.out];unfold Ziz;rw[if_neg (by rw[hs];simp),if_neg h36,if_neg h34,if_pos h64]⟩;have g4:((c:Int)==64)=true:=by rw[Yfb];omega
  clear h64;go_wp2_with (first | (go_at_call 123;refine(C0.out _).mono ?_;rintro e w' ⟨rfl,rfl⟩) | (go_at_call 127;refine(C1.out _).mono ?_;rintro e w' ⟨rfl,rfl⟩))
  refine(Zoo (Z3.out.keeps ((Zah.refl b _).set _ _) hg) (HR3.out.next hql)).mono ?_;rintro e w4 ⟨hk4,⟨n,r,hy,hn,L,hL,rfl,hB⟩ | ⟨v,y,x2,r,hy,rfl,hv,hr4⟩⟩
  ·exact⟨rfl,(HK3.out.set _ _).trans hk4,Or.inl ⟨n,r,E.out.trans (Zq3 hy),hn,L,(by have:=HK3.out.size;first | omega | (simp at hL;omega)),rfl,hB⟩⟩
  ·obtain rfl:v= .int .i64 y:=hv;obtain rfl:=Z74 hy;have R:=Zaa (Yda ((HK3.out.set 1 (.int .i64 ((q:Int)+1))).trans hk4) (Yda (E.out.trans (Z32 hy)) hr4));obtain⟨d0,d1,d2,d3,d4,d5,d6,d7,sf4⟩:=hr4.1.eight;clear hk4 hy hr4 c0 c1 c2 c3 c4 c5 c6 c7 sf;go_wp2_with fail
   exact⟨rfl,_,(by simp[results,results78,go_sem];try rfl),R.out.1.term,Or.inr ⟨_,_,_,_,R.out.2.1,rfl,rfl,R.out.2.2.term 5 y ⟨#[]⟩⟩⟩
 have g4:((c:Int)==64)=false:=by rw[Ye4];omega
 by_cases hnum:c=45\/Za1 c=true
 ·have E:Box (Zh3 t p=Z15 t q 2 (Zga q) q):=⟨by rw[Y.out];unfold Ziz;rw[if_neg (by rw[hs];simp),if_neg h36,if_neg h34,if_neg h64,if_pos hnum]⟩;have GG:((c:Int)==45)=true\/((c:Int)==45)=false/\Za1 c=true:=by
   by_cases h45:c=45
   ·exact Or.inl (by rw[Yfb];omega)
   ·exact Or.inr ⟨by rw[Ye4];omega,hnum.resolve_left h45⟩
  clear hnum;rcases GG with ga | ⟨ga,gb⟩
  case' inr=>rw[gb]at C1
  all_goals
   go_wp2_with (first | (go_at_call 123;refine(C0.out _).mono ?_;rintro e w' ⟨rfl,rfl⟩) | (go_at_call 127;refine(C1.out _).mono ?_;rintro e w' ⟨rfl,rfl⟩))
   refine(Zoo Z3.out HR3.out).mono ?_;rintro e w4 ⟨hk4,⟨n,r,hy,hn,L,hL,rfl,hB⟩ | ⟨v,y,x2,r,hy,rfl,hv,hr4⟩⟩
   ·exact⟨rfl,HK3.out.trans hk4,Or.inl ⟨n,r,E.out.trans (Zq3 hy),hn,L,(by have:=HK3.out.size;first | omega | (simp at hL;omega)),rfl,hB⟩⟩
   ·obtain rfl:v= .int .i64 y:=hv;obtain rfl:=Z74 hy;have R:=Zaa (Yda (HK3.out.trans hk4) (Yda (E.out.trans (Z32 hy)) hr4));obtain⟨d0,d1,d2,d3,d4,d5,d6,d7,sf4⟩:=hr4.1.eight;clear hk4 hy hr4 c0 c1 c2 c3 c4 c5 c6 c7 sf;go_wp2_with fail
    exact⟨rfl,_,(by simp[results,results78,go_sem];try rfl),R.out.1.term,Or.inr ⟨_,_,_,_,R.out.2.1,rfl,rfl,R.out.2.2.term 2 y ⟨#[]⟩⟩⟩
 have E:Box (Zh3 t p=Zse t (Zga q) q):=⟨by rw[Y.out];unfold Ziz;rw[if_neg (by rw[hs];simp),if_neg h36,if_neg h34,if_neg h64,if_neg hnum]⟩;have g5:((c:Int)==45)=false:=by rw[Ye4];omega
 have hd:Za1 c=false:=by
  cases hdd:Za1 c
  ·rfl
  ·exact absurd (Or.inr hdd) hnum
 rw[hd]at C1;go_wp2_with (first | (go_at_call 123;refine(C0.out _).mono ?_;rintro e w' ⟨rfl,rfl⟩) | (go_at_call 127;refine(C1.out _).mono ?_;rintro e w' ⟨rfl,rfl⟩))
 refine(Zux Z3.out HR3.out).mono ?_;rintro e w4 ⟨hk4,⟨n,r,hy,hn,L,hL,rfl,hB⟩ | ⟨v,y,x2,r,hy,rfl,hv,hr4⟩⟩
 ·exact⟨rfl,HK3.out.trans hk4,Or.inl ⟨n,r,E.out.trans hy,hn,L,Ydc HK3.out.size hL,rfl,hB⟩⟩
 ·obtain rfl:v= .tuple #[]:=hv;have R:=Zaa (Yda (HK3.out.trans hk4) (Yda (E.out.trans hy) hr4));clear hk4 hy hr4;go_wp2_with fail
  exact⟨rfl,_,(by simp[results,results78,go_sem];try rfl),R.out.1,Or.inr ⟨_,_,_,_,R.out.2.1,rfl,rfl,R.out.2.2⟩⟩
theorem _root_.Go.W.Blk.six {e:TypeId}{a b c d f g:Value}(h:Blk w L #[a,b,c,d,f,g] e):w.cell? ⟨L,0,none⟩=some a/\w.cell? ⟨L,1,none⟩=some b/\w.cell? ⟨L,2,none⟩=some c/\w.cell? ⟨L,3,none⟩=some d/\w.cell? ⟨L,4,none⟩=some f/\w.cell? ⟨L,5,none⟩=some g/\ ∀ j,w.frozen? ⟨L,j,none⟩=false:=⟨h.cell 0,h.cell 1,h.cell 2,h.cell 3,h.cell 4,h.cell 5,h.soft⟩
theorem _root_.Go.W.Zah.r6 (h:Zah b w0 w)(hL:w0.heap.size<=L):Zah b w0 ((((((w.setCell ⟨L,0,none⟩ x0).setCell ⟨L,1,none⟩ x1).setCell ⟨L,2,none⟩ x2).setCell ⟨L,3,none⟩ x3).setCell ⟨L,4,none⟩ x4).setCell ⟨L,5,none⟩ x5):=((h.r4 hL).setNew _ _ _ hL).setNew _ _ _ hL
theorem Rd.r6 (h:Rd w b t p x)(hL:b≠L):Rd ((((((w.setCell ⟨L,0,none⟩ x0).setCell ⟨L,1,none⟩ x1).setCell ⟨L,2,none⟩ x2).setCell ⟨L,3,none⟩ x3).setCell ⟨L,4,none⟩ x4).setCell ⟨L,5,none⟩ x5) b t p x:=⟨(((((h.1.away _ _ hL _).away _ _ hL _).away _ _ hL _).away _ _ hL _).away _ _ hL _).away _ _ hL _,h.2⟩
def Zm2 (x:Tk):Value:= .agg #[.int .i64 (x.at_:Int),.string x.text,.int .i64 x.k,.int .i64 x.i,.string x.s,.slice none 0 0]
theorem Zc8 (Z:Zao a w)(h:Rd w b t p x):
  Calls prog 85 #[.pointer (some ⟨b,0,none⟩)] w (Ze6 a b t (fun _ v y=>v=Zm2 y) w (Zdc t x p)):=by
 have hg:=h.2.2.2;have hblt:=h.1.lt;have HR0:=Zaa (h.alloc (.cells #[.int .i64 0,.string ⟨#[]⟩,.int .i64 0,.int .i64 0,.string ⟨#[]⟩,.slice none 0 0] 179));have Z0:=Zaa (Z.below ((Ydb _ w).alloc lr (.cells #[.int .i64 0,.string ⟨#[]⟩,.int .i64 0,.int .i64 0,.string ⟨#[]⟩,.slice none 0 0] 179)));have K0:=Zaa ((Zah.refl b w).alloc (.cells #[.int .i64 0,.string ⟨#[]⟩,.int .i64 0,.int .i64 0,.string ⟨#[]⟩,.slice none 0 0] 179));have L0:=Zaa (Blk.new w #[.int .i64 0,.string ⟨#[]⟩,.int .i64 0,.int .i64 0,.string ⟨#[]⟩,.slice none 0 0] 179);obtain⟨c0,c1,c2,c3,c4,c5,c6,c7,sf⟩:=HR0.out.1.eight;have HR1:=Zaa (HR0.out.alloc (.cells #[.int .i64 (x.at_:Int),.string x.text,.int .i64 x.k,.int .i64 x.i,.string x.s,.slice none 0 0] 179));have Z1:=Zaa (Z0.out.below ((Ydb _ _).alloc lr (.cells #[.int .i64 (x.at_:Int),.string x.text,.int .i64 x.k,.int .i64 x.i,.string x.s,.slice none 0 0] 179)));have K1:=Zaa (K0.out.alloc (.cells #[.int .i64 (x.at_:Int),.string x.text,.int .i64 x.k,.int .i64 x.i,.string x.s,.slice none 0 0] 179));have L1:=Zaa (Blk.new (w.alloc (.cells #[.int .i64 0,.string ⟨#[]⟩,.int .i64 0,.int .i64 0,.string ⟨#[]⟩,.slice none 0 0] 179)) #[.int .i64 (x.at_:Int),.string x.text,.int .i64 x.k,.int .i64 x.i,.string x.s,.slice none 0 0] 179);have L2:=Zaa (L0.out.alloc (.cells #[.int .i64 (x.at_:Int),.string x.text,.int .i64 x.k,.int .i64 x.i,.string x.s,.slice none 0 0] 179));have CR:=Zaa (Zsl Z1.out HR1.out);clear Z h HR0 Z0 K0 L0;go_in
 go_wp2_with fail
 refine CR.out.mono ?_;rintro e w1 ⟨hk4,⟨n,r,hy,hn,L,hL,rfl,hB⟩ | ⟨v,y,x2,r,hy,rfl,hv,hr4⟩⟩
 ·exact⟨rfl,K1.out.trans hk4,Or.inl ⟨n,r,by unfold Zdc;rw[hy],hn,L,by simp at hL;omega,rfl,hB⟩⟩
 ·obtain rfl:v= .tuple #[]:=hv;have M1:=L1.out.of (hk4.block _ (by simp) (by simp;omega));have M2:=L2.out.of (hk4.block _ (by simp;omega) (by omega));simp only[Ydm]at M1;have Y:Box (Zdc t x p= .ok (x,x2,r)):=⟨by unfold Zdc;rw[hy]⟩;have R:=Zaa (Yda (K1.out.trans hk4) hr4);obtain⟨d0,d1,d2,d3,d4,d5,sd⟩:=M1.six;obtain⟨f0,f1,f2,f3,f4,f5,sg⟩:=M2.six;clear hk4 hy hr4 c0 c1 c2 c3 c4 c5 c6 c7 sf HR1 Z1 K1 L1 L2 CR M1 M2;go_wp2
  refine Ye6 (by simp[results,results85,go_sem,f0,f1,f2,f3,f4,f5];try rfl) rfl ?_;exact⟨R.out.1.r6 lr,Or.inr ⟨_,x,_,_,Y.out,rfl,rfl,R.out.2.r6 (by omega)⟩⟩
end Go.P
namespace Go.W
abbrev Re (α:Type):=Except (Int×Nat) (α×Tk×Nat)
def Zbg {α β:Type} (m:Re α) (f:α->Tk->Nat->Re β):Re β:=match m with
 | .error e=> .error e
 | .ok (y,x,p)=>f y x p
theorem Zai {α β:Type}{m:Re α}{e:Int×Nat}(h:m= .error e){f:α->Tk->Nat->Re β}:Zbg m f= .error e:=by rw[h];rfl
theorem Zas {α β:Type}{m:Re α}{y:α}{x:Tk}{p:Nat}(h:m= .ok (y,x,p)){f:α->Tk->Nat->Re β}:Zbg m f=f y x p:=by rw[h];rfl
def Zh5 (t:ByteArray) (s:List UInt8) (x:Tk) (p:Nat):Re Unit:=if x.text.toList=s then Zbg (Zdc t x p) fun _ x' p'=> .ok ((),x',p')else .error (2,x.at_)
def Zor {α:Type} (t:ByteArray) (read:Tk->Nat->Re α) (s:List UInt8) (most:Nat):Nat->List α->Tk->Nat->Re (List α)
 | 0,_,x,_=> .error (4,x.at_)
 | n+1,xs,x,p=>Zbg (read x p) fun y x1 p1=>if xs.length=most then .error (4,x.at_)else if x1.text.toList=s then Zbg (Zdc t x1 p1) fun _ x2 p2=>Zor t read s most n (xs++[y]) x2 p2 else .ok (xs++[y],x1,p1)
def Zh1 (t:ByteArray) (read:Tk->Nat->Re T) (s:List UInt8) (x:Tk) (p:Nat):Re (List T):=Zbg (if x.text.toList=s then .ok ([],x,p)else Zor t read [44] 6 7 [] x p) fun l x1 p1=>Zbg (Zh5 t s x1 p1) fun _ x2 p2=> .ok (l,x2,p2)
def Zu7:List UInt8:=[116,114,117,101]
def Zet (t:ByteArray):Nat->Tk->Nat->Re T
 | 0,x,p=>if Zjy x.text=true then Zbg (Zdc t x p) fun _ x1 p1=> .ok (.mk 6 (if x.text.toList=Zu7 then 1 else 0) ⟨#[]⟩ [],x1,p1)else if x.text.toList=[91]then .error (3,x.at_)else if x.k=0\/x.k=1 then .error (2,x.at_)else Zbg (Zdc t x p) fun _ x1 p1=> .ok (.mk x.k x.i x.s [],x1,p1)
 | d+1,x,p=>if Zjy x.text=true then Zbg (Zdc t x p) fun _ x1 p1=> .ok (.mk 6 (if x.text.toList=Zu7 then 1 else 0) ⟨#[]⟩ [],x1,p1)else if x.text.toList=[91]then Zbg (Zdc t x p) fun _ x1 p1=>Zbg (Zh1 t (Zet t d) [93] x1 p1) fun l x2 p2=> .ok (.mk 7 0 ⟨#[]⟩ l,x2,p2)else if x.k=0\/x.k=1/\d+1 < 3 then .error (2,x.at_)else Zbg (Zdc t x p) fun _ x1 p1=> .ok (.mk x.k x.i x.s [],x1,p1)
def Zi1 (s:ByteArray):Bool:=decide (s.size≠0) && Zcr ((Zac s).getD 0 0)
def Zpm (t:ByteArray) (x:Tk) (p:Nat):Re A:=if Zi1 x.text=true/\Z0s x.text=false then Zbg (Zdc t x p) fun _ x1 p1=>Zbg (Zh5 t [40] x1 p1) fun _ x2 p2=>Zbg (Zh1 t (Zet t 3) [41] x2 p2) fun l x3 p3=> .ok (⟨x.text,l⟩,x3,p3)else .error (2,x.at_)
def opW (s:ByteArray):Nat:=match Zbv.findIdx? (fun m=>decide (m=s))with
 | some i=>i+1
 | none=>0
def Zt6 (t:ByteArray) (x:Tk) (p:Nat):Re G:=Zbg (Zet t 3 x p) fun a x1 p1=>if opW x1.text=0 then .error (2,x1.at_)else Zbg (Zdc t x1 p1) fun _ x2 p2=>Zbg (Zet t 3 x2 p2) fun b x3 p3=> .ok (⟨opW x1.text,a,b⟩,x3,p3)
def Zww (t:ByteArray) (r:R) (x:Tk) (p:Nat):Re R:=if Zi1 x.text=true/\Zjy x.text=false then Zbg (Zpm t x p) fun a x1 p1=>if r.body.length=4 then .error (4,x.at_)else .ok ({r with body:=r.body++[a]},x1,p1)else Zbg (Zt6 t x p) fun g x1 p1=>if r.guards.length=4 then .error (4,x.at_)else .ok ({r with guards:=r.guards++[g]},x1,p1)
def Zfk (t:ByteArray):Nat->R->Tk->Nat->Re R
 | 0,_,x,_=> .error (4,x.at_)
 | n+1,r,x,p=>Zbg (Zww t r x p) fun r1 x1 p1=>if x1.text.toList=[44]then Zbg (Zdc t x1 p1) fun _ x2 p2=>Zfk t n r1 x2 p2 else .ok (r1,x1,p1)
def Zvs:R:=⟨⟨⟨#[]⟩,[]⟩,[],[]⟩
def Znk (t:ByteArray) (x:Tk) (p:Nat):Re R:=Zbg (Zfk t 9 Zvs x p) fun r x1 p1=>if r.guards.all (fun g=>Zc4 [g.a,g.b] r.body)=true then .ok (r,x1,p1)else .error (5,x.at_)
def Zjx (t:ByteArray) (x:Tk) (p:Nat):Re (List R):=Zbg (Zh5 t [105,102] x p) fun _ x1 p1=>Zor t (Znk t) [111,114] 4 5 [] x1 p1
def Znq (t:ByteArray) (b:Bk) (x:Tk) (p:Nat):Re Bk:=Zbg (Zdc t x p) fun _ x1 p1=>Zbg (Zjx t x1 p1) fun l x2 p2=>if b.checks.length=24 then .error (4,x.at_)else .ok ({b with checks:=b.checks++[l]},x2,p2)
def Zcg (t:ByteArray) (b:Bk) (x:Tk) (p:Nat):Re Bk:=Zbg (Zpm t x p) fun h x1 p1=>if x1.text.toList=[60,45]then Zbg (Zdc t x1 p1) fun _ x2 p2=>Zbg (Znk t x2 p2) fun r x3 p3=>if Zc4 h.terms r.body=false then .error (5,x.at_)else if b.rules.length=24 then .error (4,x.at_)else .ok ({b with rules:=b.rules++[{r with head:=h}]},x3,p3)else if Zc4 h.terms []=false then .error (5,x.at_)else if b.facts.length=24 then .error (4,x.at_)else .ok ({b with facts:=b.facts++[h]},x1,p1)
def Z73 (x:Tk):Bool:=decide (x.text.size=0) && decide (x.k=0)
def Zx1:List UInt8:=[99,104,101,99,107]
def Zfd (t:ByteArray):Nat->Bk->Tk->Nat->Re Bk
 | 0,_,x,_=> .error (4,x.at_)
 | n+1,b,x,p=>if Z73 x=true then .ok (b,x,p)else Zbg (if x.text.toList=Zx1 then Znq t b x p else Zcg t b x p) fun b1 x1 p1=>Zbg (Zh5 t [59] x1 p1) fun _ x2 p2=>Zfd t n b1 x2 p2
def Ze7 (t:ByteArray) (x:Tk) (p:Nat):Re Bk:=Zfd t 73 ⟨[],[],[]⟩ x p
def Zid:List UInt8:=[97,108,108,111,119]
def Z52:List UInt8:=[100,101,110,121]
def Zcz (t:ByteArray):Nat->List Pol->Tk->Nat->Re (List Pol)
 | 0,_,x,_=> .error (4,x.at_)
 | n+1,l,x,p=>if Z73 x=true then .ok (l,x,p)else if x.text.toList=Zid\/x.text.toList=Z52 then Zbg (Zdc t x p) fun _ x1 p1=>Zbg (Zjx t x1 p1) fun e x2 p2=>if l.length=24 then .error (4,x.at_)else Zbg (Zh5 t [59] x2 p2) fun _ x3 p3=>Zcz t n (l++[⟨decide (x.text.toList=Zid),e⟩]) x3 p3 else .error (2,x.at_)
def Zdo (t:ByteArray) (x:Tk) (p:Nat):Re (List Pol):=Zcz t 25 [] x p
def Zcn {α:Type} (t:ByteArray) (read:Tk->Nat->Re α):Except (Int×Nat) α:=if 8000 < t.size then .error (4,8000)else match Zbg (Zh3 t 0) fun _ x p=>read x p with
 | .error e=> .error e
 | .ok (y,_,_)=> .ok y
end Go.W
namespace Go.W
variable {f n m d:Nat}{l r:By}{t:ByteArray}{x:T}{k:Int}{a:A}{b:List A}
def bl (s:ByteArray):By:=s.data.toList
theorem Zbq (a b:ByteArray):bl (a++b)=bl a++bl b:=by simp[bl]
theorem Zzo (n:Nat):bl (b1 n)=[UInt8.ofNat n]:=rfl
theorem Zpn (l:By):bl (ba l)=l:=by simp[bl,ba]
theorem Zjw (s:ByteArray):ba (bl s)=s:=by simp[bl,ba]
theorem Zcy (s:ByteArray):(bl s).length=s.size:=Yep
def Fwd {α:Type} (f:De α) (p:α->ByteArray) (x:α):Prop:= ∀ r,f (bl (p x)++r)= .ok (x,r)
def Bwd {α:Type} (f:De α) (p:α->ByteArray):Prop:= ∀ l x r,f l= .ok (x,r)->l=bl (p x)++r
theorem Zgi (n:Nat)(h:n < 256):(UInt8.ofNat n).toNat=n:=by simp;omega
theorem Zoh (c:UInt8):UInt8.ofNat c.toNat=c:=by simp
theorem Z30 (h:128<=n):Zq2 (f+1) n=b1 (n % 128+128)++Zq2 f (n / 128):=by rw[Zq2,if_pos h]
theorem Zwr (h:n < 128):Zq2 f n=b1 n:=by cases f with
 | zero=>rfl
 | succ f=>rw[Zq2,if_neg (by omega)]
theorem Z4y (n c m p:Nat):n+c*p+m*(p*128)=n+(c+128*m)*p:=by
 rw[Nat.add_mul,Nat.mul_comm p 128,<- Nat.mul_assoc,Nat.mul_comm m 128,Nat.add_assoc]
theorem Zyp: ∀ (g k n m:Nat) (r:By),k+g=9->m < 2*128 ^ g->(0 < k->0 < m)->Zuk k n (bl (Zq2 (g+1) m)++r)= .ok (n+m*128 ^ k,r)
 | 0,k,n,m,r,hk,hm,h0=>by
  have:m < 2:=by simpa using hm
  rw[Zwr (by omega),Zzo];show Zuk k n (UInt8.ofNat m::r)=_;rw[Zuk,Zgi m (by omega),if_neg (by omega),if_pos (by omega)]
 | g+1,k,n,m,r,hk,hm,h0=>by
  by_cases h:128<=m
  ·rw[Z30 h,Zbq,Zzo];show Zuk k n (UInt8.ofNat (m % 128+128)::(bl (Zq2 (g+1) (m / 128))++r))=_;rw[Zuk,Zgi _ (by omega),if_neg (by omega),if_neg (by omega),Zyp g (k+1) _ (m / 128) r (by omega) (by rw[Nat.pow_succ]at hm;omega) (fun _=>by omega),Nat.pow_succ,Z4y,Nat.add_sub_cancel,Nat.mod_add_div]
  ·rw[Zwr (by omega),Zzo];show Zuk k n (UInt8.ofNat m::r)=_;rw[Zuk,Zgi m (by omega),if_neg (by omega),if_pos (by omega)]
theorem Zyo: ∀ (l:By) (g k n v:Nat) (r:By),k+g=9->Zuk k n l= .ok (v,r)-> ∃ m,v=n+m*128 ^ k/\l=bl (Zq2 (g+1) m)++r/\(0 < k->0 < m)/\m < 2*128 ^ g
 | [],g,k,n,v,r,hk,h=>by cases h
 | c::l,g,k,n,v,r,hk,h=>by
  have hc:c.toNat < 256:=c.toNat_lt;rw[Zuk]at h;split at h
  ·cases h
  ·rename_i hn;split at h
   ·rename_i hlt;cases h;refine⟨c.toNat,rfl,?_,?_,?_⟩
    ·rw[Zwr hlt,Zzo,Zoh];rfl
    ·intro h;exact Nat.pos_of_ne_zero fun h'=>hn (Or.inr ⟨h,h'⟩)
    ·cases g with
     | zero=>have: ¬ 1 < c.toNat:=fun h'=>hn (Or.inl ⟨by omega,h'⟩);simp;omega
     | succ g=>have:=Nat.one_le_two_pow (n:=0);have:1<=128 ^ g:=Nat.one_le_pow _ _ (by omega);rw[Nat.pow_succ];omega
   ·rename_i hge;cases g with
    | zero=>exact absurd (Or.inl ⟨by omega,by omega⟩) hn
    | succ g=>
     obtain⟨m,rfl,rfl,h0,hb⟩:=Zyo l g (k+1) _ v r (by omega) h;have hm:=h0 (by omega);refine⟨(c.toNat - 128)+128*m,?_,?_,fun _=>by omega,by rw[Nat.pow_succ];omega⟩
     ·rw[Nat.pow_succ,Z4y]
     ·rw[Z30 (f:=g+1) (n:=c.toNat - 128+128*m) (by omega),Zbq,Zzo,show(c.toNat - 128+128*m) % 128+128=c.toNat by omega,show(c.toNat - 128+128*m) / 128=m by omega,Zoh];rfl
theorem Zf3 (h:n < 18446744073709551616):Fwd Zdv Zel n:=fun r=>by
 have:=Zyp 9 0 0 n r rfl (by simpa using h) (by omega)
 simpa[Zdv,Zel]using this
theorem Zf2 (l:By)(n:Nat)(r:By)(h:Zdv l= .ok (n,r)):l=bl (Zel n)++r/\n < 18446744073709551616:=by
 obtain⟨m,rfl,hl,_,hb⟩:=Zyo l 9 0 0 n r rfl h;simp only[Yd7,Nat.pow_zero,Nat.mul_one];exact⟨hl,by simpa using hb⟩
theorem Zk6 (l r:By):Zfp l.length (l++r)= .ok (l,r):=by
 unfold Zfp;rw[if_neg (by simp)];simp
theorem Zk5 {x:By}(h:Zfp n l= .ok (x,r)):l=x++r/\x.length=n:=by
 unfold Zfp at h;split at h
 ·cases h
 ·cases h;exact⟨by simp,by simp;omega⟩
theorem Zb8 {α β:Type}{f:De α}{g:α->De β}{y:β}(h:f.then g l= .ok (y,r)): ∃ x s,f l= .ok (x,s)/\g x s= .ok (y,r):=by
 unfold De.then at h;split at h
 ·cases h
 ·rename_i x s hf;exact⟨x,s,hf,h⟩
theorem Zdl {α β:Type}{f:De α}{g:α->β}{y:β}(h:f.map g l= .ok (y,r)): ∃ x,f l= .ok (x,r)/\g x=y:=by
 unfold De.map at h;split at h
 ·cases h
 ·rename_i x s hf;cases h;exact⟨x,hf,rfl⟩
theorem Zdi (h:n < 256):Fwd Zf9 b1 n:=fun r=>by
 show Zf9 (UInt8.ofNat n::r)=_;rw[Zf9,Zgi n h]
theorem Zg2 (h:Zf9 l= .ok (n,r)):l=bl (b1 n)++r/\n < 256:=by
 cases l with
 | nil=>cases h
 | cons c l=>cases h;exact⟨by rw[Zzo,Zoh];rfl,c.toNat_lt⟩
theorem Zo0 (h:t.size < 18446744073709551616):Fwd Zox Zb4 t:=fun r=>by
 unfold Zox Zb4;rw[Zbq,Ydq,De.map_ok (x:=bl t) (r:=r),Zjw];rw[De.then_ok (Zf3 h _),<- Zcy,Zk6]
theorem Zoz:Bwd Zox Zb4:=fun l x r h=>by
 obtain⟨b,h1,rfl⟩:=Zdl h;obtain⟨n,s,h2,h3⟩:=Zb8 h1;obtain⟨rfl,_⟩:=Zf2 _ _ _ h2;obtain⟨rfl,rfl⟩:=Zk5 h3;unfold Zb4;rw[Zbq,Zpn,Zcx,Ydq]
theorem Zy4 {α:Type}{f:De α}{p:α->ByteArray}: ∀ (xs:List α),(∀ x∈xs,Fwd f p x)-> ∀ r,Zh7 f xs.length (bl (cat p xs)++r)= .ok (xs,r)
 | [],_,r=>rfl
 | x::xs,h,r=>by
  show(f.then fun y=>(Zh7 f xs.length).map fun r=>y::r) _=_;rw[cat,Zbq,Ydq,De.then_ok (h x (by simp) _),De.map_ok (Zy4 xs (fun y hy=>h y (by simp[hy])) r)]
theorem Zy3 {α:Type}{f:De α}{p:α->ByteArray}(hf:Bwd f p): ∀ (n:Nat) (l:By) (xs:List α) (r:By),Zh7 f n l= .ok (xs,r)->xs.length=n/\l=bl (cat p xs)++r
 | 0,l,xs,r,h=>by cases h;exact⟨rfl,rfl⟩
 | n+1,l,xs,r,h=>by
  obtain⟨x,s,h1,h2⟩:=Zb8 h;obtain⟨ys,h3,rfl⟩:=Zdl h2;obtain⟨hl,rfl⟩:=Zy3 hf n s ys r h3;exact⟨by simp[hl],by rw[hf _ _ _ h1,cat,Zbq,Ydq]⟩
theorem Zek {α:Type}{f:De α}{p:α->ByteArray}{xs:List α}(h: ∀ x∈xs,Fwd f p x)(hl:xs.length<=m)(hm:m < 18446744073709551616):Fwd (Zbu m f) (Zaz p) xs:=fun r=>by
 unfold Zbu Zaz;rw[Zbq,Ydq,De.then_ok (Zf3 (by omega) _),if_neg (by omega),Zy4 xs h]
theorem Zej {α:Type}{f:De α}{p:α->ByteArray}(hf:Bwd f p)(m:Nat):Bwd (Zbu m f) (Zaz p):=fun l xs r h=>by
 obtain⟨n,s,h1,h2⟩:=Zb8 h;obtain⟨rfl,_⟩:=Zf2 _ _ _ h1;split at h2
 ·cases h2
 ·obtain⟨rfl,rfl⟩:=Zy3 hf _ _ _ _ h2;unfold Zaz;rw[Zbq,Ydq]
theorem Zhp {i:Int}(h:Zlg i):Zez (Zjg i)=i/\Zjg i < 18446744073709551616:=by
 obtain⟨h1,h2⟩:=h;unfold Zez Zjg;by_cases hi:i < 0
 ·rw[if_pos hi,if_neg (by omega)];omega
 ·rw[if_neg hi,if_pos (by omega)];omega
theorem Zo1 (n:Nat):Zjg (Zez n)=n:=by
 unfold Zez Zjg;by_cases hi:n % 2=0
 ·rw[if_pos hi,if_neg (by omega)];omega
 ·rw[if_neg hi,if_pos (by omega)];omega
def InT:Nat->T->Prop
 | 0,x=>Zlg x.i
 | d+1,x=>Zlg x.i/\ ∀ y∈x.l,InT d y
theorem InT.i (h:InT d x):Zlg x.i:=by cases d with
 | zero=>exact h
 | succ d=>exact h.1
theorem Zg3 {α:Type}{f:α->Int}: ∀ {l:List α},Za2 f l=0-> ∀ x∈l,f x=0
 | [],_,x,hx=>by cases hx
 | y::l,h,x,hx=>by
  unfold Za2 at h;split at h
  ·rename_i h';exact absurd h h'
  ·rename_i h';rcases List.mem_cons.mp hx with rfl | hx
   ·exact Decidable.not_not.mp h'
   ·exact Zg3 h x hx
theorem Zem {a b:Int}(h:(if a≠0 then a else b)=0):a=0/\b=0:=by
 split at h
 ·rename_i h';exact absurd h h'
 ·rename_i h';exact⟨Decidable.not_not.mp h',h⟩
theorem Zpd (h:Zau d x=0):Zyv d x.k x.i x.t x.l.length=0/\ ∀ y∈x.l,Zau (d+1) y=0:=by
 rw[Zlf]at h;exact⟨(Zem h).1,Zg3 (Zem h).2⟩
theorem Zyx {i:Int}(h:Zyv d k i t n=0):Zh2 k i t n=true/\ ¬ (k=1/\0 < d)/\t.size<=64/\n<=6/\ ¬ (k=7/\d=3):=by
 unfold Zyv at h;split at h
 ·cases h
 ·rename_i h1;split at h
  ·cases h
  ·rename_i h2;split at h
   ·cases h
   ·rename_i h3;exact⟨by cases hf:Zh2 k i t n with | true=>rfl | false=>exact absurd (Or.inl hf) h1,fun h'=>h1 (Or.inr h'),by omega,by omega,h3⟩
theorem Zqt {i:Int}(h:Zh2 k i t n=true):((k=1\/k=3\/k=4)/\i=0/\n=0)\/((k=2\/k=5)/\t.size=0/\n=0)\/(k=6/\t.size=0/\n=0/\(i=0\/i=1))\/(k=7/\i=0/\t.size=0):=by
 unfold Zh2 Zwd at h;split at h
 ·simp at h;simp[*]
 split at h
 ·simp at h;simp[*]
 split at h
 ·simp at h;simp[*]
 split at h
 ·simp at h;simp[*]
 split at h
 ·simp at h;simp[*]
 split at h
 ·simp at h;simp[*]
 ·cases h
theorem Zhb (h:t.size=0):t=ByteArray.empty:=by
 rcases t with⟨a⟩
 have:a.size=0:=h
 rw[Array.eq_empty_of_size_eq_zero this];rfl
theorem Zhs (k i:Int)(t:ByteArray)(l:List T):Zed (.mk k i t l)=b1 (k % 256).toNat++(if k=2\/k=5 then Zel (Zjg i)else if k=6 then b1 (i % 256).toNat else if k=7 then Zaz Zed l else Zb4 t):=by rw[Zed,Zy0];rfl
theorem Zow: ∀ (d:Nat) (x:T),d<=3->Zau (3 - d) x=0->InT d x->Fwd (Zfq d) Zed x:=by
 intro d;induction d with
 | zero=>
  intro x _ hw hi r;obtain⟨ho,hl⟩:=Zpd hw;obtain⟨hf,h1,h64,h6,h7⟩:=Zyx ho;have hI:=hi.i;obtain⟨k,i,t,l⟩:=x;dsimp only[T.k,T.i,T.t,T.l]at*;rw[Zhs,Zbq,Ydq,Zfq];rcases Zqt hf with⟨hk,rfl,hn⟩ | ⟨hk,ht,hn⟩ | ⟨rfl,ht,hn,hb⟩ | ⟨rfl,rfl,ht⟩
  ·have hl0:l=[]:=Yds hn;subst hl0;rcases hk with rfl | rfl | rfl <;> (rw[De.then_ok (Zdi (by decide) _)];simp;rw[De.map_ok (Zo0 (by omega) r)])
  ·have hl0:l=[]:=Yds hn;have ht0:=Zhb ht;subst hl0 ht0;rcases hk with rfl | rfl <;> (rw[De.then_ok (Zdi (by decide) _)];simp;rw[De.map_ok (Zf3 (Zhp hI).2 r),(Zhp hI).1])
  ·have hl0:l=[]:=Yds hn;have ht0:=Zhb ht;subst hl0 ht0;rcases hb with rfl | rfl <;> (rw[De.then_ok (Zdi (by decide) _)];simp;rw[De.map_ok (Zdi (by decide) r)];rfl)
  ·exact absurd ⟨rfl,rfl⟩ h7
 | succ d ih=>
  intro x hd hw hi r;obtain⟨ho,hl⟩:=Zpd hw;obtain⟨hf,h1,h64,h6,h7⟩:=Zyx ho;have hI:=hi.i;have hL:=hi.2;obtain⟨k,i,t,l⟩:=x;dsimp only[T.k,T.i,T.t,T.l]at*;rw[Zhs,Zbq,Ydq,Zfq];rcases Zqt hf with⟨hk,rfl,hn⟩ | ⟨hk,ht,hn⟩ | ⟨rfl,ht,hn,hb⟩ | ⟨rfl,rfl,ht⟩
  ·have hl0:l=[]:=Yds hn;subst hl0;rcases hk with rfl | rfl | rfl <;> (rw[De.then_ok (Zdi (by decide) _)];simp;rw[De.map_ok (Zo0 (by omega) r)])
  ·have hl0:l=[]:=Yds hn;have ht0:=Zhb ht;subst hl0 ht0;rcases hk with rfl | rfl <;> (rw[De.then_ok (Zdi (by decide) _)];simp;rw[De.map_ok (Zf3 (Zhp hI).2 r),(Zhp hI).1])
  ·have hl0:l=[]:=Yds hn;have ht0:=Zhb ht;subst hl0 ht0;rcases hb with rfl | rfl <;> (rw[De.then_ok (Zdi (by decide) _)];simp;rw[De.map_ok (Zdi (by decide) r)];rfl)
  ·have ht0:=Zhb ht;subst ht0;rw[De.then_ok (Zdi (by decide) _)];simp;rw[De.map_ok (Zek (fun y hy=>ih y (by omega) (by have:=hl y hy;rwa [show 3 - (d+1)+1=3 - d by omega]at this) (hL y hy)) h6 (by omega) r)]
theorem Zov: ∀ d,Bwd (Zfq d) Zed:=by
 intro d;induction d with
 | zero=>
  intro l x r h;rw[Zfq]at h;obtain⟨k,s,h1,h2⟩:=Zb8 h;obtain⟨rfl,hk⟩:=Zg2 h1;split at h2
  ·rename_i hk';obtain⟨n,h3,rfl⟩:=Zdl h2;obtain⟨rfl,_⟩:=Zf2 _ _ _ h3;rw[Zhs,Zbq,Ydq,if_pos (by omega),Zo1,show((k:Int) % 256).toNat=k by omega]
  split at h2
  ·rename_i hk';obtain⟨n,h3,rfl⟩:=Zdl h2;obtain⟨rfl,hn⟩:=Zg2 h3;rw[Zhs,Zbq,Ydq,if_neg (by omega),if_pos (by omega),show((k:Int) % 256).toNat=k by omega,show((n:Int) % 256).toNat=n by omega]
  split at h2
  ·cases h2
  split at h2
  ·rename_i hk';obtain⟨n,h3,rfl⟩:=Zdl h2
   have:=Zoz _ _ _ h3
   subst this;rw[Zhs,Zbq,Ydq,if_neg (by omega),if_neg (by omega),if_neg (by omega),show((k:Int) % 256).toNat=k by omega]
  ·cases h2
 | succ d ih=>
  intro l x r h;rw[Zfq]at h;obtain⟨k,s,h1,h2⟩:=Zb8 h;obtain⟨rfl,hk⟩:=Zg2 h1;split at h2
  ·rename_i hk';obtain⟨n,h3,rfl⟩:=Zdl h2;obtain⟨rfl,_⟩:=Zf2 _ _ _ h3;rw[Zhs,Zbq,Ydq,if_pos (by omega),Zo1,show((k:Int) % 256).toNat=k by omega]
  split at h2
  ·rename_i hk';obtain⟨n,h3,rfl⟩:=Zdl h2;obtain⟨rfl,hn⟩:=Zg2 h3;rw[Zhs,Zbq,Ydq,if_neg (by omega),if_pos (by omega),show((k:Int) % 256).toNat=k by omega,show((n:Int) % 256).toNat=n by omega]
  split at h2
  ·rename_i hk';obtain⟨xs,h3,rfl⟩:=Zdl h2
   have:=Zej ih 6 _ _ _ h3
   subst this;rw[Zhs,Zbq,Ydq,if_neg (by omega),if_neg (by omega),if_pos (by omega),show((k:Int) % 256).toNat=k by omega]
  split at h2
  ·rename_i hk';obtain⟨n,h3,rfl⟩:=Zdl h2
   have:=Zoz _ _ _ h3
   subst this;rw[Zhs,Zbq,Ydq,if_neg (by omega),if_neg (by omega),if_neg (by omega),show((k:Int) % 256).toNat=k by omega]
  ·cases h2
theorem Zne:Bwd Zpl Zli:=fun l x r h=>by
 obtain⟨n,s,h1,h2⟩:=Zb8 h;obtain⟨ts,h3,rfl⟩:=Zdl h2;rw[Zoz _ _ _ h1,Zej (Zov 3) 6 _ _ _ h3];simp only[Zli,Zbq,Ydq]
theorem Z0j:Bwd Zn2 Zvh:=fun l x r h=>by
 obtain⟨o,s,h1,h2⟩:=Zb8 h;obtain⟨a,s',h3,h4⟩:=Zb8 h2;obtain⟨b,h5,rfl⟩:=Zdl h4;obtain⟨rfl,ho⟩:=Zg2 h1;rw[Zov 3 _ _ _ h3,Zov 3 _ _ _ h5];simp only[Zvh,Zbq,Ydq];rw[show((o:Int) % 256).toNat=o by omega]
theorem Ztc:Bwd Zpp Zb9:=fun l x r h=>by
 obtain⟨n,s,h1,h2⟩:=Zb8 h;obtain⟨ts,h3,rfl⟩:=Zdl h2;rw[Zej Zne 4 _ _ _ h1,Zej Z0j 4 _ _ _ h3];simp only[Zb9,Zbq,Ydq]
theorem Z4p:Bwd Zw8 Zvi:=fun l x r h=>by
 obtain⟨n,s,h1,h2⟩:=Zb8 h;obtain⟨b,h3,rfl⟩:=Zdl h2;rw[Zne _ _ _ h1,Ztc _ _ _ h3];simp only[Zvi,Zb9,Zbq,Ydq]
theorem Zzq:Bwd Zig Ze9:=fun l x r h=>by
 obtain⟨f,s,h1,h2⟩:=Zb8 h;obtain⟨rs,s',h3,h4⟩:=Zb8 h2;obtain⟨c,h5,rfl⟩:=Zdl h4;rw[Zej Zne 24 _ _ _ h1,Zej Z4p 24 _ _ _ h3,Zej (Zej Ztc 4) 24 _ _ _ h5];simp only[Ze9,Zbq,Ydq]
theorem Z0a {x:Bk}(h:Zdb l= .ok x):Ze9 x=ba l/\Zck x=0/\l.length<=4000:=by
 unfold Zdb at h;split at h
 ·cases h
 ·rename_i hl;split at h
  ·cases h
  ·rename_i y hy;split at h
   ·cases h
   ·rename_i hw;cases h;refine⟨?_,Decidable.not_not.mp hw,by omega⟩;unfold Zb1 at hy;split at hy
    ·cases hy
    ·rename_i y' r' hb;split at hy
     ·rename_i hr;cases hy
      have:=Zzq _ _ _ hb
      rw[hr,List.append_nil]at this;rw[this,Zjw]
     ·cases hy
def InA (a:A):Prop:= ∀ y∈a.terms,InT 3 y
def InG (g:G):Prop:=InT 3 g.a/\InT 3 g.b
def InR (r:R):Prop:=InA r.head/\(∀ a∈r.body,InA a)/\ ∀ g∈r.guards,InG g
def Zvl (b:Bk):Prop:=(∀ a∈b.facts,InA a)/\(∀ r∈b.rules,InR r)/\ ∀ c∈b.checks,∀ r∈c,InR r
theorem Zgy {α:Type}{f:α->Int}{l:List α}(h:Zb3 f m l=0):l.length<=m/\ ∀ x∈l,f x=0:=by
 unfold Zb3 at h;split at h
 ·cases h
 ·exact⟨by omega,Zg3 h⟩
theorem Znf (h:Zcs a=0)(hi:InA a):Fwd Zpl Zli a:=fun r=>by
 unfold Zcs at h;split at h
 ·cases h
 ·rename_i hn;obtain⟨h6,ht⟩:=Zgy h;have hs:a.name.size<=16:=by
   have:Zdm a.name=true:=by simpa using hn
   unfold Zdm at this;simp at this;exact this.2
  rw[Zli,Zbq,Ydq,Zpl,De.then_ok (Zo0 (by omega) _),De.map_ok (Zek (fun y hy=>Zow 3 y (by omega) (ht y hy) (hi y hy)) h6 (by omega) r)]
theorem Zu2 {t:T}(h:Zcl b t=0):Zau 0 t=0:=(Zem h).1
theorem Z0k {g:G}(h:Zfl b g=0)(hi:InG g):Fwd Zn2 Zvh g:=fun r=>by
 unfold Zfl at h;split at h
 ·cases h
 ·rename_i ho;have h':=Zem h;rw[Zvh,Zbq,Zbq,Ydq,Ydq,Zn2,De.then_ok (Zdi (by omega) _),De.then_ok (Zow 3 g.a (by omega) (Zu2 h'.1) hi.1 _),De.map_ok (Zow 3 g.b (by omega) (Zu2 h'.2) hi.2 _),show(((g.op % 256).toNat:Nat):Int)=g.op by omega]
theorem Z2j {r:R}(h:Zbo r=0):r.body.length<=4/\r.guards.length<=4/\(∀ a∈r.body,Zcs a=0)/\ ∀ g∈r.guards,Zfl r.body g=0:=by
 unfold Zbo at h;split at h
 ·cases h
 ·split at h
  ·cases h
  ·rename_i h4;have h':=Zem h;exact⟨by omega,by omega,Zg3 h'.1,Zg3 h'.2⟩
theorem Ztd {r:R}(h:Zbo r=0)(hi:InR r): ∀ s,Zpp (bl (Zb9 r)++s)= .ok (⟨⟨ByteArray.empty,[]⟩,r.body,r.guards⟩,s):=fun s=>by
 obtain⟨h4,h5,ha,hg⟩:=Z2j h;rw[Zb9,Zbq,Ydq,Zpp,De.then_ok (Zek (fun y hy=>Znf (ha y hy) (hi.2.1 y hy)) h4 (by omega) _),De.map_ok (Zek (fun y hy=>Z0k (hg y hy) (hi.2.2 y hy)) h5 (by omega) _)]
theorem Z4q {r:R}(h:Zdr r=0)(hi:InR r):Fwd Zw8 Zvi r:=fun s=>by
 have h1:=Zem h;have h2:=Zem h1.2;rw[Zvi,Zbq,Ydq,Zw8,De.then_ok (Znf h1.1 hi.1 _),De.map_ok (Ztd h2.1 hi s)]
theorem Z2f {r:R}(h:Zc9 r=0)(hi:InR r):Fwd Zpp Zb9 r:=fun s=>by
 unfold Zc9 at h;split at h
 ·cases h
 ·rename_i hn;rw[Ztd h hi];obtain⟨⟨n,ts⟩,b,g⟩:=r;dsimp only at hn⊢;rw[Zhb (t:=n) (by omega),Yds (l:=ts) (by omega)]
theorem Znw {l:List R}(h:Zba l=0):l.length<=4/\ ∀ r∈l,Zc9 r=0:=by
 unfold Zba at h;split at h
 ·cases h
 ·exact Zgy h
theorem Z25 (h:Zd2 a=0):Zcs a=0:=(Zem h).1
theorem Zzr {b:Bk}(h:Zck b=0)(hi:Zvl b):Fwd Zig Ze9 b:=fun s=>by
 have h1:=Zem h;have h2:=Zem h1.2;obtain⟨n1,q1⟩:=Zgy h1.1;obtain⟨n2,q2⟩:=Zgy h2.1;obtain⟨n3,q3⟩:=Zgy h2.2;rw[Ze9,Zbq,Zbq,Ydq,Ydq,Zig,
  De.then_ok (Zek (fun y hy=>Znf (Z25 (q1 y hy)) (hi.1 y hy)) n1 (by omega) _),
  De.then_ok (Zek (fun y hy=>Z4q (q2 y hy) (hi.2.1 y hy)) n2 (by omega) _),
  De.map_ok (Zek (f:=Zqm) (fun y hy=>Zek (fun z hz=>Z2f ((Znw (q3 y hy)).2 z hz) (hi.2.2 y hy z hz)) (Znw (q3 y hy)).1 (by omega)) n3 (by omega) s)]
theorem Z0b {b:Bk}(h:Zck b=0)(hi:Zvl b)(hs:(Ze9 b).size<=4000):Zdb (bl (Ze9 b))= .ok b:=by
 unfold Zdb;rw[if_neg (by rw[Zcy];omega)]
 have:=Zzr h hi []
 rw[List.append_nil]at this;simp only[Zb1,this,if_pos,h];rfl
end Go.W
namespace Go.W
variable {n:Int}{c:Prop}{t:ByteArray}
def Rsn (n:Int):Prop:=1<=n/\n<=7
def Bad {α:Type} (m:Except (Int×Nat) α):Prop:= ∀ e,m= .error e->Rsn e.1
theorem Zca {α:Type}{x:α}:Bad (.ok x):=fun _ h=>by cases h
theorem Zbe {α:Type}{p:Nat}(h:Rsn n):Bad (α:=α) (.error (n,p)):=fun _ h'=>by cases h';exact h
theorem r1:Rsn 1:=⟨by decide,by decide⟩
theorem r2:Rsn 2:=⟨by decide,by decide⟩
theorem r3:Rsn 3:=⟨by decide,by decide⟩
theorem r4:Rsn 4:=⟨by decide,by decide⟩
theorem r5:Rsn 5:=⟨by decide,by decide⟩
theorem r6:Rsn 6:=⟨by decide,by decide⟩
theorem r7:Rsn 7:=⟨by decide,by decide⟩
theorem Zax {α β:Type}{m:Re α}{f:α->Tk->Nat->Re β}(h:Bad m)(hf: ∀ y x p,Bad (f y x p)):Bad (Zbg m f):=by
 unfold Zbg;split
 ·rename_i e;exact fun e' h'=>by cases h';exact h _ rfl
 ·exact hf _ _ _
theorem Zbc {α:Type}[Decidable c]{x y:Except (Int×Nat) α}(hx:Bad x)(hy:Bad y):Bad (if c then x else y):=by split <;> assumption
theorem Ztm (bs:List Nat)(q:Nat): ∀ f v p,Bad (Zkm bs q f v p)
 | 0,_,_=>Zca
 | f+1,_,_=>Zbc (Ztm bs q f _ _) (Zbe r1)
theorem Z2s (t:ByteArray)(x:Tk)(p:Nat):Bad (Zmr t x p):=by
 unfold Zmr;split
 ·rename_i e h;exact fun e' h'=>by cases h';exact Ztm _ _ _ _ _ _ h
 ·exact Zbc Zca (Zbe r1)
theorem Z6b (t:ByteArray)(x:Tk)(p:Nat):Bad (Z13 t x p):=by
 unfold Z13;split
 ·exact Zca
 ·exact Zbc (Z2s _ _ _) (Zbe r1)
theorem Zom (t:ByteArray)(x:Tk): ∀ f p acc,Bad (Zm6 t x f p acc)
 | 0,_,_=>Zbe r1
 | f+1,p,acc=>by
  rw[Zm6];refine Zbc Zca (Zbc (Zbe r1) (Zbc ?_ (Zbc (Zbe r1) (Zom t x f _ _))));split
  ·rename_i e h;exact fun e' h'=>by cases h';exact Z6b _ _ _ _ h
  ·exact Zom t x f _ _
theorem Zzu (t:ByteArray)(x:Tk)(p:Nat):Bad (Zii t x p):=Zbc (Zbe r1) (Zbc (Zbe r4) Zca)
theorem Zyq (t:ByteArray)(q k:Int)(x:Tk)(p:Nat):Bad (Z15 t q k x p):=by
 unfold Z15;split
 ·rename_i e h;refine fun e' h'=>?_;cases h';unfold Zyd at h;dsimp only at h;generalize (if(Zac t).getD p 0=45 then p+1 else p)=p1 at h;split at h
  ·cases h;exact r1
  ·split at h
   ·cases h
   ·cases h;exact r1
 ·exact Zca
theorem Zuz (t:ByteArray)(p:Nat):Bad (Zh3 t p):=by
 unfold Zh3;refine Zbc Zca ?_;unfold Ziz;refine Zbc (Zbc (Zbe r4) (Zbc (Zzu _ _ _) Zca)) (Zbc (Zbc (Zbe r4) (Zbc (Zbe r1) Zca)) (Zbc ?_ (Zbc (Zyq _ _ _ _ _) (Zbc (Zyq _ _ _ _ _) ?_))))
 ·unfold Zus;split
  ·rename_i e h;exact fun e' h'=>by cases h';exact Zom _ _ _ _ _ _ h
  ·exact Zbc (Zbe r4) Zca
 ·unfold Zse;split
  ·exact Zbe r1
  ·exact Zca
theorem Zc0 (t:ByteArray)(x:Tk)(p:Nat):Bad (Zdc t x p):=by
 unfold Zdc;split
 ·rename_i e h;exact fun e' h'=>by cases h';exact Zuz _ _ _ h
 ·exact Zca
theorem Zi0 (t:ByteArray)(s:List UInt8)(x:Tk)(p:Nat):Bad (Zh5 t s x p):=Zbc (Zax (Zc0 _ _ _) fun _ _ _=>Zca) (Zbe r2)
theorem Zsq {α:Type}{read:Tk->Nat->Re α}(hr: ∀ x p,Bad (read x p)){s:List UInt8}{most:Nat}: ∀ n xs x p,Bad (Zor t read s most n xs x p)
 | 0,_,_,_=>Zbe r4
 | n+1,_,_,_=>Zax (hr _ _) fun _ _ _=>Zbc (Zbe r4) (Zbc (Zax (Zc0 _ _ _) fun _ _ _=>Zsq hr n _ _ _) Zca)
theorem Zrf {read:Tk->Nat->Re T}(hr: ∀ x p,Bad (read x p))(s:List UInt8)(x:Tk)(p:Nat):Bad (Zh1 t read s x p):=Zax (Zbc Zca (Zsq hr _ _ _ _)) fun _ _ _=>Zax (Zi0 _ _ _ _) fun _ _ _=>Zca
theorem Zk9 (t:ByteArray): ∀ d x p,Bad (Zet t d x p)
 | 0,_,_=>Zbc (Zax (Zc0 _ _ _) fun _ _ _=>Zca) (Zbc (Zbe r3) (Zbc (Zbe r2) (Zax (Zc0 _ _ _) fun _ _ _=>Zca)))
 | d+1,_,_=>Zbc (Zax (Zc0 _ _ _) fun _ _ _=>Zca) (Zbc (Zax (Zc0 _ _ _) fun _ _ _=>Zax (Zrf (Zk9 t d) _ _ _) fun _ _ _=>Zca) (Zbc (Zbe r2) (Zax (Zc0 _ _ _) fun _ _ _=>Zca)))
theorem Zs8 (t:ByteArray)(x:Tk)(p:Nat):Bad (Zpm t x p):=Zbc (Zax (Zc0 _ _ _) fun _ _ _=>Zax (Zi0 _ _ _ _) fun _ _ _=>Zax (Zrf (Zk9 t 3) _ _ _) fun _ _ _=>Zca) (Zbe r2)
theorem Z0l (t:ByteArray)(x:Tk)(p:Nat):Bad (Zt6 t x p):=Zax (Zk9 t 3 _ _) fun _ _ _=>Zbc (Zbe r2) (Zax (Zc0 _ _ _) fun _ _ _=>Zax (Zk9 t 3 _ _) fun _ _ _=>Zca)
theorem Z39 (t:ByteArray)(r:R)(x:Tk)(p:Nat):Bad (Zww t r x p):=Zbc (Zax (Zs8 _ _ _) fun _ _ _=>Zbc (Zbe r4) Zca) (Zax (Z0l _ _ _) fun _ _ _=>Zbc (Zbe r4) Zca)
theorem Zq5 (t:ByteArray): ∀ n r x p,Bad (Zfk t n r x p)
 | 0,_,_,_=>Zbe r4
 | n+1,_,_,_=>Zax (Z39 _ _ _ _) fun _ _ _=>Zbc (Zax (Zc0 _ _ _) fun _ _ _=>Zq5 t n _ _ _) Zca
theorem Zte (t:ByteArray)(x:Tk)(p:Nat):Bad (Znk t x p):=Zax (Zq5 _ _ _ _ _) fun _ _ _=>Zbc Zca (Zbe r5)
theorem Znj (t:ByteArray)(x:Tk)(p:Nat):Bad (Zjx t x p):=Zax (Zi0 _ _ _ _) fun _ _ _=>Zsq (Zte t) _ _ _ _
theorem Znh (t:ByteArray): ∀ n b x p,Bad (Zfd t n b x p)
 | 0,_,_,_=>Zbe r4
 | n+1,_,_,_=>Zbc Zca (Zax (Zbc (Zax (Zc0 _ _ _) fun _ _ _=>Zax (Znj _ _ _) fun _ _ _=>Zbc (Zbe r4) Zca) (Zax (Zs8 _ _ _) fun _ _ _=>Zbc (Zax (Zc0 _ _ _) fun _ _ _=>Zax (Zte _ _ _) fun _ _ _=>Zbc (Zbe r5) (Zbc (Zbe r4) Zca)) (Zbc (Zbe r5) (Zbc (Zbe r4) Zca)))) fun _ _ _=>Zax (Zi0 _ _ _ _) fun _ _ _=>Znh t n _ _ _)
theorem Zjr (t:ByteArray): ∀ n l x p,Bad (Zcz t n l x p)
 | 0,_,_,_=>Zbe r4
 | n+1,_,_,_=>Zbc Zca (Zbc (Zax (Zc0 _ _ _) fun _ _ _=>Zax (Znj _ _ _) fun _ _ _=>Zbc (Zbe r4) (Zax (Zi0 _ _ _ _) fun _ _ _=>Zjr t n _ _ _)) (Zbe r2))
theorem Zrg {α:Type}(t:ByteArray){read:Tk->Nat->Re α}(hr: ∀ x p,Bad (read x p)):Bad (Zcn t read):=by
 unfold Zcn;refine Zbc (Zbe r4) ?_;split
 ·rename_i e h;exact fun e' h'=>by cases h';exact Zax (Zuz _ _) (fun _ _ _=>hr _ _) _ h
 ·exact Zca
theorem Z38 (t:ByteArray):Bad (Zcn t (Ze7 t)):=Zrg t fun _ _=>Znh t 73 _ _ _
theorem Z62 (t:ByteArray):Bad (Zcn t (Zdo t)):=Zrg t fun _ _=>Zjr t 25 _ _ _
def Zm9 {α:Type} (f:De α):Prop:= ∀ l e,f l= .error e->Rsn e
theorem Zdh {α β:Type}{f:De α}{g:α->De β}(h:Zm9 f)(hg: ∀ x,Zm9 (g x)):Zm9 (f.then g):=fun l e he=>by
 unfold De.then at he;split at he
 ·rename_i h';cases he;exact h _ _ h'
 ·exact hg _ _ _ he
theorem Zfy {α β:Type}{f:De α}{g:α->β}(h:Zm9 f):Zm9 (f.map g):=fun l e he=>by
 unfold De.map at he;split at he
 ·rename_i h';cases he;exact h _ _ h'
 ·cases he
theorem Zll {α:Type}[Decidable c]{f g:De α}(hf:Zm9 f)(hg:Zm9 g):Zm9 (if c then f else g):=by split <;> assumption
theorem Zl5 {α:Type}(h:Rsn n):Zm9 (α:=α) fun _=> .error n:=fun _ _ h'=>by cases h';exact h
theorem Zg1:Zm9 Zf9:=fun l e h=>by cases l <;> cases h;exact r6
theorem Zk4 (n:Nat):Zm9 (Zfp n):=fun l e h=>by
 unfold Zfp at h;split at h <;> cases h
 exact r6
theorem Zyn: ∀ (l:By) (k n:Nat) (e:Int),Zuk k n l= .error e->Rsn e
 | [],k,n,e,h=>by cases h;exact r6
 | c::l,k,n,e,h=>by
  rw[Zuk]at h;split at h
  ·cases h;exact r7
  ·split at h
   ·cases h
   ·exact Zyn l _ _ e h
theorem Zf1:Zm9 Zdv:=fun l e h=>Zyn l 0 0 e h
theorem Zoy:Zm9 Zox:=Zfy (Zdh Zf1 Zk4)
theorem Zy2 {α:Type}{f:De α}(h:Zm9 f): ∀ n,Zm9 (Zh7 f n)
 | 0=>fun l e he=>by cases he
 | n+1=>Zdh h fun _=>Zfy (Zy2 h n)
theorem Zei {α:Type}(m:Nat){f:De α}(h:Zm9 f):Zm9 (Zbu m f):=Zdh Zf1 fun _=>Zll (Zl5 r4) (Zy2 h _)
theorem Zk8: ∀ d,Zm9 (Zfq d)
 | 0=>Zdh Zg1 fun _=>Zll (Zfy Zf1) (Zll (Zfy Zg1) (Zll (Zl5 r3) (Zll (Zfy Zoy) (Zl5 r7))))
 | d+1=>Zdh Zg1 fun _=>Zll (Zfy Zf1) (Zll (Zfy Zg1) (Zll (Zfy (Zei 6 (Zk8 d))) (Zll (Zfy Zoy) (Zl5 r7))))
theorem Znd:Zm9 Zpl:=Zdh Zoy fun _=>Zfy (Zei 6 (Zk8 3))
theorem Ztb:Zm9 Zpp:=Zdh (Zei 4 Znd) fun _=>Zfy (Zei 4 (Zdh Zg1 fun _=>Zdh (Zk8 3) fun _=>Zfy (Zk8 3)))
theorem Zzp:Zm9 Zig:=Zdh (Zei 24 Znd) fun _=>Zdh (Zei 24 (Zdh Znd fun _=>Zfy Ztb)) fun _=>Zfy (Zei 24 (Zei 4 Ztb))
def Wr (n:Int):Prop:=n=0\/Rsn n
theorem Zd1 [Decidable c]{x y:Int}(hx:Wr x)(hy:Wr y):Wr (if c then x else y):=by split <;> assumption
theorem wr0:Wr 0:= .inl rfl
theorem Zm8 {α:Type}{f:α->Int}(h: ∀ x,Wr (f x)): ∀ l,Wr (Za2 f l)
 | []=>wr0
 | _::l=>Zd1 (h _) (Zm8 h l)
theorem Zld {α:Type}{f:α->Int}(h: ∀ x,Wr (f x))(m:Nat)(l:List α):Wr (Zb3 f m l):=Zd1 (.inr r4) (Zm8 h l)
theorem Ybv (d:Nat)(k i:Int)(t:ByteArray)(n:Nat):Wr (Zyv d k i t n):=Zd1 (.inr r2) (Zd1 (.inr r4) (Zd1 (.inr r3) wr0))
mutual
theorem Zpc: ∀ (x:T) (d:Nat),Wr (Zau d x)
 | .mk k i t l,d=>by rw[Zau];exact Zd1 (Ybv _ _ _ _ _) (Zrj l (d+1))
theorem Zrj: ∀ (l:List T) (d:Nat),Wr (Zi5 d l)
 | [],d=>by rw[Zi5];exact wr0
 | x::r,d=>by rw[Zi5];exact Zd1 (Zpc x d) (Zrj r d)
end
theorem Zo9 (a:A):Wr (Zcs a):=Zd1 (.inr r2) (Zld (fun x=>Zpc x 0) _ _)
theorem Zmo (b:List A)(t:T):Wr (Zcl b t):=Zd1 (Zpc _ _) (Zd1 (.inr r5) wr0)
theorem Zmn (r:R):Wr (Zbo r):=Zd1 (.inr r2) (Zd1 (.inr r4) (Zd1 (Zm8 Zo9 _) (Zm8 (fun _=>Zd1 (.inr r2) (Zd1 (Zmo _ _) (Zmo _ _))) _)))
theorem Zjd (b:Bk):Wr (Zck b):=Zd1 (Zld (fun _=>Zd1 (Zo9 _) (Zd1 (.inr r5) wr0)) _ _) (Zd1 (Zld (fun _=>Zd1 (Zo9 _) (Zd1 (Zmn _) (Zd1 (.inr r5) wr0))) _ _) (Zld (fun _=>Zd1 (.inr r2) (Zld (fun _=>Zd1 (.inr r2) (Zmn _)) _ _)) _ _))
theorem Zz9 {l:By}{e:Int}(h:Zdb l= .error e):Rsn e:=by
 unfold Zdb at h;split at h
 ·cases h;exact r4
 ·split at h
  ·rename_i h';cases h;unfold Zb1 at h';split at h'
   ·rename_i h2;cases h';exact Zzp _ _ h2
   ·split at h' <;> cases h'
    exact r7
  ·rename_i x _;split at h
   ·rename_i hw;cases h;exact(Zjd x).resolve_left hw
   ·cases h
end Go.W
namespace Go.W
variable {B d b o:Nat}{w:World}{vs:List Value}{x:A}
theorem Zan.mem {α:Type}{s:Nat}{Q:Nat->Nat->α->Prop}{p:Option Addr}{xs:List α}(h:Zan s Q p xs){y:α}(hy:y∈xs): ∃ b o,Q b o y:=by
 obtain⟨i,hi⟩:=List.mem_iff_getElem?.mp hy;obtain⟨b,o,_,q⟩:=h.at_ i y hi;exact⟨_,_,q⟩
theorem Zbl.inT: ∀ {k d b o:Nat} {x:T},k < d->Zbl B w d b o x->InT k x
 | 0,d+1,b,o,x,_,h=>by
  obtain⟨_,p,c,_,_,_,_,_,_,_,_,_,hi,_⟩:=h.vals;exact hi
 | k+1,d+1,b,o,x,hk,h=>by
  obtain⟨_,p,c,_,_,_,_,_,_,_,_,_,hi,_,hr⟩:=h.vals;exact⟨hi,fun y hy=>by obtain⟨_,_,q⟩:=hr.mem hy;exact Zbl.inT (by omega) q⟩
theorem Zc2.inT {x:T}(hd:2 < d)(h:Zc2 B w d vs x):InT 3 x:=by
 obtain⟨_,_,_,_,_,hi,_,hr⟩:=h;exact⟨hi,fun y hy=>by obtain⟨_,_,q⟩:=hr.mem hy;exact Zbl.inT hd q⟩
theorem Ze4.inA (hd:2 < d)(h:Ze4 B w d vs x):InA x:=by
 obtain⟨_,_,_,_,_,hr⟩:=h;exact fun y hy=>by obtain⟨_,_,q⟩:=hr.mem hy;exact Zbl.inT (by omega) q
theorem Zbb.inA (hd:3 < d)(h:Zbb B w d b o x):InA x:=by
 obtain⟨d,rfl⟩: ∃ e,d=e+1:=⟨d - 1,by omega⟩;obtain⟨_,_,_,_,_,s⟩:=h.vals;exact s.inA (by omega)
theorem Zct.inG {x:G}(hd:3 < d)(h:Zct B w d b o x):InG x:=by
 obtain⟨d,rfl⟩: ∃ e,d=e+1:=⟨d - 1,by omega⟩;obtain⟨_,_,_,_,_,_,_,_,_,_,_,_,_,_,s⟩:=h.vals;obtain⟨_,_,_,_,h1,h2⟩:=s;exact⟨h1.inT (by omega),h2.inT (by omega)⟩
theorem Zb5.inR {x:R}(hd:3 < d)(h:Zb5 B w d b o x):InR x:=by
 obtain⟨d,rfl⟩: ∃ e,d=e+1:=⟨d - 1,by omega⟩;obtain⟨_,_,_,_,_,_,_,_,_,_,_,s⟩:=h.vals;obtain⟨_,_,_,_,_,_,h1,_,h2,_,h3⟩:=s;exact⟨h1.inA (by omega),fun y hy=>by obtain⟨_,_,q⟩:=h2.mem hy;exact q.inA (by omega),fun y hy=>by obtain⟨_,_,q⟩:=h3.mem hy;exact q.inG (by omega)⟩
theorem Zbd.inBk {x:Bk}(hd:2 < d)(h:Zbd B w d vs x):Zvl x:=by
 obtain⟨_,_,_,_,_,_,_,_,h1,_,h2,_,h3⟩:=h;refine⟨fun y hy=>by obtain⟨_,_,q⟩:=h1.mem hy;exact q.inA (by omega),fun y hy=>by obtain⟨_,_,q⟩:=h2.mem hy;exact q.inR (by omega),fun y hy=>?_⟩;obtain⟨_,_,q⟩:=h3.mem hy;obtain⟨_,_,_,_,s⟩:=q.vals;obtain⟨_,_,_,_,h4⟩:=s;exact fun r hr=>by obtain⟨_,_,q⟩:=h4.mem hr;exact q.inR (by omega)
end Go.W
