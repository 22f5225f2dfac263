import Derived.Test.YtpmcefkhkkpnbaaGreatDoorW08
import Derived.Lib.RuneBytes
import Derived.Lib.TrimU
import Derived.Laws.BytesArg
set_option linter.all false
set_option maxRecDepth 100000
set_option maxHeartbeats 8000000
open Go.Proofs Go.RowKit Go.W Tryz
namespace Go.W
section
variable {s:Ay}{o:Obj}{b:Nat}
def JG (t:Ay) (x:Tk):Nat->Nat->List UInt8->Except (Int×Nat) (List UInt8×Nat)
 | 0,_,_=> .error (1,x.at_)
 | f+1,p,acc=>if(Ac t).getD p 0=34 then .ok (acc,p)else if p=t.size\/(Ac t).getD p 0=10 then .error (1,x.at_)
  else if(Ac t).getD p 0=92 then match Tm t x (p+1)with
   | .error e=> .error e
   | .ok (y,_,q)=>JG t x f q (acc++Lib.encodeRune (y:Int))
  else if(Lib.decodeGo<|t.extract p t.size).1=65533/\(Lib.decodeGo<|t.extract p t.size).2=1 then .error (1,x.at_)
  else JG t x f (p+(Lib.decodeGo<|t.extract p t.size).2) (acc++Lib.encodeRune ((Lib.decodeGo<|t.extract p t.size).1:Nat))
def O4 (t:Ay) (x:Tk) (p:Nat):Except (Int×Nat) (Unit×Tk×Nat):=match JG t x (t.size+1) (p+1) []with
 | .error e=> .error e
 | .ok (s,q)=>if 64<s.length then .error (4,x.at_)else .ok ((),{x with k:=3,i:=0,s:=⟨s.toArray⟩},q+1)
def Yde {t:Ay}{x:Tk}{f p:Nat}{acc:List UInt8}(h:(Ac t).getD p 0=34):JG t x (f+1) p acc= .ok (acc,p):=by rw[JG,xj h]
def Ydd {t:Ay}{x:Tk}{f p:Nat}{acc:List UInt8}(h0:(Ac t).getD p 0≠34)(h:p=t.size\/(Ac t).getD p 0=10):JG t x (f+1) p acc= .error (1,x.at_):=by rw[JG,xd h0,xj h]
def Ydf {t:Ay}{x:Tk}{f p:Nat}{acc:List UInt8}(h0:(Ac t).getD p 0≠34)(h1: ¬ (p=t.size\/(Ac t).getD p 0=10))(h:(Ac t).getD p 0=92):(∀ e,Tm t x (p+1)= .error e->JG t x (f+1) p acc= .error e)/\ ∀ y x' q,Tm t x (p+1)= .ok (y,x',q)->JG t x (f+1) p acc=JG t x f q (acc++Lib.encodeRune (y:Int)):=by
 rw[JG,xd h0,xd h1,xj h];exact⟨fun e he=>by rw[he],fun y x' q he=>by rw[he]⟩
def Yah {t:Ay}{x:Tk}{f p:Nat}{acc:List UInt8}(h0:(Ac t).getD p 0≠34)(h1: ¬ (p=t.size\/(Ac t).getD p 0=10))(h2:(Ac t).getD p 0≠92):((Lib.decodeGo<|t.extract p t.size).1=65533/\(Lib.decodeGo<|t.extract p t.size).2=1->JG t x (f+1) p acc= .error (1,x.at_))/\(¬ ((Lib.decodeGo<|t.extract p t.size).1=65533/\(Lib.decodeGo<|t.extract p t.size).2=1)->JG t x (f+1) p acc=JG t x f (p+(Lib.decodeGo<|t.extract p t.size).2) (acc++Lib.encodeRune ((Lib.decodeGo<|t.extract p t.size).1:Nat))):=by
 rw[JG,xd h0,xd h1,xd h2];exact⟨fun h=>by rw[xj h],fun h=>by rw[xd h]⟩
def Z2f {bs:Cg}{at_:Nat}: ∀ {f v p r q:Nat},Sz bs at_ f v p= .ok (r,q)->p<=q
 | 0,v,p,r,q,h=>by rw[Sz]at h;cases h;exact EO _
 | f+1,v,p,r,q,h=>by
  rw[Sz]at h;split at h
  ·have:=Z2f h
   omega
  ·cases h
def Yih {t:Ay}{x x2:Tk}{p y r:Nat}(h:Tm t x p= .ok (y,x2,r)):x2=x/\p<=r:=by
 unfold Tm at h;split at h
 .cases h;exact⟨rfl,zx⟩
 .split at h
  .unfold UY at h;split at h
   .cases h
   .rename_i hc
    have:=Z2f hc
    split at h
    .cases h;exact⟨rfl,zx⟩
    .cases h
  .cases h
def Ygp (s:Ay):(Lib.decodeGo s).1<=1114111:=by
 unfold Lib.decodeGo;split
 .decide
 .rw[Lib.decode_at];exact Lib.decodeN_rune_le _ _ _ _ _<|UInt8.toNat_lt _
def Yd0 (h:s.size≠0):1<=(Lib.decodeGo s).2:=by
 unfold Lib.decodeGo;rw[xd h];exact Lib.width_pos s 0
def Yd1 (h:s.size≠0):(Lib.decodeGo s).2<=s.size:=by
 unfold Lib.decodeGo;rw[xd h,Lib.decode_at];unfold Lib.decodeN
 repeat' split
 all_goals (simp only;omega)
section
variable {w w':Bb} {B:Nat} {e:TypeId} {v:Value} {n:Nat} {xs:Bu}
def au (h:w.ownsRow B e 1 v n xs)(k: ∀ j,B<=j->j<w.heap.size->w'.heap[j]?=w.heap[j]?):w'.ownsRow B e 1 v n xs:=by
 refine⟨h.1,?_⟩;rcases h.2 with h0 | ⟨g,cap,cur,hv,hb,hg,rest⟩
 .exact Or.inl h0
 .exact Or.inr ⟨g,cap,cur,hv,hb,(k g hb (PN.1 hg).1).trans hg,rest⟩
def Yes (h:w.ownsRow B e 1 v n xs){k:Nat}(hk:v.ownBlock=some k):B<=k:=by
 rcases h.2 with⟨rfl,_⟩ | ⟨g,cap,cur,rfl,hb,_⟩
 .cases hk
 .cases hk;exact hb
def Z91 (h:w.ownsRow B e 1 v n xs)(g:(w.alloc o).grownBy w' v.ownBlock){w0:Bb}(hB:w0.heap.size<=B)(k:Ad b w0 w):Ad b w0 w':=
 ⟨g.os.trans k.os,g.tape.trans k.tape,g.output.trans k.output,Ab k.size<|Ab zw g.size,fun j hj hb=>by
  have hjw:j<w.heap.size:=BK hj k.size;rw[g.block j zc (fun hh=>by have:=Yes h hh.symm;omega),Ah w o j hjw];exact k.block j hj hb⟩
def Z3f (h:w.ownsRow B e 1 v n xs)(g:(w.alloc o).grownBy w' v.ownBlock)(hb:b<B)(hw:b<w.heap.size):w'.heap[b]?=w.heap[b]?:=by
 rw[g.block b zc (fun hh=>fw (Yes h hh.symm)),Ah w o b hw]
end
end
variable {w:Bb}{a:Nat->Addr}{b p:Nat}{t:Ay}{x:Tk}
def Ydw {B:Nat}{p:Bp}{n c:Nat}{acc:List UInt8}(h:w.ownsRow B 5 1 (sP p n c) n (Lib.byteCells acc)):(convert 149 9<|sP p n c).run prog w= .ok (.string ⟨acc.toArray⟩) w:=by
 have hl:acc.length=n:=by have:=h.1;simpa[Lib.byteCells]using this
 rcases h.2 with⟨h1,h2⟩ | ⟨g,cap,cur,hv,_,hg,hc,_,hs,ht⟩
 .cases h1;obtain rfl:acc=[]:=M9 zx;exact run_convert_bytes_nil (P:=prog) w 149 5 underlying149 underlying5 0 0 9 underlying9
 .cases hv;subst hl;refine xD (P:=prog) w 149 9 5 (zm g 0) c acc underlying149 underlying5 underlying9 fun j hj=>?_;have e:((zm g 0):Addr).add j=(zm g j):=by unfold Addr.add;split <;> simp_all
  rw[e,cell_of_row w g j cur _ (0,0) hg];have h3:(Lib.byteCells acc)[j]?=cur.toList[j]?:=by rw[<- ht,List.getElem?_take,xj zx]
  rw[<- Qq,<- h3];simp[Lib.byteCells,hj]
def AZ.drew (h:AZ a w):AZ a w.drew:=h
def Rd.drew (h:Rd w b t p x):Rd w.drew b t p x:=h
def Yh1 (b:Nat) (w:Bb) (t:Ay) (p:Nat) (x:Tk) (tv:Value) (wr:Bb):Prop:= ∃ (f q:Nat) (acc:List UInt8) (pp:Bp) (c:Nat),tv= sP pp acc.length c/\p+1<=q/\acc.length<=4*q/\t.size<f+q/\wr.ownsRow w.heap.size 5 1 tv acc.length (Lib.byteCells acc)/\Rd wr b t q x/\Ad b w wr/\JG t x f q acc=JG t x (t.size+1) (p+1) []
def Zsv (Z:AZ a w)(h:Rd w b t p x)(hp:p<t.size):
  Calls prog 130 #[zq b 0] w (JO a b t VU w<|O4 t x p):=by
 have ht:=h.2.1;have hg:=h.2.2.2;obtain⟨c0,c1,-,-,-,-,-,-,sf⟩:=h.1.eight;have E9:=h.1.lt;have HN:=AC<|h.next hp;have lC:=AC<|(Ad.refl b w).set 1<|.int .i64<|(p:Int)+1;have ZZ:=AC Z;clear h Z;go_in
 go_wp2
 go_loopw [2] (fun tv wr=>Yh1 b w t p x tv wr) (fun _ wr=>t.size-qA b wr)
 .exact⟨t.size+1,p+1,[],none,0,rfl,zx,zw,zx,⟨rfl,Or.inl ⟨rfl,rfl⟩⟩,HN.o,lC.o,rfl⟩
 .obtain⟨f,q,acc,pp,cc,rfl,hpq,hacc,hf,hO,hR,hK,hE⟩:=hrel;have hM:=bM hR;have hq:=hR.2.2.1;obtain⟨f,rfl⟩: ∃ f',f=f'+1:=⟨f-1,zx⟩;have HO:=AC hO;have HR:=AC hR;have HK:=AC hK;have HE:=AC hE;have ZA:=AC<|ZZ.o.keeps hK hg;have hsz:=hK.size;have CP:=AC fun u (hu:Rd u b t q x)=>qK hu;have S0:=AC<|@Yde t x f q acc;have S1:=AC<|@Ydd t x f q acc;have S2:=AC<|@Ydf t x f q acc;have S3:=AC<|@Yah t x f q acc;have Ci:AF ((Ac t).getD q 0≠0->q<t.size):=⟨fun hh=>qD hh⟩;clear hO hR hK hE HN lC c0 c1 sf ZZ;obtain⟨c,hcc⟩:=fu ((Ac t).getD q 0);have HC:=AC hcc;rw[hcc]at CP S0 S1 S2 S3 Ci;clear hcc;go_wp2_with fail
  apply(CP.o _ HR.o).mono;rintro e w1 ⟨rfl,hb1⟩;have Dl:=AC<|HR.o.of hb1;have IY:=AC<|HK.o.AU hb1;have ZB:=AC<|ZA.o.be hb1;have Zt:=AC (au HO.o fun j _ hj=>hb1.block j hj);clear hb1 HR HK ZA HO;by_cases WP:c=34
  .have g1:((c:Int) != 34)=false:=by rw[bne_eq_false_iff_eq];omega
   have E:AF (JG t x (t.size+1) (p+1) []= .ok (acc,q)):=⟨HE.o.symm.trans<|S0.o WP⟩;have Ea:=Ci.o zx;obtain⟨d0,d1,-,-,-,-,-,-,sf1⟩:=Dl.o.1.eight;clear S0 S1 S2 S3 Ci CP;have C1:=AC fun u (hu:Rd u b t (q+1) x)=>QM a (n:=4) zu hu;have z4:=(ZB.o.keeps ((Ad.refl b w1).set 1<|.int .i64<|(q:Int)+1) hg).c4;by_cases DK:64<acc.length
   .have Y:AF (O4 t x p= .error (4,x.at_)):=⟨by unfold O4;rw[E.o];simp only;rw[xj DK]⟩;have g2:decide (64<(acc.length:Int))=true:=zc
    go_wp2_with fail
    apply(C1.o _<|Dl.o.next Ea).mono;rintro e w2 ⟨⟨L,hL,rfl,hB⟩,hb⟩;exact⟨rfl,(IY.o.set _ _).AU hb,Or.inl ⟨4,_,Y.o,zu,L,by have:=IY.o.size;simp at hL;omega,rfl,hB⟩⟩
   .have Y:AF (O4 t x p= .ok ((),{x with k:=3,i:=0,s:=⟨acc.toArray⟩},q+1)):=⟨by unfold O4;rw[E.o];simp only;rw[xd DK]⟩;have g2:decide (64<(acc.length:Int))=false:=zc
    have CV:=Ydw (au (w':=w1.setCell (zm b 1)<|.int .i64<|(q:Int)+1) Zt.o fun j hj _=>Aw w1 _ _ j (by show j≠b;omega));obtain⟨-,-,-,-,e4,e5,e6,e7,-⟩:=(Dl.o.next Ea).1.eight;clear C1 z4;go_wp2_with fail
    exact⟨rfl,_,(by simp[results,results130,go_sem];try rfl),(IY.o.set _ _).term,Or.inr ⟨_,_,_,_,Y.o,rfl,rfl,(Dl.o.next Ea).term 3 0 _⟩⟩
  have g1:((c:Int) != 34)=true:=by rw[bne_iff_ne];omega
  have C1:=AC fun u (hu:Rd u b t q x)=>QM a (n:=1) zu hu;clear S0;by_cases dP:q=t.size
  .have Y:AF (O4 t x p= .error (1,x.at_)):=⟨by unfold O4;rw[<- HE.o,S1.o WP<|Or.inl dP]⟩;have g2:((q:Int)==(t.size:Int))=true:=by rw[DR];omega
   obtain⟨d0,d1,-,-,-,-,-,-,sf1⟩:=Dl.o.1.eight;have z1:=ZB.o.c1;clear S1 S2 S3 Ci CP dP;go_wp2
   go_quiet (fail)
   go_wp2_with fail
   apply(C1.o _<|Dl.o.dr _).mono;rintro e w2 ⟨⟨L,hL,rfl,hB⟩,hb⟩;exact⟨rfl,(IY.o.dr _).AU hb,Or.inl ⟨1,_,Y.o,zu,L,Ab IY.o.size hL,rfl,hB⟩⟩
  have Ea:q<t.size:=zx
  have g2:((q:Int)==(t.size:Int))=false:=zj
  obtain⟨d0,d1,-,-,-,-,-,-,sf1⟩:=Dl.o.1.eight;have CD:=AC fun n=>Z05 (Dl.o.dr n);have hgd:AF ((Ac t).getD q 0=c):=HC;rw[hgd.o]at CD;by_cases h10:c=10
  .have Y:AF (O4 t x p= .error (1,x.at_)):=⟨by unfold O4;rw[<- HE.o,S1.o WP<|Or.inr h10]⟩;have g3:((c:Int)==10)=true:=by rw[DR];omega
   have z1:=ZB.o.c1;clear S1 S2 S3 Ci CP;go_wp2
   go_quiet ((go_at_call 195;exact Calls.quiet_of<|CD.o _))
   go_wp2_with fail
   apply(C1.o _<|Dl.o.dr _).mono;rintro e w3 ⟨⟨L,hL,rfl,hB⟩,hb⟩;exact⟨rfl,(IY.o.dr _).AU hb,Or.inl ⟨1,_,Y.o,zu,L,Ab IY.o.size hL,rfl,hB⟩⟩
  have g3:((c:Int)==10)=false:=zj
  have hno: ¬ (q=t.size\/c=10):=zx
  clear S1;go_wp2
  go_quiet ((go_at_call 195;exact Calls.quiet_of<|CD.o _))
  have Ao:=AC<|Dl.o.dr nq;have JV:=AC<|IY.o.dr nq;have ZC:=AC<|ZB.o.be<|MW (n:=nq)<|AR _ w1;have HO2:=AC (au (w':=w1.drewN nq) Zt.o fun j _ hj=>rfl);clear Dl IY ZB Zt d0 d1 sf1 CD;go_wp2_with fail
  apply(CP.o _ Ao.o).mono;rintro e w3 ⟨rfl,hb3⟩;have Dn:=AC<|Ao.o.of hb3;have ER:=AC<|JV.o.AU hb3;have ZD:=AC<|ZC.o.be hb3;have xW:=AC (au HO2.o fun j _ hj=>hb3.block j hj);obtain⟨d0,d1,-,-,-,-,-,-,sf3⟩:=Dn.o.1.eight;clear hb3 Ao JV ZC HO2 CP;by_cases h92:c=92
  .have g4:((c:Int)==92)=true:=by rw[DR];omega
   have T:=AC<|S2.o WP hno h92;have CE:=AC fun u (h1:AZ a u) (h2:Rd u b t (q+1) x)=>Zsu h1 h2;clear S2 S3 C1 Ci;go_wp2_with fail
   apply(CE.o _ (ZD.o.keeps ((Ad.refl b w3).set _ _) hg)<|Dn.o.next Ea).mono;rintro e w4 ⟨hk4,⟨n,r,hy,hn,L,hL,rfl,hB⟩ | ⟨v,y,x2,r,hy,rfl,⟨rfl,hv,hy6⟩,hr4⟩⟩
   .have Y:AF (O4 t x p= .error (n,r)):=⟨by unfold O4;rw[<- HE.o,T.o.1 _ hy]⟩;exact⟨rfl,(ER.o.set _ _).trans hk4,Or.inl ⟨n,r,Y.o,hn,L,by have:=ER.o.size;simp at hL;omega,rfl,hB⟩⟩
   .obtain⟨rfl,hqr⟩:=Yih hy;have hsz4:=hk4.size;have XY:=hr4.2.2.1;have EQ:AF (JG t x2 f r (acc++Lib.encodeRune (y:Int))=JG t x2 (t.size+1) (p+1) []):=⟨(T.o.2 _ _ _ hy).symm.trans HE.o⟩;have iG:AF (w4.ownsRow w.heap.size 5 1 (sP pp acc.length cc) acc.length<|Lib.byteCells acc):=⟨au (au (w':=w3.setCell (zm b 1)<|.int .i64<|(q:Int)+1) xW.o fun j hj _=>Aw w3 _ _ j (by show j≠b;omega)) fun j hj hl=>hk4.block j hl zx⟩;have iJ:=AC<|(ER.o.set 1<|.int .i64<|(q:Int)+1).trans hk4;have Vu:=AC hr4;have AP:=AC<|Zkp w.heap.size (sP pp acc.length cc) acc.length (Lib.byteCells acc) (y:Int) zx zx w4 iG.o zx iJ.o.size;have el:=Lib.encodeRuneZ_length (y:Int);clear hk4 hr4 hy T CE HE xW ER Dn d0 d1 sf3;go_wp2_with fail
    apply AP.o.mono;rintro e w5 ⟨v',rfl,Di,o5,Pm⟩;have NS:=Z91 iG.o Pm lr iJ.o;have PZ:Rd w5 b t r x2:=⟨Vu.o.1.of<|Z3f iG.o Pm E9 Vu.o.1.lt,Vu.o.2⟩;rw[<- Lib.byteCells_encodeRune,<- Lib.byteCells_append,Lib.byteCells_encodeRune]at Di;obtain⟨pa,ca,rfl⟩:=ZX Di;have R5:=AC<|AJ Di<|AJ NS PZ;have uO:=bM PZ;clear Di NS PZ Pm AP;go_wp2_with fail
    have el2:=Lib.runeCells_le (y:Int);have pM:=Lib.runeCells_length (y:Int);exact⟨⟨f,r,acc++Lib.encodeRune (y:Int),pa,ca,by rw[JS,pM],zx,by rw[JS];omega,zx,by rw[JS,<- pM];exact R5.o.1,R5.o.2.2,R5.o.2.1,EQ.o⟩,by rw[uO,hM];omega⟩
  have g4:((c:Int)==92)=false:=zj
  have T:=AC<|S3.o WP hno h92;have yY:(t.extract q t.size).size≠0:=by rw[YB];omega
  have wg:=Yd0 yY;have wl:=Yd1 yY;have rl:=Ygp<|t.extract q t.size;rw[YB,Nat.min_self]at wl;have CU:=AC fun u (h1:AZ a u)=>Ydh h1 (t.extract q t.size);clear S2 S3 Ci yY;generalize (Lib.decodeGo<|t.extract q t.size).1=y at*;generalize (Lib.decodeGo<|t.extract q t.size).2=n at*;go_wp2
  go_region_with (go_at_call 199;apply(CU.o _ (by first | exact ZD.o | exact ZD.o.drew)).mono;rintro e w4 ⟨rfl,hb4⟩)
  all_goals
   have Vu:=AC<|Dn.o.drew.of hb4;have iJ:=AC<|ER.o.drew.AU hb4;have ZE:=AC<|ZD.o.drew.be hb4;have iG:=AC (au (w':=w4) xW.o fun j _ hj=>hb4.block j hj);clear hb4 Dn ER ZD xW CU d0 d1 sf3;by_cases Ym:y=65533/\n=1
   .have Y:AF (O4 t x p= .error (1,x.at_)):=⟨by unfold O4;rw[<- HE.o,T.o.1 Ym]⟩;obtain⟨rfl,rfl⟩:=Ym;have z1:=ZE.o.c1;go_wp2_with fail
    apply(C1.o _ Vu.o).mono;rintro e w5 ⟨⟨L,hL,rfl,hB⟩,hb⟩;exact⟨rfl,iJ.o.AU hb,Or.inl ⟨1,_,Y.o,zu,L,Ab iJ.o.size hL,rfl,hB⟩⟩
   have EQ:AF (JG t x f (q+n) (acc++Lib.encodeRune (y:Int))=JG t x (t.size+1) (p+1) []):=⟨(T.o.2 Ym).symm.trans HE.o⟩;have AP:=AC<|Zkp w.heap.size (sP pp acc.length cc) acc.length (Lib.byteCells acc) (y:Int) zx zx w4 iG.o zx iJ.o.size;have GG:((y:Int)==65533)=false\/((y:Int)==65533)=true/\((n:Int)==1)=false:=by
    by_cases h1:y=65533
    .right
     exact⟨by rw[DR];omega,zj⟩
    .left
     rw[BJ];omega
   clear T HE C1 ZE Ym;rcases GG with ga | ⟨ga,gb⟩;all_goals
    go_wp2_with fail
    apply AP.o.mono;rintro e w5 ⟨v',rfl,Di,o5,Pm⟩;have NS:=Z91 iG.o Pm lr iJ.o;have PZ:Rd w5 b t q x:=⟨Vu.o.1.of<|Z3f iG.o Pm E9 Vu.o.1.lt,Vu.o.2⟩;rw[<- Lib.byteCells_encodeRune,<- Lib.byteCells_append,Lib.byteCells_encodeRune]at Di;obtain⟨pa,ca,rfl⟩:=ZX Di;have R5:=AC<|AJ Di<|AJ NS PZ;have uO:=bM<|PZ.goes (q:=q+n) zx;obtain⟨d0,d1,-,-,-,-,-,-,sf3⟩:=PZ.1.eight;clear Di NS PZ Pm AP;go_wp2_with fail
    have el2:=Lib.runeCells_le (y:Int);have pM:=Lib.runeCells_length (y:Int);refine⟨⟨f,q+n,acc++Lib.encodeRune (y:Int),pa,ca,by rw[JS,pM],zx,by rw[JS];omega,zx,by rw[JS,<- pM];exact au R5.o.1 fun j hj _=>Aw w5 _ _ j (by show j≠b;omega),R5.o.2.2.goes zx,R5.o.2.1.set _ _,EQ.o⟩,?_⟩;rw[hM];simp at uO⊢;rw[uO];omega
end Go.W
