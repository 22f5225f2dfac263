import Derived.Test.YtgnakaplmhmdcaaGreatDoorW45
set_option maxRecDepth 100000
set_option maxHeartbeats 8000000
set_option linter.unusedSimpArgs false
open Go.Proofs Go.RowKit Go.W
namespace Go.P
theorem Ztf {a:Nat->Addr}{w:World}{clk v:Int}{key text:ByteArray}{pl:Value}{J:Value->Value->World->Prop}(Z:Zap a w)
  (CB: ∀ u,Below w.heap.size w u->Calls Tryz.prog 26 #[.agg #[.slice none 0 0,.slice none 0 0,.slice none 0 0]] u (Zc9 a 0 u))
  (CP: ∀ u,Below w.heap.size w u->Calls Tryz.prog 44 #[pl] u (Zc9 a 0 u))
  (CV: ∀ u,Below w.heap.size w u->Calls Tryz.prog 45 #[.string key,.string text] u fun e w'=> ∃ v1 v2,e= .returned (.tuple #[v1,v2,.nilIface])/\J v1 v2 w'/\Below u.heap.size u w')
  (CR: ∀ v1 v2 u,J v1 v2 u->Below w.heap.size w u->Calls Tryz.prog 46 #[v2,.slice none 0 0] u fun e w'=>e= .returned (.bool false)/\J v1 v2 w'/\Below u.heap.size u w')
  (CD: ∀ v1 v2 u,J v1 v2 u->Below w.heap.size w u->Calls Tryz.prog 47 #[v1,.agg #[.int .i64 clk,.slice none 0 0,.slice none 0 0],pl] u fun e w'=>e= .returned (.int .i64 v)/\Below u.heap.size u w'):
  Calls Tryz.prog 25 #[.string key,.string text,.agg #[.int .i64 clk,.slice none 0 0,.slice none 0 0],pl] w fun e w'=>e= .returned (.tuple #[.int .i64 v,.nilIface])/\Below w.heap.size w w':=by
 have HB:=Zaa CB;have HP:=Zaa CP;have HV:=Zaa CV;have HR:=Zaa CR;have HD:=Zaa CD;have HZ:=Zaa Z;clear CB CP CV CR CD Z;go_enter Tryz.func25,Tryz.ntmps25
 go_wp2_with fail
 obtain⟨W2,hW2⟩: ∃ W2,Box ((w.alloc (.cells #[.int .i64 clk,.slice none 0 0,.slice none 0 0] 56)).alloc (.cells #[.slice none 0 0,.slice none 0 0,.slice none 0 0] 38)=W2):=⟨_,⟨rfl⟩⟩;rw[hW2.out];have B2:Below w.heap.size w W2:=hW2.out▸((Yct _ w).alloc lr _).alloc (by simp) _;have NQ:Blk W2 w.heap.size #[.int .i64 clk,.slice none 0 0,.slice none 0 0] 56:=hW2.out▸(Blk.new w _ _).alloc _;have HQ:Box (∀ u,Below W2.heap.size W2 u->u.cell? ⟨w.heap.size,0,none⟩=some (.int .i64 clk)/\u.cell? ⟨w.heap.size,1,none⟩=some (.slice none 0 0)/\u.cell? ⟨w.heap.size,2,none⟩=some (.slice none 0 0)/\Below w.heap.size w u):=⟨fun u hu=>by
  have q:=(NQ.of (hu.block _ NQ.lt)).three;exact⟨q.1,q.2.1,q.2.2.1,B2.trans (hu.mono B2.size)⟩⟩
 clear hW2 NQ;refine(HB.out _ B2).mono ?_;rintro e w3 ⟨rfl,hb3⟩;have B3:=Zaa hb3;clear hb3 B2;rw[Zbb];go_wp2_with fail
 refine(HP.out _ (HQ.out _ B3.out).2.2.2).mono ?_;rintro e w4 ⟨rfl,hb4⟩;have B4:=Zaa (B3.out.trans (hb4.mono B3.out.size));clear hb4 B3;rw[Zbb];go_wp2_with fail
 refine(HV.out _ (HQ.out _ B4.out).2.2.2).mono ?_;rintro e w5 ⟨v1,v2,rfl,j5,hb5⟩;have B5:=Zaa (B4.out.trans (hb5.mono B4.out.size));have HJ:=Zaa j5;have z10:=(HZ.out.below (HQ.out _ B5.out).2.2.2).c10;rw[Zah _ (by decide)]at z10;have HI:=fun(t:TypeId) (v:Value)=>Yah t v w5;obtain⟨q0,q1,q2,_⟩:=HQ.out _ B5.out;clear hb5 B4 j5;go_wp2_with fail
 refine(HI _ _).mono ?_;rintro e w6 ⟨rfl,rfl⟩;go_wp2_with fail
 refine(HR.out _ _ _ HJ.out (HQ.out _ B5.out).2.2.2).mono ?_;rintro e w7 ⟨rfl,j7,hb7⟩;have B7:=Zaa (B5.out.trans (hb7.mono B5.out.size));have HJ7:=Zaa j7;obtain⟨r0,r1,r2,_⟩:=HQ.out _ B7.out;clear hb7 j7 q0 q1 q2 z10 B5 HJ;go_wp2_with fail
 refine(HD.out _ _ _ HJ7.out (HQ.out _ B7.out).2.2.2).mono ?_;rintro e w8 ⟨rfl,hb8⟩;have B8:=Zaa (B7.out.trans (hb8.mono B7.out.size));clear hb8;go_wp2_with fail
 go_ret2
 exact⟨rfl,(HQ.out _ B8.out).2.2.2⟩
end Go.P
namespace Go.W
variable {x:Bk}
theorem Z3l (h:Zh8 x=0):Zby x=0/\(Zdx x).size<=4000/\Zeh x=Zdx x:=by
 have e:Zeh x=Zdx x:=if_pos h;unfold Zh8 at h;split at h
 ·rename_i h';exact absurd h h'
 ·rename_i h';split at h
  ·cases h
  ·exact⟨Decidable.not_not.mp h',by omega,e⟩
theorem Z4g (h:Zh8 x=0)(hi:Zz0 x):Fwd Zne (fun y:ByteArray×Bk=>Zdk y.1) (Zeh x,x):=fun r=>by
 obtain⟨h1,h2,h3⟩:=Z3l h;rw[h3];unfold Zne Zdk;dsimp only;rw[Zb7,Yc8,De.then_ok (Zfk (by omega) _),if_neg (by omega),<- Zew,De.then_ok (Zky _ r),Zxv (Zre h1 hi h2),Zs7]
theorem Z4k {α:Type}(f:ByteArray->ByteArray): ∀ l:List (ByteArray×α),cat f (l.map (·.1))=cat (fun y=>f y.1) l
 | []=>rfl
 | x::l=>by rw[List.map_cons,cat,cat,Z4k f l]
theorem Zte {xs:List Bk}{tag:By}(hne:xs≠[])(hn:xs.length<=8)(ht:tag.length=32)(hx: ∀ x,x∈xs->Zh8 x=0/\Zz0 x):Zc7 Zd1 (bl (Zf2 false (xs.map Zeh) tag))= .ok ⟨false,xs.map fun x=>(Zeh x,x),tag⟩:=by
 have hl:xs.map Zeh=(xs.map fun x=>(Zeh x,x)).map (·.1):=by rw[List.map_map];rfl
 have hm:=Zec (f:=Zne) (p:=fun y:ByteArray×Bk=>Zdk y.1) (m:=8) (xs:=xs.map fun x=>(Zeh x,x)) (fun y hy=>by
  obtain⟨x,hx',rfl⟩:=List.mem_map.mp hy;exact Z4g (hx x hx').1 (hx x hx').2) (by simpa using hn) (by omega) tag
 have e:bl (Zf2 false (xs.map Zeh) tag)=Zdc++(bl (b1 0)++(bl (Za4 (fun y:ByteArray×Bk=>Zdk y.1) (xs.map fun x=>(Zeh x,x)))++tag)):=by
  rw[hl];unfold Zf2 Za4;rw[Z4k,Yd6,Zb7,Zb7,Zb7,Z8u,Z8u];simp only[Yc8,Bool.false_eq_true,if_false]
 have hnz: ¬ (xs.map fun x=>(Zeh x,x)).length=0:=by simpa using hne
 have ht':=Zky tag [];rw[List.append_nil,ht]at ht';rw[e,Zc7]
 have:Zd1 (Zdc++(bl (b1 0)++(bl (Za4 (fun y:ByteArray×Bk=>Zdk y.1) (xs.map fun x=>(Zeh x,x)))++tag)))= .ok (⟨false,xs.map fun x=>(Zeh x,x),tag⟩,[]):=by
  unfold Zd1;have h4:=Zky Zdc (bl (b1 0)++(bl (Za4 (fun y:ByteArray×Bk=>Zdk y.1) (xs.map fun x=>(Zeh x,x)))++tag));rw[show Zdc.length=4 from rfl]at h4;rw[De.then_ok h4,if_neg (by simp),De.then_ok (Zda (by omega) _)];unfold Zqy;rw[if_neg (by omega),De.then_ok hm];unfold Zu8;rw[if_neg hnz,De.map_ok ht'];rfl
 rw[this];rfl
def Z1e:ByteArray:=⟨#[107,101,121]⟩
def Z9y:Pol:=⟨true,[Yb1]⟩
theorem Zsj:Zh8 bkB=0:=by kernel_rfl
theorem Z3k:Zh8 bkC=0:=by kernel_rfl
end Go.W
namespace Go.P
variable {B:Nat}{w:World}{a:Nat->Addr}
def Z61:ByteArray:=Zf2 false [Zeh bkB] (Za1 Z1e [Zeh bkB])
def Z46:ByteArray:=Zf2 false [Zeh bkB,Zeh bkC] (Zmp (Za1 Z1e [Zeh bkB]) [bkC])
theorem Zbk.at {B' d b o:Nat}{w':World}{vs:List Value}{x:Bk}(h:Zbk B w d vs x)(c:Zcw B B' w w')(hb:b < B')(hv: ∀ j,j < 3->w'.cell? ⟨b,o+j,none⟩=vs[j]?):Zcy B' w' (d+1) b o x:=by
 obtain⟨p,k,p1,k1,p2,k2,rfl,h2,h3,h4,h5,h6,h7⟩:=Zbk.carry h c;exact⟨hb,⟨_,hv 0 (by omega),_,_,rfl,h2,h3⟩,⟨_,hv 1 (by omega),_,_,rfl,h4,h5⟩,_,hv 2 (by omega),_,_,rfl,h6,h7⟩
theorem Zap.glob (h:Zap a w):Zpc w:=by
 have hs:=h.size;obtain⟨w0,h0,h1⟩:=h;exact⟨⟨(h1 _ _ (by decide)).2.trans h0.bits.1,(h1 _ _ (by decide)).2.trans h0.bits.2.1,(h1 _ _ (by decide)).2.trans h0.bits.2.2⟩,(h1 _ _ (by decide)).2.trans (h0.ops 2 _ rfl),hs⟩
theorem Z60 (V:Zbe)(CL:Zb5)(Z:Zap a w)(hB:B<=w.heap.size)(iB:Zz0 bkB)(iC:Zz0 bkC){pp:Option Addr}{cp:Nat}(hp:Zao 2 (Zjs B w 4) pp [Z9y]):
  Calls Tryz.prog 25 #[.string Z1e,.string Z46,.agg #[.int .i64 4,.slice none 0 0,.slice none 0 0],.slice pp 1 cp] w fun e w'=>e= .returned (.tuple #[.int .i64 6,.nilIface])/\Below w.heap.size w w':=by
 have hch:Zc7 Zd1 (bl Z46)= .ok ⟨false,[(Zeh bkB,bkB),(Zeh bkC,bkC)],Zmp (Za1 Z1e [Zeh bkB]) [bkC]⟩:=Zte (xs:=[bkB,bkC]) (by simp) (by simp) (Zf0 (Zbs _) _) fun x hx=>by
  rcases List.mem_cons.mp hx with rfl | hx
  ·exact⟨Zsj,iB⟩
  ·obtain rfl:=List.mem_singleton.mp hx;exact⟨Z3k,iC⟩
 have hsz:(bl Z46).length < 1000000000:=by
  rw[Zew];exact Zi0 false (by simp) (fun t ht=>by
   rcases List.mem_cons.mp ht with rfl | ht
   ·exact Zfn _
   ·obtain rfl:=List.mem_singleton.mp ht;exact Zfn _) (Zf0 (Zbs _) _)
 refine Ztf (J:=fun v1 v2 u=>(∃ F1 W0,Below w.heap.size w W0/\Below W0.heap.size W0 u/\Zag 38 3 (Zxs W0 3) u v1 [bkB,bkC] F1/\ ∀ k,k∈F1->k < u.heap.size)/\ ∃ F2 t0 t1,Zag 9 1 Zjx u v2 [t0,t1] F2/\ ∀ k,k∈F2->k < u.heap.size) Z ?_ ?_ ?_ ?_ ?_
 ·intro u hu;exact Zgg V (B:=u.heap.size) (D:=3) (x:=⟨[],[],[]⟩) (Z.below hu) lr ⟨_,_,_,_,_,_,rfl,Ydu _,Zjf,Ydu _,Zjf,Ydu _,Zjf⟩
 ·intro u hu;exact Z7c V (B:=B) (D:=3) (Z.below hu) (Ycu hB hu.size) (hp.carry fun _ _ _ q=>q.carry (Za6 hu hB) lr) (by kernel_rfl)
 ·intro u hu
  have:=Z38 V CL (key:=Z1e) (l:=bl Z46) (y0:=(Zeh bkB,bkB)) (ys:=[(Zeh bkC,bkC)]) (Z.below hu) (by decide) hsz hch rfl rfl (by simp) rfl
  rw[Zs7]at this;refine this.mono ?_;rintro e w' ⟨v1,v2,F1,F2,W0,rfl,h1,h2,h3,h4,h5,h6⟩;exact⟨v1,v2,rfl,⟨⟨F1,W0,hu.trans (h1.mono hu.size),h2,h3,h5.lt⟩,F2,_,_,h4,h6.lt⟩,h1.trans (h2.mono h1.size)⟩
 ·rintro v1 v2 u ⟨⟨F1,W0,h1,h2,h3,h3'⟩,F2,t0,t1,h4,h5⟩ hu;obtain⟨p,c,rfl,_,hr⟩:=Zag.rowOf (Q':=fun b o x=>b < u.heap.size/\u.cell? ⟨b,o,none⟩=some (.string x)) h4 h5 fun b o vs x G hc hb _ q=>⟨hb,by have:=hc 0 (by omega);rw[q.2]at this;exact this⟩;obtain⟨b,o,rfl,hb,k0⟩:=Zlx hr;refine(Zp5 (ids:=[t0,t1]) hb (fun i t hi=>?_) (by simp)).mono ?_
  ·obtain⟨b',o',e',_,k⟩:=hr.at_ i t hi;cases e';simpa using k
  rintro e w' ⟨rfl,hw⟩;exact⟨rfl,⟨⟨F1,W0,h1,h2.trans (hw.mono h2.size),Zag.stable (Zxs.stable _ _) _ _ _ _ _ h3 fun j hj=>hw.block j (h3' j hj),fun k hk=>Ycz (h3' k hk) hw.size⟩,F2,t0,t1,Zag.stable Zjx.stable _ _ _ _ _ h4 fun j hj=>hw.block j (h5 j hj),fun k hk=>Ycz (h5 k hk) hw.size⟩,hw⟩
 ·rintro v1 v2 u ⟨⟨F1,W0,h1,h2,h3,h3'⟩,_⟩ hu;obtain⟨p,c,rfl,hc,hr⟩:=Zag.rowOf (Q':=Zcy u.heap.size u 4) h3 h3' fun b o vs x G hcl hb _ q=>Zbk.at q.2 (Go.W.Below.carry h2 h2.size) hb hcl;obtain⟨b,o,rfl,b0⟩:=Zlx hr;obtain⟨b',o',e',b1⟩:=hr.at_ 1 bkC rfl;cases e';exact Zwg (B:=u.heap.size) (D:=1) (Z.below hu).glob lr hc b0 (by simpa using b1) (hp.carry fun _ _ _ q=>q.carry (Go.W.Below.carry (hu.mono hB) (Ycu hB hu.size)) lr)
end Go.P
namespace Go.P
variable {a:Nat->Addr}{B D:Nat}{w:World}{vs:List Value}
theorem Z8g (x:Bk):Wr (Zh8 x):=Zex (Zqg x) (Zex (.inr r4) wr0)
theorem Zvt (V:Zbe){x:Bk}(Z:Zap a w)(E:Zpm a w)(hB:B<=w.heap.size)(hS:Zbk B w D vs x):Calls Tryz.prog 6 #[.agg vs.toArray] w fun e w'=>e= .returned (.tuple #[.string (Zeh x),.int .i64 (Zh8 x)])/\Below w.heap.size w w':=by
 have C:=Zaa (fun u (hu:Below w.heap.size w u)=>Zlo V (Z.below hu) (Ycu hB hu.size) (Zbk.carry hS (Za6 hu hB)));have N:=Zaa (fun u (hu:Below w.heap.size w u)=>Z3f (Z.below hu) (E.below hu) (Z8g x));obtain⟨p,c,p1,c1,p2,c2,rfl,_⟩:=hS;clear Z E;generalize Zh8 x=n at*;generalize Zeh x=t at*;generalize Zc3 a n=er at*;go_enter Tryz.func6,Tryz.ntmps6
 go_wp2_with fail
 refine(C.out _ ((Yct _ w).alloc lr _)).mono ?_;rintro e w1 ⟨rfl,hb⟩;have B1:=Zaa (((Yct w.heap.size w).alloc lr _).trans (hb.mono (by simp)));clear hb;go_wp2_with fail
 refine(N.out _ B1.out).mono ?_;rintro e w2 ⟨rfl,hb⟩;have B2:=Zaa (B1.out.trans (hb.mono B1.out.size));clear hb;go_wp2_with fail
 go_ret2
 exact⟨rfl,B2.out⟩
theorem Z24 (V:Zbe)(Z:Zap a w)(hB:B<=w.heap.size)(hS:Zbk B w D vs bkB):Calls Tryz.prog 13 #[.string Z1e,.agg vs.toArray] w fun e w'=>e= .returned (.tuple #[.string Z61,.int .i64 0])/\Below w.heap.size w w':=by
 have e1:Zrm Z1e bkB=Z61:=if_pos ⟨by decide,Zsj⟩;have e2:Zwt Z1e bkB=0:=(if_pos (by decide)).trans Zsj;have C:=Zaa (fun u (hu:Below w.heap.size w u)=>Z64 V (key:=Z1e) (Z.below hu) (by decide) (Ycu hB hu.size) (Zbk.carry hS (Za6 hu hB)));simp only[e1,e2,Zbb]at C;obtain⟨p,c,p1,c1,p2,c2,rfl,_⟩:=hS;have N:=Zaa Zel;clear Z e1 e2;generalize Z61=t at*;generalize Z1e=k at*;go_enter Tryz.func13,Tryz.ntmps13
 go_wp2_with fail
 refine(C.out _ ((Yct _ w).alloc lr _)).mono ?_;rintro e w1 ⟨rfl,hb⟩;have B1:=Zaa (((Yct w.heap.size w).alloc lr _).trans (hb.mono (by simp)));clear hb;go_wp2_with fail
 refine(N.out _).mono ?_;rintro e w2 ⟨rfl,rfl⟩;go_wp2_with fail
 go_ret2
 exact⟨rfl,B1.out⟩
theorem Z5g (V:Zbe)(CL:Zb5)(Z:Zap a w)(hB:B<=w.heap.size)(iB:Zz0 bkB){p:Option Addr}{c:Nat}(hr:Zao 3 (Zcy B w 4) p [bkC]):Calls Tryz.prog 14 #[.string Z61,.slice p 1 c] w fun e w'=>e= .returned (.tuple #[.string Z46,.int .i64 0])/\Below w.heap.size w w':=by
 have hch:Zc7 Zd1 (bl Z61)= .ok ⟨false,[(Zeh bkB,bkB)],Za1 Z1e [Zeh bkB]⟩:=Zte (xs:=[bkB]) (by simp) (by simp) (Zbs _) fun x hx=>by
  obtain rfl:=List.mem_singleton.mp hx;exact⟨Zsj,iB⟩
 have hsz:(bl Z61).length < 1000000000:=by
  rw[Zew];exact Zi0 false (by simp) (fun t ht=>by
   obtain rfl:=List.mem_singleton.mp ht;exact Zfn _) (Zbs _)
 have C:=Zua V CL (D:=3) (xs:=[bkC]) (c:=c) Z hsz hch rfl hB hr (fun x hx=>by
  obtain rfl:=List.mem_singleton.mp hx;exact Z3k) (by simp) (fun y hy=>by
  obtain rfl:=List.mem_singleton.mp hy;exact Zfn bkB)
 rw[Zs7]at C;have C':Box (Calls Tryz.prog 24 #[.string Z61,.slice p 1 c] w fun e w'=>e= .returned (.tuple #[.string Z46,.nilIface])/\Below w.heap.size w w'):=⟨C⟩;have N:=Zaa Zel;clear C hch hsz hr Z;generalize Z61=t at*;generalize Z46=t' at*;go_enter Tryz.func14,Tryz.ntmps14
 go_wp2_with fail
 refine C'.out.mono ?_;rintro e w1 ⟨rfl,hb⟩;have B1:=Zaa hb;clear hb;go_wp2_with fail
 refine(N.out _).mono ?_;rintro e w2 ⟨rfl,rfl⟩;go_wp2_with fail
 go_ret2
 exact⟨rfl,B1.out⟩
theorem Z31 (V:Zbe)(CL:Zb5)(Z:Zap a w)(hB:B<=w.heap.size)(iB:Zz0 bkB)(iC:Zz0 bkC){pp:Option Addr}{cp:Nat}(hp:Zao 2 (Zjs B w 4) pp [Z9y]):
  Calls Tryz.prog 15 #[.string Z1e,.string Z46,.agg #[.int .i64 4,.slice none 0 0,.slice none 0 0],.slice pp 1 cp] w fun e w'=>e= .returned (.tuple #[.int .i64 6,.int .i64 0])/\Below w.heap.size w w':=by
 have C:=Zaa (fun u (hu:Below w.heap.size w u)=>Z60 V CL (cp:=cp) (Z.below hu) (Ycu hB hu.size) iB iC (hp.carry fun _ _ _ q=>q.carry (Za6 hu hB) lr));have N:=Zaa Zel;clear hp Z;generalize Z46=t at*;generalize Z1e=k at*;go_enter Tryz.func15,Tryz.ntmps15
 go_wp2_with fail
 refine(C.out _ ((Yct _ w).alloc lr _)).mono ?_;rintro e w1 ⟨rfl,hb⟩;have B1:=Zaa (((Yct w.heap.size w).alloc lr _).trans (hb.mono (by simp)));clear hb;go_wp2_with fail
 refine(N.out _).mono ?_;rintro e w2 ⟨rfl,rfl⟩;go_wp2_with fail
 go_ret2
 exact⟨rfl,B1.out⟩
def Yce (w:World) (Y:Prop) (G:List Pol->Prop) (v:Value) (m:Int) (u:World):Prop:=(Y/\m≠0/\v= .slice none 0 0)\/(m=0/\ ∃ l F,G l/\Zag 179 2 (Zg9 Zad 4) u v l F/\Za9 w.heap.size u F)
theorem Zue (t:ByteArray)(ht:t.size < 1000000000)(Z:Zap a w)(E:Zpm a w):Calls Tryz.prog 12 #[.string t] w fun e w'=> ∃ v m p,e= .returned (.tuple #[v,.int .i64 m,.int .i64 p])/\Yce w (∃ er,Zca t (Zdg t)= .error er) (fun l=>Zca t (Zdg t)= .ok l) v m w'/\Below w.heap.size w w':=by
 have C:=Zaa (Zlb t ht Z);have HY:=Zaa (Z7b t);have HZ:=Zaa Z;have HE:=Zaa E;have N:=Zaa Zel;clear Z E;generalize Zca t (Zdg t)=Y at*;go_enter Tryz.func12,Tryz.ntmps12
 go_wp2_with fail
 refine C.out.mono ?_;rintro e w1 ⟨hb,(⟨n,p,L,rfl,hn,hL,rfl,hF⟩ | ⟨v,y,rfl,rfl,F,hO,hN⟩)⟩
 ·obtain⟨k,rfl,hk⟩:=Z9o (HY.out _ rfl);have B1:=Zaa hb;have M:=Zaa (Zl7 (HZ.out.below hb) (HE.out.below hb) L 0 k p hk hF.two.1 (by have:=hF.two.2.1;rwa [Z2l]at this));clear hF hb;go_wp2_with fail
  refine M.out.mono ?_;rintro e w2 ⟨rfl,hb⟩;have B2:=Zaa (B1.out.trans (hb.mono B1.out.size));clear hb;go_wp2_with fail
  refine bodyPost_ret (by simp[results,Tryz.results12,go_sem];try rfl) rfl ?_;exact⟨_,_,_,rfl,.inl ⟨⟨_,rfl⟩,by omega,rfl⟩,B2.out⟩
 ·obtain⟨q,c,rfl⟩:=hO.form;have B1:=Zaa hb;have J1:=Zaa (Ycs hO hN);clear hO hN hb;go_wp2_with fail
  refine(N.out _).mono ?_;rintro e w2 ⟨rfl,rfl⟩;go_wp2_with fail
  refine bodyPost_ret (by simp[results,Tryz.results12,go_sem];try rfl) rfl ?_;exact⟨_,_,_,rfl,.inr ⟨rfl,_,F,rfl,J1.out.1,J1.out.2⟩,B1.out⟩
end Go.P
namespace Go.P
section
variable {L n:Nat} {u:World} {A:Int} {s:ByteArray} {a:Nat->Addr}
theorem Z1c {ty:Tys}{d:Nat}{w:World}{vs:List Value}{x:Bk}{F:List Nat}(h:Zba ty d w vs x F): ∀ u,u∈vs->u.oneCell'=true:=by
 obtain⟨p,c,p1,c1,p2,c2,rfl⟩:=Zba.vals h;intro u hu;simp at hu;rcases hu with rfl | rfl | rfl <;> rfl
theorem Zzt (h:Kp L u n)(hn:n < 65536)(hss:s.size<=65536)(Z:Zap a u)(E:Zpm a u):Calls Tryz.prog 10 #[.pointer (some ⟨L,0,none⟩),.agg #[.int .i64 1,.int .i64 A,.string s]] u (Zet L n u):=by
 obtain⟨vb,vp,vk,vc,vy,vr,vd,bs,ys,rs,ds,Fb,Fy,Fr,Fd,H,⟨pp,mp,cp,rfl⟩,⟨tk,rfl⟩,⟨ik,rfl⟩,hl⟩:=h;obtain⟨pr,cr,rfl⟩:=H.rb.form;have HK:=Zaa H;have HL:=Zaa hl;have hL:=H.blk.lt;have C:=Zaa (fun v (hv:Below u.heap.size u v)=>Zqv s (by omega) (Z.below hv) (E.below hv));clear H hl Z E;go_enter Tryz.func10,Tryz.ntmps10
 go_wp2_with fail
 have B0:=(Yct u.heap.size u).alloc lr (.cells #[.int .i64 1,.int .i64 A,.string s] 46);have hz0:u.heap.size < (u.alloc (.cells #[.int .i64 1,.int .i64 A,.string s] 46)).heap.size:=by simp
 refine(C.out _ B0).mono ?_;generalize u.alloc (.cells #[.int .i64 1,.int .i64 A,.string s] 46)=U at*;rintro e w1 ⟨⟨⟨p,c0,c⟩,⟨p1,c1,c2⟩,p2,c3,c4⟩,m,q,rfl,hk,hb⟩;have B1:=Zaa (B0.trans (hb.mono B0.size));have hsz:=hb.size;simp only[sl3];rcases hk with⟨_,hm,_⟩ | ⟨rfl,x,F,hx,hO,hN⟩
 ·have hm':(m==0)=false:=by simpa using hm
  clear hb;go_wp2_with fail
  refine⟨rfl,_,(by simp[results,Tryz.results10,go_sem];try rfl),?_⟩;obtain⟨l1,l2,l3,l4,l5,l6⟩:=HL.out;exact Kp.mk ((HK.out.later B1.out).up _) ((B1.out.alloc B1.out.size _).mono (by omega)) ⟨_,_,_,rfl⟩ ⟨_,rfl⟩ ⟨_,rfl⟩ (by omega) (by omega) (by omega) (by omega) l5 l6
 ·have HX:=Zaa (Ycs hx (Ycs hO hN));clear hx hO hN hb;go_wp2_with fail
  obtain⟨U1,hU⟩: ∃ U1,Box (w1.alloc (.cells #[.slice p c0 c,.slice p1 c1 c2,.slice p2 c3 c4] 38)=U1):=⟨_,⟨rfl⟩⟩;have HN:=Zaa (Blk.new w1 #[.slice p c0 c,.slice p1 c1 c2,.slice p2 c3 c4] 38);have hBU:Box (Below w1.heap.size w1 U1):=⟨hU.out▸(Yct _ w1).alloc lr _⟩;have hsU:Box (U1.heap.size=w1.heap.size+1):=⟨by rw[<- hU.out];simp⟩;rw[hU.out]at HN⊢;have KU:=Zaa ((HK.out.later B1.out).later hBU.out);have hS0:U1.drew.cell? ⟨L,0,none⟩=some (.slice pr bs.length cr)/\U1.drew.cell? ⟨w1.heap.size,0,none⟩=some (.slice p c0 c)/\U1.drew.cell? ⟨w1.heap.size,1,none⟩=some (.slice p1 c1 c2)/\U1.drew.cell? ⟨w1.heap.size,2,none⟩=some (.slice p2 c3 c4):=⟨KU.out.blk.cell 0,HN.out.three.1,HN.out.three.2.1,HN.out.three.2.2.1⟩;refine Zaq 10 (fun v=>v.cell? ⟨L,0,none⟩=some (.slice pr bs.length cr)/\v.cell? ⟨w1.heap.size,0,none⟩=some (.slice p c0 c)/\v.cell? ⟨w1.heap.size,1,none⟩=some (.slice p1 c1 c2)/\v.cell? ⟨w1.heap.size,2,none⟩=some (.slice p2 c3 c4)) (by kernel_rfl) ?_;refine tz 0 (.pointer (some ⟨L,0,none⟩)) hS0 (hy:=fun _ _=>by go_simp) (h:=?_);try simp only[zz]
  refine tz 1 (.pointer (some ⟨L,0,none⟩)) hS0 (hy:=fun _ _=>by go_simp) (h:=?_);try simp only[zz]
  refine tz 2 (.pointer (some ⟨L,0,none⟩)) hS0 (hy:=fun _ _=>by go_simp) (h:=?_);try simp only[zz]
  refine tz 3 (.pointer (some ⟨L,0,none⟩)) hS0 (hy:=fun _ _=>by go_simp) (h:=?_);try simp only[zz]
  refine tz 4 (.slice pr bs.length cr) hS0 (hy:=fun _ ⟨s0,s1,s2,s3⟩=>by go_simp) (h:=?_);try simp only[zz]
  refine tz 5 (.agg #[.slice p c0 c,.slice p1 c1 c2,.slice p2 c3 c4]) hS0 (hy:=fun _ ⟨s0,s1,s2,s3⟩=>by go_simp) (h:=?_);try simp only[zz]
  refine rz 6 (h:=fun K' hK'=>?_);go_simp;obtain⟨W,hW⟩: ∃ W,Box (U1.alloc (.cells #[.slice p c0 c,.slice p1 c1 c2,.slice p2 c3 c4] 38)=W):=⟨_,⟨rfl⟩⟩;rw[hW.out];have hBW:Below U1.heap.size U1 W:=hW.out▸(Yct _ U1).alloc lr _;have hsW:Box (W.heap.size=U1.heap.size+1):=⟨by rw[<- hW.out];simp⟩;have NW:W.heap[U1.heap.size]?=some (.cells #[.slice p c0 c,.slice p1 c1 c2,.slice p2 c3 c4] 38):=hW.out▸Zas _ _;have KW:=Zaa (KU.out.later hBW);have HW:=Zaa (HN.out.of (hBW.block _ HN.out.lt));have hb1:Below w1.heap.size w1 W:=hBU.out.trans (hBW.mono hBU.out.size);have hGl: ∀ k,k∈F->u.heap.size < k:=fun k hk=>by have:=HX.out.2.2.ge k hk;omega
  refine hK'.out _ _ ⟨KW.out.blk.cell 0,HW.out.three.1,HW.out.three.2.1,HW.out.three.2.2.1⟩ ?_;try simp only[zz]
  refine rz 7 (h:=fun K' hK'=>?_);refine Zdr Zxq rfl (.tmp 27) (.tmp 29) rfl (Zba.stable (ty:=Zad) 4) (fun _ _ _ _ h=>Z1c h) (L+1) (.slice pr bs.length cr) bs Fb rfl (KW.out.rb:Zag _ _ _ W.drew _ _ _) U1.heap.size #[.slice p c0 c,.slice p1 c1 c2,.slice p2 c3 c4] 38 (0,0) x F rfl NW rfl (Zba.stable (ty:=Zad) 4 _ _ _ _ _ HX.out.2.1 fun k hk=>hb1.block k (HX.out.2.2.lt k hk)) (by have:=HL.out;omega) (by show L+1<=W.heap.size;have:=hsU.out;have:=hsW.out;omega) (KW.out.nb.later lr lr) (HX.out.2.2.later (by omega) hb1.size) (fun k hk hk'=>by have:=HK.out.nb.lt k hk;have:=hGl k hk';omega) ?_;intro g cap w9 F' happ;have hsm:=fun k (h:k < W.heap.size) hf=>happ.same k h hf;have KL:=Zaa (KW.out.blk.of (w':=w9) (hsm L KW.out.blk.lt fun hf=>by have:=KW.out.nb.ge L hf;omega));have HY:=Zaa (HW.out.of (w':=w9) (hsm _ HW.out.lt fun hf=>by have:=HK.out.nb.lt _ hf;omega));have hS1:w9.cell? ⟨L,0,none⟩=some (.slice pr bs.length cr)/\w9.cell? ⟨w1.heap.size,0,none⟩=some (.slice p c0 c)/\w9.cell? ⟨w1.heap.size,1,none⟩=some (.slice p1 c1 c2)/\w9.cell? ⟨w1.heap.size,2,none⟩=some (.slice p2 c3 c4):=⟨KL.out.cell 0,HY.out.three.1,HY.out.three.2.1,HY.out.three.2.2.1⟩;have ks:=KL.out.soft;have FIN:=Zaa (HK.out.appB (B1.out.trans (hb1.mono B1.out.size)).drew (fun k hk=>Nat.le_of_lt (hGl k hk)) happ);refine hK'.out _ _ hS1 ?_;try simp only[zz]
  refine rz 8 (h:=fun K' hK'=>?_);go_simp;refine hK'.out _ _ hS1 ?_;try simp only[zz]
  refine rz 9 (h:=fun K' hK'=>?_);go_simp;refine hK'.out _ _ hS1 ?_;try simp only[zz]
  have c1':=hS1.1;refine rzl (h:=fun K' hK'=>?_);go_simp;refine hK'.out _ _ ?_;try simp only[zz]
  refine dz (h:=?_);clear happ ks c1' hS0 hS1;go_wp2_with fail
  refine⟨rfl,_,(by simp[results,Tryz.results10,go_sem];try rfl),?_⟩;obtain⟨l1,l2,l3,l4,l5,l6⟩:=HL.out;exact Kp.mk FIN.out.1 FIN.out.2 ⟨_,_,_,rfl⟩ ⟨_,rfl⟩ ⟨_,rfl⟩ (by simp;omega) (by omega) (by omega) (by omega) (fun y hy=>by
   rcases Yc2.1 hy with hy | hy
   ·exact l5 y hy
   ·obtain rfl:=Ydt.1 hy;exact⟨s,HX.out.1⟩) l6
theorem Z32 (h:Kp L u n)(hss:s.size<=65536)(Z:Zap a u)(E:Zpm a u):Calls Tryz.prog 10 #[.pointer (some ⟨L,0,none⟩),.agg #[.int .i64 2,.int .i64 A,.string s]] u (Zet L n u):=by
 obtain⟨vb,vp,vk,vc,vy,vr,vd,bs,ys,rs,ds,Fb,Fy,Fr,Fd,H,⟨pp,mp,cp,rfl⟩,⟨tk,rfl⟩,⟨ik,rfl⟩,hl⟩:=h;have HK:=Zaa H;have HL:=Zaa hl;have hL:=H.blk.lt;have C:=Zaa (fun v (hv:Below u.heap.size u v)=>Zue s (by omega) (Z.below hv) (E.below hv));clear H hl Z E;go_enter Tryz.func10,Tryz.ntmps10
 go_wp2_with fail
 have B0:=(Yct u.heap.size u).alloc lr (.cells #[.int .i64 2,.int .i64 A,.string s] 46);refine(C.out _ B0).mono ?_;generalize u.alloc (.cells #[.int .i64 2,.int .i64 A,.string s] 46)=U at*;rintro e w1 ⟨v,m,q,rfl,hk,hb⟩;have B1:=Zaa (B0.trans (hb.mono B0.size));have hsz:=B1.out.size;have K1:=Zaa (HK.out.later B1.out);have KC:=K1.out.blk.cell 1;have KS:=K1.out.blk.soft;have hv: ∃ p' m' c',v= .slice p' m' c':=by
  rcases hk with⟨_,_,rfl⟩ | ⟨_,l,F,_,h3,_⟩
  ·exact⟨_,_,_,rfl⟩
  ·obtain⟨p',c',rfl⟩:=h3.form;exact⟨_,_,_,rfl⟩
 obtain⟨p',m',c',rfl⟩:=hv;clear hk hb B0;by_cases hm:m=0
 ·subst hm;go_wp2_with fail
  refine⟨rfl,_,(by simp[results,Tryz.results10,go_sem];try rfl),?_⟩;obtain⟨l1,l2,l3,l4,l5,l6⟩:=HL.out;exact Kp.mk (K1.out.set 1 _ rfl) ((B1.out.mono (Nat.le_of_lt hL)).setCell lr _) ⟨_,_,_,rfl⟩ ⟨_,rfl⟩ ⟨_,rfl⟩ (by omega) (by omega) (by omega) (by omega) l5 l6
 ·have hm':(m==0)=false:=by simpa using hm
  go_wp2_with fail
  refine⟨rfl,_,(by simp[results,Tryz.results10,go_sem];try rfl),?_⟩;obtain⟨l1,l2,l3,l4,l5,l6⟩:=HL.out;exact Kp.mk K1.out (B1.out.mono (by omega)) ⟨_,_,_,rfl⟩ ⟨_,rfl⟩ ⟨_,rfl⟩ (by omega) (by omega) (by omega) (by omega) l5 l6
theorem Z6k {k:Int}(h:Kp L u n)(hn:n < 65536)(hss:s.size<=65536)(Z:Zap a u)(E:Zpm a u):Calls Tryz.prog 10 #[.pointer (some ⟨L,0,none⟩),.agg #[.int .i64 k,.int .i64 A,.string s]] u (Zet L n u):=by
 by_cases h1:k=1
 ·subst h1;exact Zzt h hn hss Z E
 by_cases h2:k=2
 ·subst h2;exact Z32 h hss Z E
 by_cases h3:k=3
 ·subst h3;exact Z6e h
 by_cases h4:k=4
 ·subst h4;exact Z1k h
 by_cases h5:k=5
 ·subst h5;exact Z05 h hn hss
 by_cases h6:k=6
 ·subst h6;exact Zvz h hn
 by_cases h7:k=7
 ·subst h7;exact Z1u h hn
 exact Z09 h h1 h2 h3 h4 h5 h6 h7
end
end Go.P
namespace Go.P
def Z9f (w:World) (n:Nat) (iv:Value) (wr:World):Prop:= ∃ k:Nat,k<=n/\iv= .int .i64 (k:Int)/\Kp w.heap.size wr k/\Below w.heap.size w wr
theorem Z48 {a:Nat->Addr}{w:World}{p:Option Addr}{c:Nat}{xs:List (Int×Int×ByteArray)}(h:Z6q w p xs)(hl:xs.length < 140737488355328)(Z:Zap a w)(E:Zpm a w):Calls Tryz.prog 4 #[.slice p xs.length c] w fun e w'=>(e= .returned (.tuple #[.pointer none,.bool false])/\w'=w)\/(e= .returned (.tuple #[.pointer (some ⟨w.heap.size,0,none⟩),.bool true])/\Kp w.heap.size w' xs.length/\xs.length<=65536/\Below w.heap.size w w'):=by
 have CS:=Zaa (Z2e (c:=c) h hl);have H:=Zaa h;have HZ:=Zaa (fun u (hu:Below w.heap.size w u)=>Ycs (Z.below hu) (E.below hu));clear h Z E;obtain⟨n,hn⟩: ∃ n,Box (xs.length=n):=⟨_,⟨rfl⟩⟩;rw[hn.out]at hl CS⊢;go_enter Tryz.func4,Tryz.ntmps4
 go_wp2_with fail
 refine CS.out.mono ?_;rintro e w1 ⟨b,rfl,rfl,hb⟩;cases b with
 | false=>
  clear hb;go_wp2_with fail
  go_ret2
  exact .inl ⟨rfl,rfl⟩
 | true=>
  obtain⟨hn1,hs⟩:=hb rfl;have HS:=Zaa hs;clear hb hs CS;go_wp2_with fail
  have K0:Kp w1.heap.size (w1.alloc (.cells #[.slice none 0 0,.slice none 0 0,.string ⟨#[107,101,121]⟩,.int .i64 0,.slice none 0 0,.slice none 0 0,.slice none 0 0] 31)) 0:=⟨_,_,_,_,_,_,_,[],[],[],[],[],[],[],[],⟨Blk.new _ _ _,Zag.nil,Zag.nil,Zag.nil,Zag.nil,Za9.nil _ _,Za9.nil _ _,Za9.nil _ _,Za9.nil _ _,(fun _ h=>by cases h),(fun _ h=>by cases h),(fun _ h=>by cases h)⟩,⟨_,_,_,rfl⟩,⟨_,rfl⟩,⟨_,rfl⟩,by simp,by simp,by simp,by simp,(fun _ h=>by cases h),fun _ h=>by cases h⟩;have HK:=Zaa K0;clear K0;go_loopw [6] (fun iv wr=>Z9f w1 n iv wr) (fun iv _=>n - (intOf iv).toNat)
  case atStart=>exact⟨0,by omega,rfl,HK.out,(Yct _ _).alloc lr _⟩
  case round=>
   obtain⟨k,hk,rfl,hkp,hbw⟩:=hrel;have HB:=Zaa hbw;have HP:=Zaa hkp;by_cases hlt:k < n
   ·have hlt':k < xs.length:=by rw[hn.out];exact hlt
    obtain⟨hs,b,o,rfl,c0,c1,c2⟩:=H.out k xs[k] (Yc0 hlt');have hsz:=HS.out k xs[k] (Yc0 hlt');have d0:=Zac c0 hbw;have d1:=Zac c1 hbw;have d2:=Zac c2 hbw;have ST:=Zaa (fun kk aa ss (hss:ByteArray.size ss<=65536)=>Z6k (k:=kk) (A:=aa) (s:=ss) hkp (by omega) hss (HZ.out _ hbw).1 (HZ.out _ hbw).2);clear c0 c1 c2 hkp hbw;generalize xs[k]=x at*;go_wp2_with fail
    refine(ST.out _ _ _ hsz).mono ?_;rintro e w2 ⟨rfl,hk2,hb2⟩;have HP2:=Zaa (Ycs hk2 (HB.out.trans hb2));clear hk2 hb2 ST d0 d1 d2;go_wp2_with fail
    exact⟨⟨k+1,by omega,by go_num,HP2.out.1,HP2.out.2⟩,by simp[intOf];omega⟩
   ·obtain rfl:k=n:=by omega
    clear hkp hbw;go_wp2_with fail
    go_ret2
    exact .inr ⟨rfl,HP.out,hn1,HB.out⟩
end Go.P
namespace Go.P
theorem Zhl {B D:Nat}{w:World}{p q:Option Addr}{c c':Nat}{xs:List A}(hB:B<=w.heap.size)(hp:Zao 2 (Zbd B w (D+1)) p xs)(hq:Zao 2 (Zbd B w (D+1)) q xs):Calls Tryz.prog 19 #[.slice p xs.length c,.slice q xs.length c'] w fun e w'=>e= .returned (.bool true)/\Below w.heap.size w w':=by
 have hl:=hp.len;have HP:=Zaa hp;have HQ:=Zaa hq;clear hp hq;obtain⟨n,hn⟩: ∃ n,Box (xs.length=n):=⟨_,⟨rfl⟩⟩;rw[hn.out]at hl⊢;go_enter Tryz.func19,Tryz.ntmps19
 go_wp2_with fail
 go_loopw [5] (fun iv wr=>Z33 w n iv wr) (fun iv _=>n - (intOf iv).toNat)
 case atStart=>exact⟨0,by omega,rfl,Yct _ _⟩
 case round=>
  obtain⟨k,hk,rfl,hbw⟩:=hrel;have HB:=Zaa hbw;by_cases hlt:k < n
  ·have hlt':k < xs.length:=by rw[hn.out];exact hlt
   obtain⟨b1,o1,rfl,hx⟩:=HP.out.get k hlt';obtain⟨b2,o2,rfl,hy⟩:=HQ.out.get k hlt';obtain⟨l1,p1,c1,k0,k1,_,_,e1,_,_,r1⟩:=(hx.carry (Za6 hbw hB) lr).vals;cases e1;obtain⟨l2,p2,c2,j0,j1,_,_,e2,_,_,r2⟩:=(hy.carry (Za6 hbw hB) lr).vals;cases e2;have CC:=Zaa (fun u (hu:Below wr.heap.size wr u)=>Zj4 (D+1) (B:=B) (w:=u) (c:=c1) (c':=c2) (Ycu hB (Ycu hbw.size hu.size)) (r1.carry fun _ _ _ t=>t.carry (Za6 hu (Ycu hB hbw.size)) lr) (r2.carry fun _ _ _ t=>t.carry (Za6 hu (Ycu hB hbw.size)) lr));have HX:=Zaa (fun u (hu:Below wr.heap.size wr u)=>Ycs (Ycs (Zac k0 hu) (Zac k1 hu)) (Ycs (Zac j0 hu) (Zac j1 hu)));clear r1 r2 hx hy hbw k0 j0;generalize xs[k]=x at*;go_wp2_with fail
   have hS0:wr.drew.cell? ⟨b1,o1+k*2+1,none⟩=some (.slice p1 x.terms.length c1)/\wr.drew.cell? ⟨b2,o2+k*2+1,none⟩=some (.slice p2 x.terms.length c2):=⟨k1,j1⟩;refine Zaq 10 (fun u=>u.cell? ⟨b1,o1+k*2+1,none⟩=some (.slice p1 x.terms.length c1)/\u.cell? ⟨b2,o2+k*2+1,none⟩=some (.slice p2 x.terms.length c2)) (by kernel_rfl) ?_;refine tf 0 (.slice (some ⟨b1,o1,none⟩) n c) hS0 (hy:=fun _ _=>by go_simp) (h:=?_);try simp only[zz]
   refine tf 1 (.int .i64 (k:Int)) hS0 (hy:=fun _ _=>by go_simp) (h:=?_);try simp only[zz]
   refine tf 2 (.pointer (some ⟨b1,o1+k*2,none⟩)) hS0 (hy:=fun _ _=>by go_simp) (h:=?_);try simp only[zz]
   refine tf 3 (.pointer (some ⟨b1,o1+k*2+1,none⟩)) hS0 (hy:=fun _ _=>by go_simp) (h:=?_);try simp only[zz]
   refine tz 4 (.slice p1 x.terms.length c1) hS0 (hy:=fun _ ⟨s0,s1⟩=>by go_simp) (h:=?_);try simp only[zz]
   refine tf 5 (.slice (some ⟨b2,o2,none⟩) n c') hS0 (hy:=fun _ _=>by go_simp) (h:=?_);try simp only[zz]
   refine tf 6 (.int .i64 (k:Int)) hS0 (hy:=fun _ _=>by go_simp) (h:=?_);try simp only[zz]
   refine tf 7 (.pointer (some ⟨b2,o2+k*2,none⟩)) hS0 (hy:=fun _ _=>by go_simp) (h:=?_);try simp only[zz]
   refine tf 8 (.pointer (some ⟨b2,o2+k*2+1,none⟩)) hS0 (hy:=fun _ _=>by go_simp) (h:=?_);try simp only[zz]
   refine tz 9 (.slice p2 x.terms.length c2) hS0 (hy:=fun _ ⟨s0,s1⟩=>by go_simp) (h:=?_);try simp only[zz]
   refine rzl (h:=fun K' hK'=>?_);go_simp;refine(CC.out _ ((Yct _ wr).drew)).mono ?_;rintro e w2 ⟨rfl,hb2⟩;have B2:=Zaa ((Yct _ wr).drew.trans hb2);refine hK'.out _ _ ?_;try simp only[zz]
   refine ry 11 (h:=fun K' hK'=>?_);go_simp;refine hK'.out _ _ ?_;try simp only[zz]
   refine dz (h:=?_);obtain⟨⟨k0,k1⟩,j0,j1⟩:=HX.out w2 B2.out;clear hb2 hS0;go_wp2_with fail
   go_quiet (fail)
   have B3:=Zaa (HB.out.trans (B2.out.mono HB.out.size));clear k0 k1 j0 j1;go_wp2_with fail
   exact⟨⟨k+1,by omega,by go_num,B3.out.drewK _⟩,by simp[intOf];omega⟩
  ·obtain rfl:k=n:=by omega
   go_wp2_with fail
   go_ret
   exact⟨rfl,HB.out⟩
end Go.P
