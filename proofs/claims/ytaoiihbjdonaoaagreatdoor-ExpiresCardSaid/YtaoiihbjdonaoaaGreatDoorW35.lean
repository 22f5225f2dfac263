import Derived.Test.YtaoiihbjdonaoaaGreatDoorW34
set_option maxRecDepth 100000
set_option maxHeartbeats 8000000
set_option linter.unusedSimpArgs false
open Go.Proofs Go.RowKit Go.W Tryz
namespace Go.W
def PU (A:Nat->Nat) (seen m:Nat):Nat->Nat:=fun k=>if k<m then A k &&& (2 ^ seen-1)else A k
def WT (A:Nat->Nat) (seen i:Nat):Nat->Nat:=KO (PU A seen i) i<|LJ (A i) seen
theorem Ycg (A:Nat->Nat)(seen m:Nat):YD (PU A seen m) m (A m &&& (2 ^ seen-1))=PU A seen (m+1):=by
 funext k
 unfold YD PU;by_cases e:k=m
 ·rw[if_pos e,if_pos zx,e]
 ·rw[if_neg e];by_cases h:k<m
  ·rw[if_pos h,if_pos zx]
  ·rw[if_neg h,if_neg zx]
theorem Ych (A:Nat->Nat)(seen:Nat):PU A seen 0=A:=by
 funext k
 unfold PU;rw[if_neg zx]
theorem Yek (A:Nat->Nat)(seen m:Nat):PU A seen m m=A m:=by
 unfold PU;rw[if_neg zx]
theorem qE {A:Nat->Nat}{seen i j n:Nat}(h:(WT A seen i j).testBit n=true):(A j).testBit n=true:=by
 unfold WT KO PU at h;split at h
 ·rename_i e;subst e;unfold LJ at h;rw[Nat.testBit_and,Bool.and_eq_true]at h;exact h.1
 ·split at h
  ·rw[Nat.testBit_and,Bool.and_eq_true]at h;exact h.1
  ·exact h
def rU (B:Nat->Nat->Nat->Nat) (b:BD) (fs:List Fc) (A:Nat->Nat) (seen m:Nat) (x:Fc):Prop:= ∃ i,i<m/\ZI B b fs b.hs.length 0 (WT A seen i) [] x
theorem Qo.fol {B:Nat->Nat->Nat->Nat}{b:BD}(hb:Uu b){fs D6:List Fc}{A:Nat->Nat}{seen m:Nat}(hA: ∀ j n,(A j).testBit n=true->n<fs.length)(ok: ∀ y,y∈fs->GY y)(len:fs.length<=60){r:Bool}(t:EX (rU B b fs A seen m) fs r D6)(i:Nat):Qo b fs D6 0 (WT A seen i) []:=by
 have base: ∀ i,Qo b fs fs 0 (WT A seen i) []:=fun i=>⟨⟨[],zw⟩,ok,len,fun j n h=>hA j n (qE h),zw,fun _ h=>by cases h⟩;obtain⟨ad,e,had⟩:=t.ext;refine⟨⟨ad,e⟩,fun y hy=>?_,t.len len,fun j n h=>hA j n (qE h),zw,fun _ h=>by cases h⟩;rw[e]at hy;rcases Aj.1 hy with hy | hy
 ·exact ok y hy
 ·obtain⟨i',_,h⟩:=had y hy;exact Zvk hb (base i') h
end Go.W
namespace Go.P
open Go.RowKit Go.W Go.Shelf
attribute [local go_sem] Me
structure Yhm (a:Nat->Addr) (c:Cx) (cs:Array Value) (vs:List T) (B:Nat->Nat->Nat->Nat) (fs:List Fc) (A:Nat->Nat) (seen m:Nat) (F Fo:List Nat) (w wr:World) (D6:List Fc) (F1:List Nat) (Ot:Value) (Jm:List Nat):Prop where
 tl:EX (rU B c.b fs A seen m) fs true D6
 cx:Ctx a c cs D6 vs F1 [] Ot Jm wr
 off:Off (c.q::c.m::(Fo++F)) w wr
 sF: ∀ j,j∈F1->j∈F\/w.heap.size<=j
 sFo: ∀ j,j∈Jm->j∈Fo\/w.heap.size<=j
theorem Z0k {a:Nat->Addr}{c:Cx}{cs:Array Value}{fs:List Fc}{vs:List T}{F:List Nat}{ov:Value}{Fo:List Nat}{A:Nat->Nat}{B:Nat->Nat->Nat->Nat}{w:World}{seen:Nat}(h:Ctx a c cs fs vs F [] ov Fo w)(hT:Hy cs A B)(hH:Uu c.b)(QV:seen<=60)(hA: ∀ j n,(A j).testBit n=true->n<fs.length)(uT: ∀ j,A j<2 ^ 60)(ok: ∀ y,y∈fs->GY y)(len:fs.length<=60)(hne:c.b.at_.length≠0):
  Calls prog 183 #[zq c.q 0,zo (seen:Int)] w fun e w'=>JN (rU B c.b fs A seen c.b.at_.length) a c cs fs vs F [] Fo w e w':=by
 have Yn:=h.rd.atoms.2.1;have q3:=(h.cell 3 zx).trans h.rd.atoms.1;have CB:=AC<|vU seen QV;have H:=AC h;have ne0:((c.b.at_.length:Int)==0)=false:=by rw[BJ];omega
 clear h;refine X9 func183 rfl ?_;simp only[ntmps183,GN,DU,JC,Nat.reduceAdd,Nat.reduceSub,Qu,Qv,Qr,Qt,JU,EC];go_wp2_with fail
 have R0:=AC (show Yhm a c cs vs B fs A seen 0 F Fo w w fs F ov Fo from⟨EX.nil fs fun x ⟨i,h,_⟩=>zx,H.out,Off.refl _ w,fun _ h=> .inl h,fun _ h=> .inl h⟩);have hp6:(2:Nat) ^ seen<=2 ^ 60:=Nat.pow_le_pow_right zx QV;have DK:(2:Nat) ^ 60<2 ^ 64:=zu
 go_loopw [37] (fun iv wr=> ∃ m D6 F1 Ot Jm,m<=c.b.at_.length/\iv= zo (m:Int)/\Yhm a c cs vs B fs A seen m F Fo w wr D6 F1 Ot Jm) (fun iv _=>c.b.at_.length-(intOf iv).toNat)
 case atStart=>exact⟨0,_,_,_,_,zx,rfl,R0.out⟩
 case round=>
  obtain⟨m,D6,F1,Ot,Jm,hm,rfl,hR⟩:=hrel;have RR:=AC hR;by_cases hlt:m<c.b.at_.length
  ·have t0:=(hR.cx.cell 8 zx).trans (hT.a 0 zx).1;have t1:=(hR.cx.cell 9 zx).trans (hT.a 1 zx).1;have t2:=(hR.cx.cell 10 zx).trans (hT.a 2 zx).1;have t3:=(hR.cx.cell 11 zx).trans (hT.a 3 zx).1;have HC:=AC fun u (hu:Bl wr u)=>Yds (hR.cx.below hu) hT hH (Qo.fol hH hA ok len hR.tl m);have Ea:c.q<wr.heap.size:=hR.cx.bd.blk.lt;have Si:(m:Int)<4:=zx
   clear hR;go_wp2_with fail
   obtain⟨W1,hW1⟩: ∃ W1,AF (wr.alloc (.cells (D7 A) 309)=W1):=⟨_,⟨rfl⟩⟩;have dx:=hW1.out;unfold D7 at dx;rw[dx];clear dx;have N1:AF (AO W1 wr.heap.size (D7<|PU A seen 0) 309/\Bl wr W1):=⟨by rw[Ych,<- hW1.out];exact⟨AO.new wr _ _,(AR _ wr).alloc lr _⟩⟩;have SR:AF (∀ (u:World) (k z:Nat),k<4->A k &&& (2 ^ seen-1)=z->AO u wr.heap.size (D7<|PU A seen k) 309->Bl wr u->AO (u.setCell (zm wr.heap.size k)<|.int .u64 (z:Int)).drew wr.heap.size (D7<|PU A seen<|k+1) 309/\Bl wr (u.setCell (zm wr.heap.size k)<|.int .u64 (z:Int)).drew):=⟨fun u k z hk hz h1 h2=>⟨by
    have:=h1.set k<|.int .u64 (z:Int)
    rw[vM _ hk,<- hz,Ycg]at this;rw[<- hz];exact this.of rfl,(h2.setCell lr _).drew⟩⟩
   have SZ:AF (∀ u:World,AO u wr.heap.size (D7<|PU A seen m) 309->Bl wr u->AO (u.setCell (zm wr.heap.size m)<|.int .u64 (LJ (A m) seen:Int)).drew wr.heap.size (D7<|WT A seen m) 309/\Bl wr (u.setCell (zm wr.heap.size m)<|.int .u64 (LJ (A m) seen:Int)).drew):=⟨fun u h1 h2=>⟨by
    have:=h1.set m<|.int .u64 (LJ (A m) seen:Int)
    rw[vM _ zx]at this;exact this.of rfl,(h2.setCell lr _).drew⟩⟩
   have hsz:w.heap.size<=wr.heap.size:=RR.out.off.size;clear t0 t1 t2 t3;go_loopw [45] (fun iv u=> ∃ k:Nat,k<=m/\iv= zo (k:Int)/\AO u wr.heap.size (D7<|PU A seen k) 309/\Bl wr u) (fun iv _=>m-(intOf iv).toNat)
   case atStart=>exact⟨0,zx,rfl,N1.out⟩
   case round=>
    obtain⟨k,hk,rfl,aU,hBl⟩:=hrel;have KK:=AC<|AJ aU hBl;have QZ:k<4:=zx
    by_cases hkm:k<m
    ·have ck:=(aU.cell k).trans<|fe (PU A seen k) QZ;rw[Yek]at ck;have sk:=aU.soft;have hk4:(k:Int)<4:=zx
     obtain⟨z,hz⟩: ∃ z,AF (A k &&& (2 ^ seen-1)=z):=⟨_,⟨rfl⟩⟩;have e1:bits BinOp.and IntKind.u64 (A k:Int) ((2 ^ seen-1:Nat):Int)=(z:Int):=by rw[<- hz.out];exact u64_and_nat _ _ (by have:=uT k;omega) zx
     clear aU hBl;go_wp2
     go_region_with ((go_at_call 214;refine(CB.out _).mono ?_;rintro e _ ⟨rfl,rfl⟩))
     all_goals
      go_wp2
      go_roundw
      case rel=>exact⟨k+1,zx,by go_num,SR.out _ k z QZ hz.out KK.out.1 KK.out.2⟩
      case measure=>simp[intOf];omega
    ·obtain rfl:k=m:=zx
     have ck:=(aU.cell k).trans<|fe (PU A seen k) QZ;rw[Yek]at ck;have sk:=aU.soft;have e2:bits BinOp.andNot IntKind.u64 (A k:Int) ((2 ^ seen-1:Nat):Int)=(LJ (A k) seen:Int):=by
      rw[u64_andNot_nat _ _ (by have:=uT k;omega) zx];rfl
     have ZZ:=AC<|SZ.out _ aU hBl;have zb:=ZZ.out.1;unfold D7 at zb;obtain⟨k0,k1,k2,k3,_⟩:=zb.four;have C1:=AC<|HC.out _ ZZ.out.2;unfold D7 at C1;clear aU hBl;go_wp2
     go_region_with ((go_at_call 214;refine(CB.out _).mono ?_;rintro e _ ⟨rfl,rfl⟩))
     all_goals
      go_wp2_with fail
      refine C1.out.mono ?_;rintro e w9 ⟨r2,MG,F2,Q7,XP,rfl,E5,hc2,FM,hF2,WM⟩;have OO:=(RR.out.off.trans (Off.of (F:=[]) ZZ.out.2) fun _ h=>(by cases h)).trans FM fun j hj=>by
       simp only[Ak,Aj]at hj⊢;rcases hj with h | h | h | h
       ·exact .inl<|.inl h
       ·exact .inl<|.inr<|.inl h
       ·exact(RR.out.sFo j h).imp (fun h=> .inr (.inr<|.inl h)) id
       ·exact(RR.out.sF j h).imp (fun h=> .inr (.inr<|.inr h)) id
      have hz9:=ZZ.out.2.size;have sF: ∀ j,j∈F2->j∈F\/w.heap.size<=j:=fun j hj=>(hF2 j hj).elim (RR.out.sF j) fun h=> .inr (Ab hsz<|Ab hz9 h);have sFo: ∀ j,j∈XP->j∈Fo\/w.heap.size<=j:=fun j hj=>(WM j hj).elim (RR.out.sFo j) fun h=> .inr (Ab hsz<|Ab hz9 h);have TL:EX (rU B c.b fs A seen<|k+1) fs r2 MG:=RR.out.tl.seq E5 fun x=>by
       constructor
       ·rintro⟨i,hi,hx⟩;by_cases e:i=k
        ·subst e;exact .inr hx
        ·exact .inl ⟨i,zx,hx⟩
       ·rintro(⟨i,hi,hx⟩ | hx)
        ·exact⟨i,zx,hx⟩
        ·exact⟨k,zx,hx⟩
      have EE:=AC<|AJ TL<|AJ hc2<|AJ OO<|AJ sF sFo;clear TL hc2 OO sF sFo E5 FM hF2 WM k0 k1 k2 k3;cases r2 with
      | false=>
       go_wp2
       refine Bg (v:= .bool false) (by simp[results,results183,go_sem]) rfl ?_;obtain⟨TL,hc2,OO,sF,sFo⟩:=EE.out;exact JN.mk false (TL.stop fun x ⟨i,hi,hx⟩=>⟨i,zx,hx⟩) hc2 OO sF sFo
      | true=>
       go_wp2
       go_roundw
       case rel=>
        obtain⟨TL,hc2,OO,sF,sFo⟩:=EE.out;exact⟨k+1,MG,F2,Q7,XP,zx,by go_num,TL,hc2,OO,sF,sFo⟩
       case measure=>simp[intOf];omega
  ·obtain rfl:m=c.b.at_.length:=zx
   clear hR;go_wp2
   refine Bg (v:= .bool true) (by simp[results,results183,go_sem]) rfl ?_;exact JN.mk true RR.out.tl RR.out.cx RR.out.off RR.out.sF RR.out.sFo
end Go.P
namespace Go.P
open Go.RowKit Go.W Go.Shelf
attribute [local go_sem] Me
theorem Zqs {a:Nat->Addr}{c:Cx}{cs:Array Value}{fs:List Fc}{vs:List T}{F:List Nat}{ov:Value}{Fo:List Nat}{w:World}{seen:Nat}(h:Ctx a c cs fs vs F [] ov Fo w)(hK:ui vs [] c.b.gs)(hH:Uu c.b)(ok: ∀ y,y∈fs->GY y)(len:fs.length<=60)(hz:c.b.at_.length=0):
  Calls prog 183 #[zq c.q 0,zo (seen:Int)] w fun e w'=>JN (fun x=>Gf vs [] c.b.gs=true/\x=(c.b.hd.1,FF [] c.b.hd.2)) a c cs fs vs F [] Fo w e w':=by
 obtain⟨po,co,rfl⟩:=h.bd.row.form;simp only[List.map_nil,JC]at h;obtain⟨ph,ch,c2,hrow,_⟩:=h.rd.head;have c3:=h.rd.atoms.1;rw[hz]at c3;have HX:AF (∀ u,Bl w u->(u.cell? (zm c.q 0)=some (zq c.p 0)/\u.cell? (zm c.q 1)=some (.string c.b.hd.1)/\u.cell? (zm c.q 2)=some (.slice ph c.b.hd.2.length ch)/\u.cell? (zm c.q 6)=some (.map<|some c.m)/\u.cell? (zm c.q 7)=some (.slice po 0 co))/\u.cell? (zm c.q 3)=some (.slice c.pa (0:Nat) c.ca)):=⟨fun u hu=>by
  have h':=h.below hu;exact⟨⟨(h'.cell 0 zx).trans h.rd.c0,(h'.cell 1 zx).trans h.rd.c1,(h'.cell 2 zx).trans c2,h'.bd.cells.1,h'.bd.cells.2.1⟩,(h'.cell 3 zx).trans c3⟩⟩
 have CA:=AC fun u (hu:Bl w u)=>Zm4 (h.below hu) hK;have HF:AF (∀ u,Bl w u->Calls prog 180 #[.agg #[.string c.b.hd.1,.slice ph c.b.hd.2.length ch],.agg #[.map<|some c.m,.slice po 0 co]] u fun e w'=>e= .returned (.agg (Dq (c.b.hd.1,FF [] c.b.hd.2)).toArray)/\Bl u w'):=⟨fun u hu=>by
  have h':=h.below hu;obtain⟨ph',ch',pP,hrow',h6⟩:=h'.rd.head;rw[c2]at pP;injection pP with e;injection e with e1 e2 e3;subst e1 e3;exact Zna (.inr ⟨c.m,rfl,h'.bd.map⟩) (fun m' e=>by cases e;exact h'.bd.map.lt) po _ co hrow' h'.rd.lS h6 _⟩
 have HJ:=AC fun u (hu:Bl w u)=>Zvs (h.below hu).wd (c.b.hd.1,FF [] c.b.hd.2) (Z0n hH (fun _ h=>by cases h)) ok len;have nq:c.q∉F:=fun e=>(h.dB c.q zw).1 e;have lq:=h.bd.blk.lt;have H:=AC h;have TO:=AC<|EX.one fs (c.b.hd.1,FF [] c.b.hd.2);have q3:=(HX.out w<|AR _ w).2;clear h c2 c3 hrow;generalize (c.b.hd.1,FF [] c.b.hd.2)=fx at*;obtain⟨ag,OY⟩: ∃ ag,AF (Gf vs [] c.b.gs=ag):=⟨_,⟨rfl⟩⟩;rw[OY.out]at CA⊢;refine X9 func183 rfl ?_;simp only[ntmps183,GN,DU,JC,Nat.reduceAdd,Nat.reduceSub,Qu,Qv,Qr,Qt,JU,EC];cases ag with
 | false=>
  go_wp2_with fail
  refine(CA.out _<|AR _ w).mono ?_;rintro e w5 ⟨rfl,hb⟩;have q35:=(HX.out w5 hb).2;have HB:=AC hb;clear hb;go_wp2
  refine YA 1 ?_;rw[Tt];go_wp2
  refine Bg (v:= .bool true) (by simp[results,results183,go_sem]) rfl ?_;exact JN.mk true (EX.nil fs fun x hx=>by cases hx.1) (H.out.below HB.out) (Off.of HB.out) (fun _ h=> .inl h) fun _ h=> .inl h
 | true=>
  go_wp2_with fail
  refine(CA.out _<|AR _ w).mono ?_;rintro e w5 ⟨rfl,hb⟩;have HB:=AC hb.drew;have AY:=(HX.out _ hb.drew).1;clear hb;go_wp2_with fail
  obtain⟨jr,hjr⟩: ∃ jr,AF (TI fs fx=jr):=⟨_,⟨rfl⟩⟩;rw[hjr.out]at HJ TO;refine Z1y (fun a' w'=>a'.tmps[4]?=some (.bool jr.1)/\a'.defers=[]/\ ∃ F',Df w' c.p jr.2 vs F'/\Off F w w'/\ ∀ i,i∈F'->i∈F\/w.heap.size<=i) ?_ ?_
  ·refine Zh (S:=fun u=>u.cell? (zm c.q 0)=some (zq c.p 0)/\u.cell? (zm c.q 1)=some (.string c.b.hd.1)/\u.cell? (zm c.q 2)=some (.slice ph c.b.hd.2.length ch)/\u.cell? (zm c.q 6)=some (.map<|some c.m)/\u.cell? (zm c.q 7)=some (.slice po 0 co)) zt ?_;change wpAnyH _ _ _ _ _ _ _ _ (World.drew _);refine tk 0 (zq c.q 0) AY ?_;try simp only[zz]
   refine tk 1 (zq c.q 0) AY ?_;try simp only[zz]
   refine tk 2 (zq c.q 0) AY ?_;try simp only[zz]
   refine tk 3 (zq c.p 0) AY (hy:=fun _ ⟨s0,s1,s2,s3,s4⟩=>by go_simp) ?_;try simp only[zz]
   refine tk 4 (zq c.q 0) AY ?_;try simp only[zz]
   refine tk 5 (zq c.q 0) AY ?_;try simp only[zz]
   refine tk 6 (zq c.q 1) AY ?_;try simp only[zz]
   refine tk 7 (.agg #[.string c.b.hd.1,.slice ph c.b.hd.2.length ch]) AY (hy:=fun _ ⟨s0,s1,s2,s3,s4⟩=>by go_simp) ?_;try simp only[zz]
   refine tk 8 (zq c.q 0) AY ?_;try simp only[zz]
   refine tk 9 (zq c.q 0) AY ?_;try simp only[zz]
   refine tk 10 (zq c.q 6) AY ?_;try simp only[zz]
   refine tk 11 (.agg #[.map<|some c.m,.slice po 0 co]) AY (hy:=fun _ ⟨s0,s1,s2,s3,s4⟩=>by go_simp) ?_;try simp only[zz]
   refine MZ (rs:=[12]) zt zw<|ND rfl (fun K' hK'=>?_) M8;go_simp;refine(HF.out _ HB.out).mono ?_;rintro e w6 ⟨rfl,Gp⟩;have B6:=HB.out.trans<|Gp.mono HB.out.size;have Sm:=(HX.out w6 B6).1;refine hK'.out _ _ Sm fun _=>?_;try simp only[zz]
   refine MZ (rs:=[13]) zt zw<|ND rfl (fun K' hK'=>?_) M8;go_simp;refine(HJ.out _ B6).mono ?_;rintro e w7 ⟨rfl,F',XX,NJ,PY⟩;have yI:c.q<w6.heap.size:=BK lq B6.size;have eq:=NJ.block c.q yI nq;have cell: ∀ j,w7.cell? (zm c.q j)=w6.cell? (zm c.q j):=fun j=>A9 (a:=(zm c.q j)) eq;have JZ:=AJ ((cell 0).trans Sm.1)<|AJ ((cell 1).trans Sm.2.1)<|AJ ((cell 2).trans Sm.2.2.1)<|AJ ((cell 6).trans Sm.2.2.2.1)<|(cell 7).trans Sm.2.2.2.2;refine hK'.out _ _ JZ fun _=>?_;try simp only[zz]
   refine tk 14 (.bool jr.1) JZ ?_;try simp only[zz]
   refine Uy zt ?_ _;exact⟨rfl,rfl,F',XX,(Off.of B6).trans NJ fun _ h=> .inl h,fun i hi=>(PY i hi).imp id fun h=>Ab B6.size h⟩
  rintro a' w' ⟨h6,hd,F',XX,NJ,PY⟩;go_wp2
  refine Bg (v:= .bool jr.1) (by rw[results_tmp rfl,Array.getD_eq_getD_getElem?,h6];rfl) hd ?_;refine JN.mk jr.1 (TO.out.dA fun x=>zw) (H.out.world XX NJ PY) (NJ.mono fun i hi=>by simp[hi]) PY fun _ h=> .inl h
end Go.P
namespace Go.W
def Zzl (B:Nat->Nat->Nat->Nat) (b:BD) (vs:List T) (fs:List Fc) (A:Nat->Nat) (seen:Nat) (x:Fc):Prop:=(b.at_.length=0/\Gf vs [] b.gs=true/\x=(b.hd.1,FF [] b.hd.2))\/rU B b fs A seen b.at_.length x
end Go.W
namespace Go.P
open Go.RowKit Go.W Go.Shelf
variable {a:Nat->Addr}{cs:Array Value}{vs:List T}{F Fo:List Nat}{w:World}
theorem JN.dA {H J:Fc->Prop}{c:Cx}{fs:List Fc}{xs:Bn}{w':World}{e:Ending}(h:JN H a c cs fs vs F xs Fo w e w')(k: ∀ x,H x↔J x):JN J a c cs fs vs F xs Fo w e w':=by
 obtain⟨r,fs',F',Br,Au,rfl,h1,h2,h3,h4,h5⟩:=h;exact JN.mk r (h1.dA k) h2 h3 h4 h5
theorem Z5g {c:Cx}{fs:List Fc}{ov:Value}{A:Nat->Nat}{B:Nat->Nat->Nat->Nat}{seen:Nat}(h:Ctx a c cs fs vs F [] ov Fo w)(hT:Hy cs A B)(hK:ui vs [] c.b.gs)(hH:Uu c.b)(QV:seen<=60)(hA: ∀ j n,(A j).testBit n=true->n<fs.length)(uT: ∀ j,A j<2 ^ 60)(ok: ∀ y,y∈fs->GY y)(len:fs.length<=60):
  Calls prog 183 #[zq c.q 0,zo (seen:Int)] w fun e w'=>JN (Zzl B c.b vs fs A seen) a c cs fs vs F [] Fo w e w':=by
 by_cases hz:c.b.at_.length=0
 ·refine(Zqs h hK hH ok len hz).mono fun e w' q=>q.dA fun x=>⟨fun e=> .inl ⟨hz,e⟩,fun e=>?_⟩;rcases e with e | ⟨i,hi,_⟩
  ·exact e.2
  ·omega
 ·refine(Z0k h hT hH QV hA uT ok len hz).mono fun e w' q=>q.dA fun x=>⟨.inr,fun e=>?_⟩;rcases e with e | e
  ·exact absurd e.1 hz
  ·exact e
end Go.P
