import Derived.Test.YtpmcefkhkkpnbaaGreatDoorW30
import Derived.Laws.StructEq
set_option linter.all false
set_option maxRecDepth 100000
set_option maxHeartbeats 8000000
open Go.Proofs Go.RowKit Go.W Tryz
namespace Go.W
section
variable [Mem]
def PU (A:Nat->Nat) (seen m:Nat):Nat->Nat:=fun k=>if k<m then A k &&& (2 ^ seen-1)else A k
def WT (A:Nat->Nat) (seen i:Nat):Nat->Nat:=KO (PU A seen i) i<|LJ (A i) seen
def Ycg (A:Nat->Nat)(seen m:Nat):YD (PU A seen m) m (A m &&& (2 ^ seen-1))=PU A seen (m+1):=by
 funext k
 unfold YD PU;by_cases e:k=m
 .rw[xj e,xj zx,e]
 .rw[xd e];by_cases h:k<m
  .rw[xj h,xj zx]
  .rw[xd h,xd zx]
def Ych (A:Nat->Nat)(seen:Nat):PU A seen 0=A:=by
 funext k
 unfold PU;rw[xd zx]
def Yek (A:Nat->Nat)(seen m:Nat):PU A seen m m=A m:=by
 unfold PU;rw[xd zx]
def qE {A:Nat->Nat}{seen i j n:Nat}(h:(WT A seen i j).testBit n=true):(A j).testBit n=true:=by
 unfold WT KO PU at h;split at h
 .rename_i e;subst e;unfold LJ at h;rw[Nat.testBit_and,wx]at h;exact h.1
 .split at h
  .rw[Nat.testBit_and,wx]at h;exact h.1
  .exact h
def rU (B:Nat->Nat->Nat->Nat) (b:BD) (fs:List Fc) (A:Nat->Nat) (seen m:Nat) (x:Fc):Prop:= ∃ i,i<m/\ZI B b fs b.hs.length 0 (WT A seen i) [] x
def Qo.fol {B:Nat->Nat->Nat->Nat}{b:BD}(hb:Uu b){fs D6:List Fc}{A:Nat->Nat}{seen m:Nat}(hA: ∀ j n,(A j).testBit n=true->n<fs.length)(ok: ∀ y,y∈fs->GY y)(len:fs.length<=60){r:Bool}(t:EX (rU B b fs A seen m) fs r D6)(i:Nat):Qo b fs D6 0 (WT A seen i) []:=by
 have base: ∀ i,Qo b fs fs 0 (WT A seen i) []:=fun i=>⟨⟨[],zw⟩,ok,len,fun j n h=>hA j n (qE h),zw,fun _ h=>by cases h⟩;obtain⟨ad,e,had⟩:=t.ext;refine⟨⟨ad,e⟩,fun y hy=>?_,t.len len,fun j n h=>hA j n (qE h),zw,fun _ h=>by cases h⟩;rw[e]at hy;rcases Aj.1 hy with hy | hy
 .exact ok y hy
 .obtain⟨i',_,h⟩:=had y hy;exact Zvk hb (base i') h
end
section
open Go.Shelf
variable [Mem]
attribute [local go_sem] Me
structure Yhm (a:Nat->Addr) (c:Cx) (cs:Ca) (vs:List T) (B:Nat->Nat->Nat->Nat) (fs:List Fc) (A:Nat->Nat) (seen m:Nat) (F Fo:Cg) (w wr:Bb) (D6:List Fc) (F1:Cg) (Ot:Value) (Jm:Cg):Prop where
 tl:EX (rU B c.b fs A seen m) fs true D6
 cx:Ctx a c cs D6 vs F1 [] Ot Jm wr
 off:Off (c.q::c.m::(Fo++F)) w wr
 sF: ∀ j,j∈F1->j∈F\/w.heap.size<=j
 sFo: ∀ j,j∈Jm->j∈Fo\/w.heap.size<=j
def Z0k {a:Nat->Addr}{c:Cx}{cs:Ca}{fs:List Fc}{vs:List T}{F:Cg}{ov:Value}{Fo:Cg}{A:Nat->Nat}{B:Nat->Nat->Nat->Nat}{w:Bb}{seen:Nat}(h:Ctx a c cs fs vs F [] ov Fo w)(hT:Hy cs A B)(hH:Uu c.b)(QV:seen<=60)(hA: ∀ j n,(A j).testBit n=true->n<fs.length)(uT: ∀ j,A j<2 ^ 60)(ok: ∀ y,y∈fs->GY y)(len:fs.length<=60)(hne:c.b.at_.length≠0):
  Calls prog 115 #[zq c.q 0,zo (seen:Int)] w fun e w'=>JN (rU B c.b fs A seen c.b.at_.length) a c cs fs vs F [] Fo w e w':=by
 have Yn:=h.rd.atoms.2.1;have q3:=(h.cell 3 zx).trans h.rd.atoms.1;have CB:=AC<|vU seen QV;have H:=AC h;have ne0:((c.b.at_.length:Int)==0)=false:=zj
 clear h;refine X9 func115 rfl ?_;simp only[ntmps115,GN,DU,JC,Nat.reduceAdd,Nat.reduceSub,Qu,Qv,Qr,Qt,JU,EC];go_wp2_with fail
 have R0:=AC (show Yhm a c cs vs B fs A seen 0 F Fo w w fs F ov Fo from⟨EX.nil fs fun x ⟨i,h,_⟩=>zx,H.o,Off.refl _ w,fun _ h=> .inl h,fun _ h=> .inl h⟩);have hp6:(2:Nat) ^ seen<=2 ^ 60:=wi zx QV;have DK:(2:Nat) ^ 60<2 ^ 64:=zu
 go_loopw [37] (fun iv wr=> ∃ m D6 F1 Ot Jm,m<=c.b.at_.length/\iv= zo (m:Int)/\Yhm a c cs vs B fs A seen m F Fo w wr D6 F1 Ot Jm) (fun iv _=>c.b.at_.length-(intOf iv).toNat)
 .exact⟨0,_,_,_,_,zx,rfl,R0.o⟩
 .obtain⟨m,D6,F1,Ot,Jm,hm,rfl,hR⟩:=hrel;have RR:=AC hR;by_cases hlt:m<c.b.at_.length
  .have t0:=(hR.cx.cell 8 zx).trans (hT.a 0 zx).1;have t1:=(hR.cx.cell 9 zx).trans (hT.a 1 zx).1;have t2:=(hR.cx.cell 10 zx).trans (hT.a 2 zx).1;have t3:=(hR.cx.cell 11 zx).trans (hT.a 3 zx).1;have HC:=AC fun u (hu:Bl wr u)=>Yds (hR.cx.be hu) hT hH (Qo.fol hH hA ok len hR.tl m);have Ea:c.q<wr.heap.size:=hR.cx.bd.blk.lt;have Si:(m:Int)<4:=zx
   clear hR;go_wp2_with fail
   obtain⟨W1,hW1⟩:=cK (wr.alloc (.cells (D7 A) 307));have dx:=hW1.o;unfold D7 at dx;rw[dx];clear dx;have N1:AF (AO W1 wr.heap.size (D7<|PU A seen 0) 307/\Bl wr W1):=⟨by rw[Ych,<- hW1.o];exact⟨AO.new wr _ _,(AR _ wr).alloc lr _⟩⟩;have SR:AF (∀ (u:Bb) (k z:Nat),k<4->A k &&& (2 ^ seen-1)=z->AO u wr.heap.size (D7<|PU A seen k) 307->Bl wr u->AO (u.setCell (zm wr.heap.size k)<|.int .u64 (z:Int)).drew wr.heap.size (D7<|PU A seen<|k+1) 307/\Bl wr (u.setCell (zm wr.heap.size k)<|.int .u64 (z:Int)).drew):=⟨fun u k z hk hz h1 h2=>⟨by
    have:=h1.set k<|.int .u64 (z:Int)
    rw[vM _ hk,<- hz,Ycg]at this;rw[<- hz];exact this.of rfl,(h2.setCell lr _).drew⟩⟩
   have SZ:AF (∀ u:Bb,AO u wr.heap.size (D7<|PU A seen m) 307->Bl wr u->AO (u.setCell (zm wr.heap.size m)<|.int .u64 (LJ (A m) seen:Int)).drew wr.heap.size (D7<|WT A seen m) 307/\Bl wr (u.setCell (zm wr.heap.size m)<|.int .u64 (LJ (A m) seen:Int)).drew):=⟨fun u h1 h2=>⟨by
    have:=h1.set m<|.int .u64 (LJ (A m) seen:Int)
    rw[vM _ zx]at this;exact this.of rfl,(h2.setCell lr _).drew⟩⟩
   have hsz:w.heap.size<=wr.heap.size:=RR.o.off.size;clear t0 t1 t2 t3;go_loopw [45] (fun iv u=> ∃ k:Nat,k<=m/\iv= zo (k:Int)/\AO u wr.heap.size (D7<|PU A seen k) 307/\Bl wr u) (fun iv _=>m-(intOf iv).toNat)
   .exact⟨0,zx,rfl,N1.o⟩
   .obtain⟨k,hk,rfl,aU,hBl⟩:=hrel;have KK:=AC<|AJ aU hBl;have QZ:k<4:=zx
    by_cases hkm:k<m
    .have ck:=(aU.cell k).trans<|fe (PU A seen k) QZ;rw[Yek]at ck;have sk:=aU.soft;have hk4:(k:Int)<4:=zx
     obtain⟨z,hz⟩:=cK (A k &&& (2 ^ seen-1));have e1:bits BinOp.and IntKind.u64 (A k:Int) ((2 ^ seen-1:Nat):Int)=(z:Int):=by rw[<- hz.o];exact u64_and_nat _ _ (fw (uT k)) zx
     clear aU hBl;go_wp2
     go_region_with ((go_at_call 172;apply(CB.o _).mono;rintro e _ ⟨rfl,rfl⟩))
     all_goals
      go_wp2
      go_roundw
      .exact⟨k+1,zx,by go_num,SR.o _ k z QZ hz.o KK.o.1 KK.o.2⟩
      simp[intOf];omega
    .obtain rfl:k=m:=zx
     have ck:=(aU.cell k).trans<|fe (PU A seen k) QZ;rw[Yek]at ck;have sk:=aU.soft;have e2:bits BinOp.andNot IntKind.u64 (A k:Int) ((2 ^ seen-1:Nat):Int)=(LJ (A k) seen:Int):=by
      rw[u64_andNot_nat _ _ (fw (uT k)) zx];rfl
     have ZZ:=AC<|SZ.o _ aU hBl;have zb:=ZZ.o.1;unfold D7 at zb;obtain⟨k0,k1,k2,k3,_⟩:=zb.four;have C1:=AC<|HC.o _ ZZ.o.2;unfold D7 at C1;clear aU hBl;go_wp2
     go_region_with ((go_at_call 172;apply(CB.o _).mono;rintro e _ ⟨rfl,rfl⟩))
     all_goals
      go_wp2_with fail
      apply C1.o.mono;rintro e w9 ⟨r2,MG,F2,Q7,XP,rfl,E5,hc2,FM,hF2,WM⟩;have OO:=(RR.o.off.trans (Off.of (F:=[]) ZZ.o.2) fun _ h=>(by cases h)).trans FM fun j hj=>by
       simp only[Ak,Aj]at hj⊢;rcases hj with h | h | h | h
       .exact .inl<|.inl h
       .exact .inl<|.inr<|.inl h
       .exact(RR.o.sFo j h).imp (fun h=> .inr (.inr<|.inl h)) id
       .exact(RR.o.sF j h).imp (fun h=> .inr (.inr<|.inr h)) id
      have hz9:=ZZ.o.2.size;have sF: ∀ j,j∈F2->j∈F\/w.heap.size<=j:=fun j hj=>(hF2 j hj).elim (RR.o.sF j) fun h=> .inr (Ab hsz<|Ab hz9 h);have sFo: ∀ j,j∈XP->j∈Fo\/w.heap.size<=j:=fun j hj=>(WM j hj).elim (RR.o.sFo j) fun h=> .inr (Ab hsz<|Ab hz9 h);have TL:EX (rU B c.b fs A seen<|k+1) fs r2 MG:=RR.o.tl.seq E5 fun x=>by
       constructor
       .rintro⟨i,hi,hx⟩;by_cases e:i=k
        .subst e;exact .inr hx
        .exact .inl ⟨i,zx,hx⟩
       .rintro(⟨i,hi,hx⟩ | hx)
        .exact⟨i,zx,hx⟩
        .exact⟨k,zx,hx⟩
      have EE:=AC<|AJ TL<|AJ hc2<|AJ OO<|AJ sF sFo;clear TL hc2 OO sF sFo E5 FM hF2 WM k0 k1 k2 k3;cases r2 with
      | false=>
       go_wp2
       refine Bg (v:= .bool false) (by simp[results,results115,go_sem]) rfl ?_;obtain⟨TL,hc2,OO,sF,sFo⟩:=EE.o;exact JN.mk false (TL.stop fun x ⟨i,hi,hx⟩=>⟨i,zx,hx⟩) hc2 OO sF sFo
      | true=>
       go_wp2
       go_roundw
       .obtain⟨TL,hc2,OO,sF,sFo⟩:=EE.o;exact⟨k+1,MG,F2,Q7,XP,zx,by go_num,TL,hc2,OO,sF,sFo⟩
       simp[intOf];omega
  .obtain rfl:m=c.b.at_.length:=zx
   clear hR;go_wp2
   refine Bg (v:= .bool true) (by simp[results,results115,go_sem]) rfl ?_;exact JN.mk true RR.o.tl RR.o.cx RR.o.off RR.o.sF RR.o.sFo
end
end Go.W
set_option linter.unusedSectionVars false
namespace Go.W
section
open Go.Shelf
variable [Mem]
attribute [local go_sem] Me
def Zqs {a:Nat->Addr}{c:Cx}{cs:Ca}{fs:List Fc}{vs:List T}{F:Cg}{ov:Value}{Fo:Cg}{w:Bb}{seen:Nat}(h:Ctx a c cs fs vs F [] ov Fo w)(hK:ui vs [] c.b.gs)(hH:Uu c.b)(ok: ∀ y,y∈fs->GY y)(len:fs.length<=60)(hz:c.b.at_.length=0):
  Calls prog 115 #[zq c.q 0,zo (seen:Int)] w fun e w'=>JN (fun x=>Gf vs [] c.b.gs=true/\x=(c.b.hd.1,FF [] c.b.hd.2)) a c cs fs vs F [] Fo w e w':=by
 obtain⟨po,co,rfl⟩:=h.bd.row.form;simp only[List.map_nil,JC]at h;obtain⟨ph,ch,c2,hrow,_⟩:=h.rd.head;have c3:=h.rd.atoms.1;rw[hz]at c3;have HX:AF (∀ u,Bl w u->(u.cell? (zm c.q 0)=some (zq c.p 0)/\u.cell? (zm c.q 1)=some (um c.b.hd.1)/\u.cell? (zm c.q 2)=some (sP ph c.b.hd.2.length ch)/\u.cell? (zm c.q 6)=some (.map<|some c.m)/\u.cell? (zm c.q 7)=some (sP po 0 co))/\u.cell? (zm c.q 3)=some (sP c.pa (0:Nat) c.ca)):=⟨fun u hu=>by
  have h':=h.be hu;exact⟨⟨(h'.cell 0 zx).trans h.rd.c0,(h'.cell 1 zx).trans h.rd.c1,(h'.cell 2 zx).trans c2,h'.bd.cells.1,h'.bd.cells.2.1⟩,(h'.cell 3 zx).trans c3⟩⟩
 have CA:=AC fun u (hu:Bl w u)=>Zm4 (h.be hu) hK;have HF:AF (∀ u,Bl w u->Calls prog 112 #[.agg #[um c.b.hd.1,sP ph c.b.hd.2.length ch],.agg #[.map<|some c.m,sP po 0 co]] u fun e w'=>e=uY (.agg (Dq (c.b.hd.1,FF [] c.b.hd.2)).toArray)/\Bl u w'):=⟨fun u hu=>by
  have h':=h.be hu;obtain⟨ph',ch',pP,hrow',h6⟩:=h'.rd.head;rw[c2]at pP;injection pP with e;injection e with e1 e2 e3;subst e1 e3;exact Zna (.inr ⟨c.m,rfl,h'.bd.map⟩) (fun m' e=>by cases e;exact h'.bd.map.lt) po _ co hrow' h'.rd.lS h6 _⟩
 have HJ:=AC fun u (hu:Bl w u)=>Zvs (h.be hu).wd (c.b.hd.1,FF [] c.b.hd.2) (Z0n hH (fun _ h=>by cases h)) ok len;have nq:c.q∉F:=fun e=>(h.dB c.q zw).1 e;have lq:=h.bd.blk.lt;have H:=AC h;have TO:=AC<|EX.one fs (c.b.hd.1,FF [] c.b.hd.2);have q3:=(HX.o w<|AR _ w).2;clear h c2 c3 hrow;generalize (c.b.hd.1,FF [] c.b.hd.2)=fx at*;obtain⟨ag,OY⟩:=cK (Gf vs [] c.b.gs);rw[OY.o]at CA⊢;refine X9 func115 rfl ?_;simp only[ntmps115,GN,DU,JC,Nat.reduceAdd,Nat.reduceSub,Qu,Qv,Qr,Qt,JU,EC];cases ag with
 | false=>
  go_wp2_with fail
  apply(CA.o _<|AR _ w).mono;rintro e w5 ⟨rfl,hb⟩;have q35:=(HX.o w5 hb).2;have HB:=AC hb;clear hb;go_wp2
  refine YA 1 ?_;rw[Tt];go_wp2
  refine Bg (v:= .bool true) (by simp[results,results115,go_sem]) rfl ?_;exact JN.mk true (EX.nil fs fun x hx=>by cases hx.1) (H.o.be HB.o) (Off.of HB.o) (fun _ h=> .inl h) fun _ h=> .inl h
 | true=>
  go_wp2_with fail
  apply(CA.o _<|AR _ w).mono;rintro e w5 ⟨rfl,hb⟩;have HB:=AC hb.drew;have AY:=(HX.o _ hb.drew).1;clear hb;go_wp2_with fail
  obtain⟨jr,hjr⟩:=cK (TI fs fx);rw[hjr.o]at HJ TO;refine Z1y (fun a' w'=>a'.tmps[4]?=some (.bool jr.1)/\a'.defers=[]/\ ∃ F',Df w' c.p jr.2 vs F'/\Off F w w'/\ ∀ i,i∈F'->i∈F\/w.heap.size<=i) ?_ ?_
  .refine Zh (S:=fun u=>u.cell? (zm c.q 0)=some (zq c.p 0)/\u.cell? (zm c.q 1)=some (um c.b.hd.1)/\u.cell? (zm c.q 2)=some (sP ph c.b.hd.2.length ch)/\u.cell? (zm c.q 6)=some (.map<|some c.m)/\u.cell? (zm c.q 7)=some (sP po 0 co)) zt ?_;change wpAnyH _ _ _ _ _ _ _ _ (World.drew _);refine zE 0 (zq c.q 0) AY ?_
   refine zE 1 (zq c.q 0) AY ?_
   refine zE 2 (zq c.q 0) AY ?_
   refine zE 3 (zq c.p 0) AY ?_
   refine zE 4 (zq c.q 0) AY ?_
   refine zE 5 (zq c.q 0) AY ?_
   refine zE 6 (zq c.q 1) AY ?_
   refine zE 7 (.agg #[um c.b.hd.1,sP ph c.b.hd.2.length ch]) AY ?_
   refine zE 8 (zq c.q 0) AY ?_
   refine zE 9 (zq c.q 0) AY ?_
   refine zE 10 (zq c.q 6) AY ?_
   refine zE 11 (.agg #[.map<|some c.m,sP po 0 co]) AY ?_
   refine yr 12 fun K' hK'=>?_;go_simp;apply(HF.o _ HB.o).mono;rintro e w6 ⟨rfl,Gp⟩;have B6:=HB.o.trans<|Gp.mono HB.o.size;have Sm:=(HX.o w6 B6).1;refine hK'.o _ _ Sm fun _=>?_;try simp only[zz]
   refine yr 13 fun K' hK'=>?_;go_simp;apply(HJ.o _ B6).mono;rintro e w7 ⟨rfl,F',XX,NJ,PY⟩;have yI:c.q<w6.heap.size:=BK lq B6.size;have eq:=NJ.block c.q yI nq;have cell: ∀ j,w7.cell? (zm c.q j)=w6.cell? (zm c.q j):=fun j=>A9 (a:=(zm c.q j)) eq;have JZ:=AJ ((cell 0).trans Sm.1)<|AJ ((cell 1).trans Sm.2.1)<|AJ ((cell 2).trans Sm.2.2.1)<|AJ ((cell 6).trans Sm.2.2.2.1)<|(cell 7).trans Sm.2.2.2.2;refine hK'.o _ _ JZ fun _=>?_;try simp only[zz]
   refine zE 14 (.bool jr.1) JZ ?_
   refine Uy zt ?_ _;exact⟨rfl,rfl,F',XX,(Off.of B6).trans NJ fun _ h=> .inl h,fun i hi=>(PY i hi).imp id fun h=>Ab B6.size h⟩
  rintro a' w' ⟨h6,hd,F',XX,NJ,PY⟩;go_wp2
  refine Bg (v:= .bool jr.1) (by rw[results_tmp rfl,Array.getD_eq_getD_getElem?,h6];rfl) hd ?_;refine JN.mk jr.1 (TO.o.dA fun x=>zw) (H.o.world XX NJ PY) (NJ.mono fun i hi=>by simp[hi]) PY fun _ h=> .inl h
end
end Go.W
set_option linter.unusedSectionVars false
namespace Go.W
section
variable [Mem]
def Zzl (B:Nat->Nat->Nat->Nat) (b:BD) (vs:List T) (fs:List Fc) (A:Nat->Nat) (seen:Nat) (x:Fc):Prop:=(b.at_.length=0/\Gf vs [] b.gs=true/\x=(b.hd.1,FF [] b.hd.2))\/rU B b fs A seen b.at_.length x
end
section
open Go.Shelf
variable {a:Nat->Addr}{cs:Ca}{vs:List T}{F Fo:Cg}{w:Bb}
variable [Mem]
def JN.dA {H J:Fc->Prop}{c:Cx}{fs:List Fc}{xs:Bn}{w':Bb}{e:Ending}(h:JN H a c cs fs vs F xs Fo w e w')(k: ∀ x,H x↔J x):JN J a c cs fs vs F xs Fo w e w':=by
 obtain⟨r,fs',F',Br,Au,rfl,h1,h2,h3,h4,h5⟩:=h;exact JN.mk r (h1.dA k) h2 h3 h4 h5
def Z5g {c:Cx}{fs:List Fc}{ov:Value}{A:Nat->Nat}{B:Nat->Nat->Nat->Nat}{seen:Nat}(h:Ctx a c cs fs vs F [] ov Fo w)(hT:Hy cs A B)(hK:ui vs [] c.b.gs)(hH:Uu c.b)(QV:seen<=60)(hA: ∀ j n,(A j).testBit n=true->n<fs.length)(uT: ∀ j,A j<2 ^ 60)(ok: ∀ y,y∈fs->GY y)(len:fs.length<=60):
  Calls prog 115 #[zq c.q 0,zo (seen:Int)] w fun e w'=>JN (Zzl B c.b vs fs A seen) a c cs fs vs F [] Fo w e w':=by
 by_cases hz:c.b.at_.length=0
 .refine(Zqs h hK hH ok len hz).mono fun e w' q=>q.dA fun x=>⟨fun e=> .inl ⟨hz,e⟩,fun e=>?_⟩;rcases e with e | ⟨i,hi,_⟩
  .exact e.2
  .omega
 .refine(Z0k h hT hH QV hA uT ok len hz).mono fun e w' q=>q.dA fun x=>⟨.inr,fun e=>?_⟩;rcases e with e | e
  .exact absurd e.1 hz
  .exact e
end
variable {P:Prop}
def Vl (x:Sl):List Sl->Bool
 | []=>false
 | y::l=>decide (x=y) || Vl x l
def qU {x:Sl}: ∀ {l:List Sl},Vl x l=true↔x∈l
 | []=>by simp[Vl]
 | y::l=>by rw[Vl,Bool.or_eq_true,wA,qU,Ak]
def Ycf {x:Sl}{l:List Sl}(h:x∉l):Vl x l=false:=by
 cases hb:Vl x l with
 | false=>rfl
 | true=>exact absurd (qU.1 hb) h
def YH (P:Prop) (e:Ending):Prop:= ∃ i:Int,e=uY (zo i)/\((decide (0<=i)=true/\P)\/(decide (0<=i)=false/\ ¬ P))
def YH.at_ (i:Nat)(h:P):YH P (.returned<|zo (i:Int)):=⟨i,rfl,.inl ⟨zw,h⟩⟩
def YH.no (h: ¬ P):YH P (.returned<|zo (-1)):=⟨-1,rfl,.inr ⟨zu,h⟩⟩
variable {w:Bb}{p1:Bp}{c:Nat}
def Z8q (x y:Sl)(w:Bb):(binOp .eql 298 (.agg #[um x.1,zo (x.2:Int)])<|.agg #[um y.1,zo (y.2:Int)]).run prog w= .ok (.bool<|decide<|x=y) w:=by
 rw[run_eql_struct,run_equalIn_struct w _ _ _ _ zt zt];go_simp;by_cases h1:x.1=y.1
 .rw[xj (by rw[h1])];by_cases h2:x.2=y.2
  .rw[xj (by rw[h2]),Nv<|Prod.ext h1 h2]
  .rw[xd zx,I8 fun e=>h2 (by rw[e])]
 .rw[xd fun e=>h1 (ByteArray.ext (by have:=congrArg List.toArray e;simpa[Nw]using this)),I8 fun e=>h1 (by rw[e])]
def Z6h {G:Cg}{ss:List Sl}(hp:Ap 2 (VW w G) p1 ss)(hG: ∀ j,j∈G->j<w.heap.size)(s:Sl):Calls prog 261 #[sP p1 ss.length c,.agg #[um s.1,zo (s.2:Int)]] w fun e w'=>YH (s∈ss) e/\Bl w w':=by
 have HP:=AC hp;have HG:=AC hG;have he:=Z8q s;have hlen:=hp.len;have B0:=fun o=>zv w o;obtain⟨W1,hW1⟩:=cK (w.alloc (.cells #[um s.1,zo (s.2:Int)] 298));have B1:AF (Bl w W1):=⟨hW1.o▸B0 _⟩;have L1:AF (AO W1 w.heap.size #[um s.1,zo (s.2:Int)] 298):=⟨hW1.o▸AO.new w _ _⟩;clear hp hG B0;go_in
 go_wp2_with fail
 rw[hW1.o];clear hW1;go_loopw [8] (fun iv wr=> ∃ j:Nat,j<=ss.length/\iv= zo (j:Int)/\s∉ss.take j/\Bl w wr/\AO wr w.heap.size #[um s.1,zo (s.2:Int)] 298) (fun iv _=>ss.length-(intOf iv).toNat)
 .exact⟨0,zx,rfl,zw,B1.o,L1.o⟩
 .obtain⟨j,hj,rfl,hn,hb,hl⟩:=hrel;have KK:=AC<|AJ hn<|AJ hb hl;by_cases hlt:j<ss.length
  .obtain⟨b,o1,rfl,WI,s0,s1,_⟩:=HP.o.get j hlt;have hbl:=HG.o b WI;have lT:=(A9 (a:=(zm b (o1+j*2)))<|hb.block b hbl).trans s0;have lQ:=(A9 (a:=(zm b (o1+j*2+1)))<|hb.block b hbl).trans s1;have c0:=hl.two.1;have c1:=hl.two.2.1;have he':=fun w=>he ss[j] w;have Il:(j:Int)<(ss.length:Int):=zx
   have E:AF (ss.take (j+1)=ss.take j++[ss[j]]):=⟨by rw[PM,A8 hlt];rfl⟩;have M:AF (ss[j]∈ss):=⟨QO _⟩;clear hn hb hl s0 s1 he;generalize ss[j]=y at*;by_cases hy:s=y
   .have HY:=AC hy;rw[Nv hy]at he';clear hy;go_wp2
    go_quiet (fail)
    all_goals
     go_wp2
     go_ret
     exact⟨YH.at_ j (by rw[HY.o];exact M.o),MW KK.o.2.1⟩
   .have HY:=AC hy;rw[I8 hy]at he';clear hy;go_wp2
    go_quiet (fail)
    all_goals
     go_wp2
     go_roundw
     .exact⟨j+1,zx,by go_num,by rw[E.o,Aj,Bh,not_or];exact⟨KK.o.1,HY.o⟩,MW KK.o.2.1,KK.o.2.2.of rfl⟩
     simp[intOf];omega
  .obtain rfl:j=ss.length:=zx
   clear hn hb hl;go_wp2
   go_ret
   exact⟨YH.no (by have:=KK.o.1;rwa [On]at this),KK.o.2.1⟩
def Zv8 {G:Cg}{ss:List Sl}(hp:Ap 2 (VW w G) p1 ss)(hG: ∀ j,j∈G->j<w.heap.size)(s:Sl):Calls prog 224 #[sP p1 ss.length c,.agg #[um s.1,zo (s.2:Int)]] w fun e w'=>e=uY (.bool<|Vl s ss)/\Bl w w':=by
 have C:=AC fun o=>Z6h (w:=w.alloc o) (c:=c) (hp.cy fun b o' y ⟨k0,k1,k2,k3⟩=>⟨k0,(A9 (a:=(zm b o'))<|Ah _ _ _<|hG b k0).trans k1,(A9 (a:=(zm b (o'+1)))<|Ah _ _ _<|hG b k0).trans k2,k3⟩) (fun j hj=>by have:=hG j hj;simp;omega) s;have B0:=fun o=>zv w o;clear hp hG;go_in
 go_wp2_with fail
 apply(C.o _).mono;rintro e w' ⟨⟨i,rfl,hi⟩,hb⟩;have HB:=AC<|(B0 _).trans<|hb.mono zw;clear hb B0;rcases hi with⟨h1,h2⟩ | ⟨h1,h2⟩
 .have H2:=AC<|qU.2 h2;clear h2;go_wp2
  go_ret
  exact⟨by rw[H2.o];rfl,HB.o⟩
 .have H2:=AC<|Ycf h2;clear h2;go_wp2
  go_ret
  exact⟨by rw[H2.o];rfl,HB.o⟩
variable {x:Ay}
def Uo (x:Ay):List Hm->Bool
 | []=>false
 | y::l=>decide (y.1=x) || Uo x l
def qV: ∀ {l:List Hm},Uo x l=true↔x∈l.map (·.1)
 | []=>by simp[Uo]
 | y::l=>by rw[Uo,Bool.or_eq_true,wA,qV,xp,Ak,eq_comm]
def Yce {l:List Hm}(h:x∉l.map (·.1)):Uo x l=false:=by
 cases hb:Uo x l with
 | false=>rfl
 | true=>exact absurd (qV.1 hb) h
def xI (w:Bb) (G:Cg) (b o:Nat) (h:Hm):Prop:=b∈G/\w.cell? (zm b o)=some (um h.1)/\w.cell? (zm b (o+1))=some (zo (h.2.1:Int))/\w.cell? (zm b (o+2))=some (zo (h.2.2:Int))
section
variable {w:Bb}{sb c:Nat}{p1:Bp}
attribute [local go_sem] Me
def Z5s {s:Sl}(hb:AO w sb #[um s.1,zo (s.2:Int)] 298)(h:Hm):Calls prog 223 #[.agg #[um h.1,zo (h.2.1:Int),zo (h.2.2:Int)],zq sb 0] w fun e w'=>e=uY (.bool<|decide<|h.1=s.1)/\Bl w w':=by
 have c0:=hb.two.1;have fB:=fun o=>(hb.alloc o).two.1;have B0:=fun o=>zv w o;have hd:(h.1.toList==s.1.toList)=decide (h.1=s.1):=by
  by_cases e:h.1=s.1
  .simp[e]
  .rw[I8 e,BJ];exact fun q=>e (jy q)
 clear hb;go_in
 go_wp2
 go_ret
 exact⟨rfl,B0 _⟩
def Z5m {G:Cg}{hs:List Hm}(hp:Ap 3 (xI w G) p1 hs)(hG: ∀ j,j∈G->j<w.heap.size){s:Sl}(hb:AO w sb #[um s.1,zo (s.2:Int)] 298):Calls prog 262 #[sP p1 hs.length c,.func (.func 223) #[] #[zq sb 0]] w fun e w'=>YH (s.1∈hs.map (·.1)) e/\Bl w w':=by
 have HP:=AC hp;have HG:=AC hG;have hlen:=hp.len;have hbl:=hb.lt;have CI:=AC fun u (hu:Bl w u)=>Z5s (hb.of<|hu.block sb hbl);have hen: ∀ args w,(callFunc 223 args).run prog w= .ok (.enter 223 args) w:=EH func223 zt rfl;clear hp hG hb;go_in
 go_wp2
 go_loopw [8] (fun iv wr=> ∃ j:Nat,j<=hs.length/\iv= zo (j:Int)/\s.1∉(hs.take j).map (·.1)/\Bl w wr) (fun iv _=>hs.length-(intOf iv).toNat)
 .exact⟨0,zx,rfl,zw,AR _ w⟩
 .obtain⟨j,hj,rfl,hn,hb⟩:=hrel;have KK:=AC<|AJ hn hb;by_cases hlt:j<hs.length
  .obtain⟨b,o1,rfl,WI,s0,s1,s2⟩:=HP.o.get j hlt;have hbl:=HG.o b WI;have lT:=(A9 (a:=(zm b (o1+j*3)))<|hb.block b hbl).trans s0;have lQ:=(A9 (a:=(zm b (o1+j*3+1)))<|hb.block b hbl).trans s1;have s2':=(A9 (a:=(zm b (o1+j*3+2)))<|hb.block b hbl).trans s2;have Il:(j:Int)<(hs.length:Int):=zx
   have E:AF (hs.take (j+1)=hs.take j++[hs[j]]):=⟨by rw[PM,A8 hlt];rfl⟩;have M:AF (hs[j]∈hs):=⟨QO _⟩;have C1:=AC<|CI.o wr hb hs[j];clear hn hb s0 s1 s2;generalize hs[j]=y at*;go_wp2_with fail
   apply mq C1.o;rintro w2 hb2;have Ey:=AC<|KK.o.2.trans<|hb2.mono KK.o.2.size;clear hb2 C1 lT lQ s2';by_cases hy:y.1=s.1
   .have HY:=AC hy;rw[Nv hy];clear hy;go_wp2
    go_ret
    exact⟨YH.at_ j (by rw[<- HY.o];exact List.mem_map_of_mem (f:=(·.1)) M.o),Ey.o⟩
   .have HY:=AC hy;rw[I8 hy];clear hy;go_wp2
    go_roundw
    .exact⟨j+1,zx,by go_num,by rw[E.o,wb,Aj,not_or];exact⟨KK.o.1,by simpa using fun e=>HY.o e.symm⟩,Ey.o⟩
    simp[intOf];omega
  .obtain rfl:j=hs.length:=zx
   clear hn hb;go_wp2
   go_ret
   exact⟨YH.no (by have:=KK.o.1;rwa [On]at this),KK.o.2⟩
def Zvj {G:Cg}{hs:List Hm}(hp:Ap 3 (xI w G) p1 hs)(hG: ∀ j,j∈G->j<w.heap.size){s:Sl}(hb:AO w sb #[um s.1,zo (s.2:Int)] 298):Calls prog 225 #[sP p1 hs.length c,.func (.func 223) #[] #[zq sb 0]] w fun e w'=>e=uY (.bool<|Uo s.1 hs)/\Bl w w':=by
 have C:=AC<|Z5m (c:=c) hp hG hb;clear hp hG hb;go_in
 go_wp2_with fail
 apply C.o.mono;rintro e w' ⟨⟨i,rfl,hi⟩,hb⟩;have HB:=AC hb;clear hb;rcases hi with⟨h1,h2⟩ | ⟨h1,h2⟩
 .have H2:=AC<|qV.2 h2;clear h2;go_wp2
  go_ret
  exact⟨by rw[H2.o];rfl,HB.o⟩
 .have H2:=AC<|Yce h2;clear h2;go_wp2
  go_ret
  exact⟨by rw[H2.o];rfl,HB.o⟩
end
variable {I K i k:Nat}
def Xi (hd:List Sl) (i:Nat) (acc:List Hm) (k:Nat) (s:Sl):List Hm:=if s.1.size≠0/\Vl s hd=true/\Uo s.1 acc=false then acc++[(s.1,i,k)]else acc
def ah (hd:List Sl) (i:Nat):List Hm->Nat->List Sl->List Hm
 | acc,_,[]=>acc
 | acc,k,s::ss=>ah hd i (Xi hd i acc k s) (k+1) ss
def Y0 (hd:List Sl):List Hm->Nat->List Pt->List Hm
 | acc,_,[]=>acc
 | acc,i,p::ps=>Y0 hd (ah hd i acc 0 p.2) (i+1) ps
def TS (hd:List Sl) (at_:List Pt):List Hm:=Y0 hd [] 0 at_
structure TF (hd:List Sl) (I K:Nat) (at_:Nat->Nat->Sl->Prop) (hs:List Hm):Prop where
 nd:(hs.map (·.1)).Nodup
 lt: ∀ h,h∈hs->h.2.1<I/\h.2.2<K
 from_: ∀ h,h∈hs-> ∃ n,at_ h.2.1 h.2.2 (h.1,n)/\(h.1,n)∈hd/\h.1.size≠0
def TF.step {hd:List Sl}{at_:Nat->Nat->Sl->Prop}{acc:List Hm}(h:TF hd I K at_ acc){s:Sl}(hi:i<I)(hk:k<K)(hs:at_ i k s):TF hd I K at_ (Xi hd i acc k s):=by
 unfold Xi;split
 .rename_i e;refine⟨?_,fun x hx=>?_,fun x hx=>?_⟩
  .rw[wb,Mc];refine⟨h.nd,zw,fun a ha b hb q=>?_⟩;have hb':b=s.1:=by simpa using hb
   have:Uo s.1 acc=true:=qV.2 (by rw[<- hb',<- q];exact ha)
   rw[e.2.2]at this;cases this
  .rcases Aj.1 hx with hx | hx
   .exact h.lt x hx
   .rw[Bh.1 hx];exact⟨hi,hk⟩
  .rcases Aj.1 hx with hx | hx
   .exact h.from_ x hx
   .rw[Bh.1 hx];exact⟨s.2,hs,qU.1 e.2.1,e.1⟩
 .exact h
def TF.atom {hd:List Sl}{at_:Nat->Nat->Sl->Prop}(hi:i<I): ∀ (ss:List Sl) (acc:List Hm) (k:Nat),TF hd I K at_ acc->k+ss.length<=K->(∀ j s,ss[j]?=some s->at_ i (k+j) s)->TF hd I K at_ (ah hd i acc k ss)
 | [],_,_,h,_,_=>h
 | s::ss,acc,k,h,hk,ha=>by
  rw[DU]at hk;exact TF.atom hi ss _ (k+1) (h.step hi zx<|ha 0 s rfl) zx fun j s' hj=>by
   have:=ha (j+1) s' (by simpa using hj)
   rwa [show k+(j+1)=k+1+j by omega]at this
def TF.atoms {hd:List Sl}{at_:Nat->Nat->Sl->Prop}: ∀ (ps:List Pt) (acc:List Hm) (i:Nat),TF hd I K at_ acc->i+ps.length<=I->(∀ j p,ps[j]?=some p->p.2.length<=K/\ ∀ k s,p.2[k]?=some s->at_ (i+j) k s)->TF hd I K at_ (Y0 hd acc i ps)
 | [],_,_,h,_,_=>h
 | p::ps,acc,i,h,hi,ha=>by
  rw[DU]at hi;refine TF.atoms ps _ (i+1) (TF.atom zx p.2 acc 0 h (by have:=(ha 0 p rfl).1;omega) fun j s hj=>?_) zx fun j p' hj=>?_
  ·have:=(ha 0 p rfl).2 j s hj
   rwa [Gx]
  ·have:=ha (j+1) p' (by simpa using hj)
   rwa [show i+(j+1)=i+1+j by omega]at this
def qj {hd:List Sl}{at_:List Pt}(h4:at_.length<=4)(h6: ∀ p,p∈at_->p.2.length<=6):TF hd 4 6 (fun i k s=> ∃ p,at_[i]?=some p/\p.2[k]?=some s) (TS hd at_):=by
 refine TF.atoms at_ [] 0 ⟨zw,fun _ h=>(by cases h),fun _ h=>(by cases h)⟩ zx fun j p hj=>⟨h6 p<|Ej hj,fun k s hk=>⟨p,by rwa [Gx],hk⟩⟩
def Z5n {hd:List Sl}{acc:List Hm}{s:Sl}(h:x∈acc.map (·.1)):x∈(Xi hd i acc k s).map (·.1):=by
 unfold Xi;split
 .rw[wb];exact Md _ h
 .exact h
def Z85 {hd:List Sl}{acc:List Hm}{s:Sl}(h0:s.1.size≠0)(h1:s∈hd):s.1∈(Xi hd i acc k s).map (·.1):=by
 unfold Xi;split
 .rw[wb];exact Vq _ zw
 .rename_i e;cases hb:Uo s.1 acc with
  | true=>exact qV.1 hb
  | false=>exact absurd ⟨h0,qU.2 h1,hb⟩ e
def Zng {hd:List Sl}: ∀ (ss:List Sl) (acc:List Hm) (k:Nat),x∈acc.map (·.1)->x∈(ah hd i acc k ss).map (·.1)
 | [],_,_,h=>h
 | _::ss,_,k,h=>Zng ss _ (k+1) (Z5n h)
def Zxy {hd:List Sl}{s:Sl}(h0:s.1.size≠0)(h1:s∈hd): ∀ (ss:List Sl) (acc:List Hm) (k:Nat),s∈ss->s.1∈(ah hd i acc k ss).map (·.1)
 | [],_,_,h=>by cases h
 | t::ss,acc,k,h=>by
  rcases Ak.1 h with rfl | h
  ·exact Zng ss _ (k+1)<|Z85 h0 h1
  ·exact Zxy h0 h1 ss _ (k+1) h
def Ztp {hd:List Sl}: ∀ (ps:List Pt) (acc:List Hm) (i:Nat),x∈acc.map (·.1)->x∈(Y0 hd acc i ps).map (·.1)
 | [],_,_,h=>h
 | p::ps,acc,i,h=>Ztp ps _ (i+1) (Zng p.2 acc 0 h)
def Zxz {hd:List Sl}{s:Sl}(h0:s.1.size≠0)(h1:s∈hd): ∀ (ps:List Pt) (acc:List Hm) (i:Nat),(∃ p,p∈ps/\s∈p.2)->s.1∈(Y0 hd acc i ps).map (·.1)
 | [],_,_,⟨_,h,_⟩=>by cases h
 | q::ps,acc,i,⟨p,h,hs⟩=>by
  rcases Ak.1 h with rfl | h
  ·exact Ztp ps _ (i+1)<|Zxy h0 h1 p.2 acc 0 hs
  ·exact Zxz h0 h1 ps _ (i+1) ⟨p,h,hs⟩
def Zra {α:Type}: ∀ (l m:List α),l.Nodup->(∀ x,x∈l->x∈m)->l.length<=m.length
 | [],_,_,_=>Eg _
 | x::l,m,hd,h=>by
  obtain⟨s,t,rfl⟩:=List.append_of_mem<|h x zw;rw[List.nodup_cons]at hd
  have:=Zra l (s++t) hd.2 fun y hy=>by
   have h1:=h y (by simp[hy]);rw[Aj,Ak]at h1;rcases h1 with h1 | h1 | h1
   ·exact Md _ h1
   ·subst h1;exact absurd hy hd.1
   ·exact Vq _ h1
  simp only[JS,DU]at this⊢;omega
def Zqy {hd:List Sl}{at_:List Pt}(h4:at_.length<=4)(h6: ∀ p,p∈at_->p.2.length<=6):(TS hd at_).length<=hd.length:=by
 have h:=qj (hd:=hd) h4 h6
 have:=Zra ((TS hd at_).map (·.1)) (hd.map (·.1)) h.nd fun x hx=>by
  obtain⟨y,hy,rfl⟩:=List.mem_map.1 hx;obtain⟨n,_,h2,_⟩:=h.from_ y hy;exact List.mem_map.2 ⟨(y.1,n),h2,rfl⟩
 simpa using this
def Ut:Du Hm:=fun _ vs h F=>F=[]/\vs=[um h.1,zo (h.2.1:Int),zo (h.2.2:Int)]
def Ut.sb:Ii Ut:=fun _ _ _ _ _ h _=>h
def Ut.one {w:Bb}{vs:Bu}{x:Hm}{F:Cg}(h:Ut w vs x F): ∀ u,u∈vs->u.oneCell'=true:=by
 obtain⟨_,rfl⟩:=h;intro u hu;simp at hu;rcases hu with rfl | rfl | rfl <;> rfl
section
attribute [local go_sem] Me
def Ybv:J3 prog 304 364 3 32:=by
 obtain⟨i0,hi,hz0,hz1,hz2⟩:=info_parts (by kernel_rfl:(prog.info? 364).map (fun i=>(i.zero,i.size,i.bytes))=some (some<|.agg #[sE,zo 0,zo 0],3,32));exact⟨i0,_,underlying304,hi,hz0,hz1,hz2,rfl,zu,zu⟩
structure aj (w wr:Bb) (acc:List Hm) (hv:Value) (Fh:Cg):Prop where
 row:AQ 364 3 Ut wr hv acc Fh
 new:Ag w.heap.size wr Fh
 bel:Bl w wr
def AQ.homes {e:TypeId}{w:Bb}{v:Value}{acc:List Hm}{F:Cg}(h:AQ e 3 Ut w v acc F)(hF: ∀ k,k∈F->k<w.heap.size): ∃ p c,v= sP p acc.length c/\Ap 3 (xI w<|List.range w.heap.size) p acc:=by
 obtain⟨p,c,hv,_,hr⟩:Qi 3 (xI w<|List.range w.heap.size) v acc:=AQ.rowOf h hF fun b o vs x G hc hb hG hq=>by
  obtain⟨_,rfl⟩:=hq;exact⟨List.mem_range.2 hb,hc 0 zw,hc 1 zw,hc 2 zw⟩
 exact⟨p,c,hv,hr⟩
end
def Znh {hd:List Sl}{acc:List Hm}{s:Sl}(h: ¬ (s.1.size≠0/\Vl s hd=true/\Uo s.1 acc=false)):Xi hd i acc k s=acc:=xd h
def Z5o {hd:List Sl}{acc:List Hm}{s:Sl}(h:s.1.size≠0/\Vl s hd=true/\Uo s.1 acc=false):Xi hd i acc k s=acc++[(s.1,i,k)]:=xj h
section
variable {w:Bb}
attribute [local go_sem] Me
def aj.be {wr u:Bb}{acc:List Hm}{hv:Value}{Fh:Cg}(h:aj w wr acc hv Fh)(hb:Bl wr u):aj w u acc hv Fh:=⟨AQ.sb Ut.sb _ _ _ _ _ h.row fun j hj=>hb.block j (h.new.lt j hj),h.new.la lr hb.size,h.bel.trans<|hb.mono h.bel.size⟩
def Z86 {ph pa:Bp}{ch ca:Nat}{G:Cg}{hn:Ay}{hd:List Sl}{at_:List Pt}(hp:Ap 2 (VW w G) ph hd)(hA: ∀ i x,at_[i]?=some x->xF w G pa i x)(hG: ∀ j,j∈G->j<w.heap.size)(h4:at_.length<=4):
  Calls prog 170 #[.agg #[um hn,sP ph hd.length ch],sP pa at_.length ca] w fun e w'=> ∃ hv Fh,e=uY hv/\aj w w' (TS hd at_) hv Fh:=by
 have HP:=AC hp;have HA:=AC hA;have HG:=AC hG;have Ho:=fun(fn:Fn) (first cap:Ca) (w:Bb)=>(rfl:(Instr.makeFunc fn first cap).run prog w= .ok (.func fn first cap) w);have CS:AF (∀ u,Bl w u-> ∀ s:Sl,Calls prog 224 #[sP ph hd.length ch,.agg #[um s.1,zo (s.2:Int)]] u fun e w'=>e=uY (.bool<|Vl s hd)/\Bl u w'):=⟨fun u hu s=>Zv8 (hp.cy fun b o' y ⟨k0,k1,k2,k3⟩=>⟨k0,(A9 (a:=(zm b o'))<|hu.block b<|hG b k0).trans k1,(A9 (a:=(zm b (o'+1)))<|hu.block b<|hG b k0).trans k2,k3⟩) (fun j hj=>BK (hG j hj) hu.size) s⟩;clear hp hA hG;obtain⟨W1,hW1⟩:=cK (w.alloc (.cells #[um hn,sP ph hd.length ch] 226));have B1:AF (Bl w W1):=⟨hW1.o▸(AR _ w).alloc lr _⟩;have L1:AF (AO W1 w.heap.size #[um hn,sP ph hd.length ch] 226):=⟨hW1.o▸AO.new w _ _⟩;have R0:AF (aj W1 W1 [] (zn) []):=⟨⟨AQ.nil,Ag.nil _ _,AR _ _⟩⟩;go_in
 go_wp2_with fail
 rw[hW1.o];clear hW1;go_loopw [13,5] (fun iv hv wr=> ∃ i acc Fh,i<=at_.length/\iv= zo ((i:Nat):Int)/\aj W1 wr acc hv Fh/\acc.length<=6*i/\Y0 hd acc i (at_.drop i)=TS hd at_) (fun iv _ _=>at_.length-(intOf iv).toNat)
 .exact⟨0,[],[],zx,rfl,R0.o,zw,rfl⟩
 .obtain⟨i,acc,Fh,hi,rfl,hR,KM,Ce⟩:=hrel;have RR:=AC<|AJ hR<|AJ KM Ce;by_cases hlt:i<at_.length
  .obtain⟨x,hx⟩: ∃ x,at_[i]?=some x:=⟨_,A8 hlt⟩;have hxd:at_.drop i=x::at_.drop (i+1):=by rw[<- (DW.1 hx).2,xH hlt]
   obtain⟨ga,ps,cp,rfl,uC,a0,a1,hrow,h6⟩:=HA.o i x hx;have hB:=B1.o.trans<|hR.bel.mono B1.o.size;have NU:=HG.o ga uC;have a0':=(A9 (a:=(zm ga (i*2)))<|hB.block ga NU).trans a0;have a1':=(A9 (a:=(zm ga (i*2+1)))<|hB.block ga NU).trans a1;have Ye:(i:Int)<(at_.length:Int):=zx
   have HR:=AC hrow;rw[hxd]at Ce;have R1:=AC fun o=>hR.be ((AR _ wr).alloc lr o);have HE:=AC (show Y0 hd (ah hd i acc 0<|x.2.drop 0) (i+1) (at_.drop<|i+1)=TS hd at_ from Ce);clear hR Ce a0 a1 hB hrow hxd;obtain⟨xn,ss⟩:=x;dsimp only at HR HE h6 a1' a0';go_wp2
   go_loopw [21,5] (fun kv hv u=> ∃ k FC iN,k<=ss.length/\kv= zo ((k:Nat):Int)/\aj W1 u FC hv iN/\FC.length<=6*i+k/\Y0 hd (ah hd i FC k<|ss.drop k) (i+1) (at_.drop<|i+1)=TS hd at_) (fun kv _ _=>ss.length-(intOf kv).toNat)
   .exact⟨0,acc,Fh,zx,rfl,R1.o _,zx,HE.o⟩
   .obtain⟨k,FC,iN,hk,rfl,hR,zk,Ce⟩:=hrel;have KK:=AC<|AJ hR<|AJ zk Ce;by_cases QZ:k<ss.length
    .obtain⟨b,o1,rfl,WI,s0,s1,hsz⟩:=HR.o.get k QZ;have Io:=B1.o.trans<|hR.bel.mono B1.o.size;have hbl:=HG.o b WI;have lT:=(A9 (a:=(zm b (o1+k*2)))<|Io.block b hbl).trans s0;have lQ:=(A9 (a:=(zm b (o1+k*2+1)))<|Io.block b hbl).trans s1;have zK:(k:Int)<(ss.length:Int):=zx
     have Bc:=fun o=>((L1.o.of<|hR.bel.block _ L1.o.lt).alloc o).two.2.1;rw[xH QZ]at Ce;have HQ:=AC (show Y0 hd (ah hd i (Xi hd i FC k ss[k]) (k+1)<|ss.drop<|k+1) (i+1) (at_.drop<|i+1)=TS hd at_ from Ce);obtain⟨W2,hW2⟩:=cK (wr.alloc (.cells #[um ss[k].1,zo (ss[k].2:Int)] 298));have lH:Bl wr W2:=hW2.o▸(AR _ wr).alloc lr _;have R2:=AC<|hR.be lH;have B2:=AC<|Io.trans<|lH.mono Io.size;have L2:=AC (show AO W2 wr.heap.size #[um ss[k].1,zo (ss[k].2:Int)] 298 from hW2.o▸AO.new wr _ _);have z0:=L2.o.two.1;have z1:=L2.o.two.2.1;have hdW:W2.cell? (zm w.heap.size 1)=_:=hW2.o▸Bc _;clear hR Ce Io lH s0 s1 Bc;generalize ss[k]=s at*;by_cases hz:s.1.size=0
     .have hx0:(s.1.toList==[])=true:=by rw[X4];exact Nv hz
      have HN:=AC (Znh (hd:=hd) (i:=i) (k:=k) (acc:=FC) (s:=s) fun h=>h.1 hz);clear hz;go_wp2_with fail
      rw[hW2.o];go_roundw
      .exact⟨k+1,FC,iN,zx,by go_num,R2.o,zx,by have e:=HQ.o;rw[HN.o]at e;exact e⟩
      simp[intOf];omega
     .have hx0:(s.1.toList==[])=false:=by rw[X4];exact I8 hz
      have HZ:=AC hz;clear hz;rw[<- hW2.o]at z0 z1 hdW;go_wp2_with fail
      rw[hW2.o];apply(CS.o _ B2.o s).mono;rintro e w5 ⟨rfl,BX⟩;have R5:=AC<|R2.o.be BX;have L5:=AC<|L2.o.of<|BX.block _ L2.o.lt;clear BX;cases hS:Vl s hd with
      | false=>
       have HN:=AC (Znh (hd:=hd) (i:=i) (k:=k) (acc:=FC) (s:=s) fun h=>by rw[hS]at h;cases h.2.1);clear hS;go_wp2
       go_roundw
       .exact⟨k+1,FC,iN,zx,by go_num,R5.o,zx,by have e:=HQ.o;rw[HN.o]at e;exact e⟩
       simp[intOf];omega
      | true=>
       obtain⟨p,c,rfl,hrow⟩:=AQ.homes R5.o.row R5.o.new.lt;have CF:=AC<|Zvj (c:=c) hrow (fun j hj=>List.mem_range.1 hj) L5.o;have HS:=AC hS;clear hrow hS;go_wp2_with fail
       apply mq CF.o;rintro w6 Gp;have R6:=AC<|R5.o.be Gp;have L6:=AC<|L5.o.of<|Gp.block _ L5.o.lt;clear Gp;cases hH:Uo s.1 FC with
       | true=>
        have HN:=AC (Znh (hd:=hd) (i:=i) (k:=k) (acc:=FC) (s:=s) fun h=>by rw[hH]at h;cases h.2.2);clear hH;go_wp2
        go_roundw
        .exact⟨k+1,FC,iN,zx,by go_num,R6.o,zx,by have e:=HQ.o;rw[HN.o]at e;exact e⟩
        simp[intOf];omega
       | false=>
        have HN:=AC<|Z5o (hd:=hd) (i:=i) (k:=k) (acc:=FC) (s:=s) ⟨HZ.o,HS.o,hH⟩;clear hH;have y0:=L6.o.two.1;have Yc:FC.length<100000000:=zx
        go_wp2_with (at_builtin;go_must (refine Nu Ybv rfl (.tmp 42) (.tmp 48) rfl Ut.sb (fun _ _ _ _ h=>Ut.one h) W1.heap.size (sP p FC.length c) FC iN rfl (AQ.sb Ut.sb _ _ _ _ _ R6.o.row fun j hj=>Ah _ _ _ (R6.o.new.lt j hj)) w6.heap.size #[um s.1,zo (i:Int),zo (k:Int)] 364 (0,0) (s.1,i,k) [] rfl (Hw _ _) rfl ⟨rfl,rfl⟩ Yc (by have:=R6.o.bel.size;simp;omega) (R6.o.new.la lr zw) (Ag.nil _ _) (fun _ _ h=>by cases h) ?_;intro g8 UU w8 F8 AM))
        have GV:Bl W1 w8:=by
         have b6:=R6.o.bel;have mi:=AM.size;simp at mi;refine⟨AM.os.trans b6.os,AM.tape.trans b6.tape,AM.output.trans b6.output,fw (b6.size),fun j hj=>?_⟩;have zM:j<w6.heap.size:=BK hj b6.size;exact((AM.same j zc fun q=>fw (R6.o.new.ge j q)).trans<|Ah _ _ _ zM).trans<|b6.block j hj
        go_roundw
        .exact⟨k+1,FC++[(s.1,i,k)],F8,zx,by go_num,⟨AM.row,AM.new,GV⟩,by rw[JS];simp;omega,by have e:=HQ.o;rw[HN.o]at e;exact e⟩
        simp[intOf];omega
    .obtain rfl:k=ss.length:=zx
     clear hR Ce;go_wp2
     go_roundw
     .exact⟨i+1,FC,iN,zx,by go_num,KK.o.1,zx,by have e:=KK.o.2.2;rw[List.drop_length]at e;exact e⟩
     simp[intOf];omega
  .obtain rfl:i=at_.length:=zx
   clear hR Ce;go_wp2
   go_ret
   have e:=RR.o.2.2;rw[List.drop_length]at e;have e':acc=TS hd at_:=e;rw[<- e'];exact⟨_,Fh,rfl,RR.o.1.row,RR.o.1.new.la B1.o.size lr,B1.o.trans<|RR.o.1.bel.mono B1.o.size⟩
end
def AQ.YX {e:TypeId}{w:Bb}{v:Value}{acc:List Hm}{F S:Cg}(h:AQ e 3 Ut w v acc F)(hS: ∀ k,k∈F->k∈S): ∃ pm cm,v= sP pm acc.length cm/\ ∀ i x,acc[i]?=some x->Yj7 w S pm i x:=by
 obtain⟨p,c,rfl⟩:=AQ.form h;refine⟨p,c,rfl,fun i x hx=>?_⟩;obtain⟨g,cap,cs,G,hv,hg,⟨_,rfl⟩,key⟩:=AQ.nth h i x hx;injection hv with h1 h2 h3;subst h1;exact⟨g,rfl,hS g hg,key 0 _ rfl,key 1 _ rfl,key 2 _ rfl⟩
end Go.W
