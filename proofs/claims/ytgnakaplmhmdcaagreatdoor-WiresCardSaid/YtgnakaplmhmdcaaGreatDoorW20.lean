import Derived.Test.YtgnakaplmhmdcaaGreatDoorW19
set_option maxRecDepth 100000
set_option maxHeartbeats 8000000
set_option linter.unusedSimpArgs false
open Go.Proofs Go.RowKit Go.W
namespace Go.P
variable {t:List Value}{b:Nat}{w:World}
def Zay:Array Value:=#[.bool false,.slice none 0 0,.int .u8 0,.int .u8 0,.int .u8 0,.int .u8 0,.int .u8 0,.int .u8 0,.int .u8 0,.int .u8 0,.int .u8 0,.int .u8 0,.int .u8 0,.int .u8 0,.int .u8 0,.int .u8 0,.int .u8 0,.int .u8 0,.int .u8 0,.int .u8 0,.int .u8 0,.int .u8 0,.int .u8 0,.int .u8 0,.int .u8 0,.int .u8 0,.int .u8 0,.int .u8 0,.int .u8 0,.int .u8 0,.int .u8 0,.int .u8 0,.int .u8 0,.int .u8 0]
def Zih (d:Nat):Zgk Ch:=fun w vs x F=> ∃ v,vs= .bool x.sealed::v::Lib.byteCells x.tag/\x.tag.length=32/\Zag 114 4 (Zeo Zad d) w v x.links F
def Zau (s:Bool) (v:Value) (t:List Value):Array Value:=(.bool s::v::t).toArray
theorem Zcm (s:Bool)(v:Value)(h:t.length=32):(Zau s v t).size=34:=by simp[Zau,h]
theorem Zcn (s:Bool)(v:Value)(h:t.length=32):(Tryz.prog.info? 120).map (·.size)=some (Zau s v t).size:=by rw[Zcm s v h];kernel_rfl
theorem Z0l (S:Bool)(v:Value){z:List Value}(hz:z.length=32){t:By}(ht:t.length=32):((Zau S v z).toList.take 2++Lib.byteCells ((ba t).data.toList.take 32)++(Zau S v z).toList.drop (2+32)).toArray=Zau S v (Lib.byteCells t):=by
 have e1:(ba t).data.toList.take 32=t:=by rw[<- ht];simp[ba]
 rw[e1];simp[Zau,hz]
theorem Zfj (S:Bool)(p:Option Addr)(n c:Nat)(t:List UInt8):(Zau S (.slice p n c) (Lib.byteCells t)).all (·.oneCell')=true:=by
 unfold Zau;rw[List.all_toArray,Yej];intro x hx;rcases Yc1.1 hx with rfl | hx
 ·rfl
 rcases Yc1.1 hx with rfl | hx
 ·rfl
 exact Lib.byteCells_one _ x hx
theorem Zaf.setRowNew {L:Nat}{w0:World}(h:Zaf b w0 w)(nv:Array Value)(hL:w0.heap.size<=L):Zaf b w0 (w.setRow L nv):=⟨h.os,h.tape,h.output,by rw[setRow_size];exact h.size,fun j hj hne=>(setRow_other _ _ j nv (by omega)).trans (h.block j hj hne)⟩
theorem Zti:Zam 191:=Zak Tryz.func191 (by kernel_rfl) rfl
theorem Zzo (V:Zbe)(CL:Zb5){a:Nat->Addr}{l:By}(Z:Zap a w)(h:Dc w b l):
  Calls Tryz.prog 144 #[.pointer (some ⟨b,0,none⟩)] w (Zeq a b (Zk3 (Zih 4) w.heap.size) w (Zd1 l)):=by
 have hb:=h.1.lt;have hgb:=h.2.2;have K0:=Zaa ((Zaf.refl b w).alloc (.cells Zay 120));have L0:=Zaa (Blk.new w Zay 120);have C:=Zaa (Zkl (Z.keeps K0.out hgb) (h.alloc (.cells Zay 120)) 4 (by decide));have ZZ:=Zaa Z;have VC:=Zaa (Ycs V CL);clear Z h V CL;go_enter Tryz.func144,Tryz.ntmps144
 go_wp2_with fail
 refine C.out.mono ?_;rintro e w1 ⟨hk1,⟨i,hy,hi,rfl⟩ | ⟨m,r1,v,hy,rfl,rfl,hd1⟩⟩
 ·exact⟨rfl,K0.out.trans hk1,Or.inl ⟨i,De.then_error hy,hi,rfl⟩⟩
 have K1:=Zaa (K0.out.trans hk1);have Y:Box (Zd1 l=(if m≠Zdc then fun _=> .error 7 else Zfx.then Zqy) r1):=⟨De.then_ok hy⟩;have L1:=Zaa (L0.out.of (hk1.block w.heap.size (by simp) (by omega)));have hs1:=Zaa L1.out.lt;have Z1:=Zaa (ZZ.out.keeps K1.out hgb);have HD1:=Zaa hd1;clear hy hk1 hd1 C L0 K0;by_cases hm:m=Zdc
 case neg=>
  have Y7:Box (Zd1 l= .error 7):=⟨by rw[Y.out,if_pos hm]⟩;have g:((ba m).toList==[119,114,116,49])=false:=by
   rw[Ydl,beq_eq_false_iff_ne];exact fun h=>hm h
  have z7:=Z1.out.c7;have CR:=Zaa (Zbp a b w1 (n:=7) (by decide));generalize ba m=M at*;clear Y hm;go_wp2_with fail
  refine CR.out.mono ?_;rintro e w2 ⟨rfl,rfl⟩;exact⟨rfl,K1.out,Or.inl ⟨7,Y7.out,by decide,rfl⟩⟩
 have Y1:Box (Zd1 l=Zfx.then Zqy r1):=⟨by rw[Y.out,if_neg (fun h=>h hm)]⟩;have g:ba m=⟨#[119,114,116,49]⟩:=by rw[hm];rfl
 have HM:=Zaa g;clear Y hm;rw[g];clear g;have C2:=Zaa (Zke (Z1.out.keeps ((Zaf.refl b w1).alloc (.cells Zay 120)) hgb) (HD1.out.alloc (.cells Zay 120)));go_wp2_with fail
 refine C2.out.mono ?_;rintro e w2 ⟨hk2,⟨i,hy,hi,rfl⟩ | ⟨s,r2,v,hy,rfl,⟨rfl,hs⟩,hd2⟩⟩
 ·exact⟨rfl,(K1.out.alloc _).trans hk2,Or.inl ⟨i,Y1.out.trans (De.then_error hy),hi,rfl⟩⟩
 have K2:=Zaa ((K1.out.alloc _).trans hk2);have Y2:=Zaa (Y1.out.trans (De.then_ok hy));have L2:=Zaa ((L1.out.alloc (.cells Zay 120)).of (hk2.block w.heap.size (by have:=hs1.out;simp;omega) (by omega)));have M2:=Zaa ((Blk.new w1 Zay 120).of (hk2.block w1.heap.size (by simp) (by have:=HD1.out.1.lt;omega)));have hs2:=Zaa M2.out.lt;have hbn:Box (b < w1.heap.size):=⟨HD1.out.1.lt⟩;have Z2:=Zaa (ZZ.out.keeps K2.out hgb);have HD2:=Zaa hd2;clear hy hk2 hd2 C2 Y1 L1 HD1 Z1 K1;have hmf:=Zg8;by_cases gs:1 < s
 ·have Y7:Box (Zd1 l= .error 7):=⟨by rw[Y2.out,Zqy,if_pos gs]⟩;have g0:((s:Int)==0)=false:=by rw[beq_eq_false_iff_ne];omega
  have g1:((s:Int)==1)=false:=by rw[beq_eq_false_iff_ne];omega
  have z7:=Z2.out.c7;have CR:=Zaa (Zbp a b w2 (n:=7) (by decide));clear Y2;go_wp2_with fail
  refine CR.out.mono ?_;rintro e w3 ⟨rfl,rfl⟩;exact⟨rfl,K2.out,Or.inl ⟨7,Y7.out,by decide,rfl⟩⟩
 have Y3:Box (Zd1 l=(Zbt 8 Zne).then (Zu8 s) r2):=⟨by rw[Y2.out,Zqy,if_neg gs]⟩;have g2:s=0\/s=1:=by omega
 clear Y2 gs;rcases g2 with g2 | g2
 case' inl=>
  obtain⟨S,hS⟩: ∃ S,Box ((s==1)=S/\S=false):=⟨_,⟨rfl,by rw[g2];rfl⟩⟩;have M3:Box (Blk w2 w1.heap.size (Zau S (.slice none 0 0) (List.replicate 32 (.int .u8 0))) 120):=⟨by rw[hS.out.2];exact M2.out⟩;have K3:=Zaa K2.out;have L3:=Zaa L2.out;have Z3:=Zaa Z2.out;have HD3:=Zaa HD2.out;have g0:((s:Int)==0)=true:=by rw[beq_iff_eq];omega
  clear g2 M2 K2 L2 Z2 HD2;go_wp2_with fail
  obtain⟨W3,hW⟩: ∃ W,w2=W:=⟨_,rfl⟩;rw[hW]at M3 K3 L3 Z3 HD3 hs2⊢;clear hW
 case' inr=>
  obtain⟨S,hS⟩: ∃ S,Box ((s==1)=S/\S=true):=⟨_,⟨rfl,by rw[g2];rfl⟩⟩;have z0:w2.cell? ⟨w1.heap.size,0,none⟩=some (.bool false):=M2.out.cell 0;have z1:=M2.out.soft;have g0:((s:Int)==0)=false:=by rw[beq_eq_false_iff_ne];omega
  have g1:((s:Int)==1)=true:=by rw[beq_iff_eq];omega
  have M3:Box (Blk (w2.setCell ⟨w1.heap.size,0,none⟩ (.bool true)) w1.heap.size (Zau S (.slice none 0 0) (List.replicate 32 (.int .u8 0))) 120):=⟨by rw[hS.out.2];exact M2.out.set 0 (.bool true)⟩;have K3:=Zaa (K2.out.setNew w1.heap.size 0 (.bool true) (by have:=hs1.out;omega));have L3:=Zaa (L2.out.away w1.heap.size 0 (by have:=hs1.out;omega) (.bool true));have Z3:=Zaa (ZZ.out.keeps K3.out hgb);have HD3:=Zaa (HD2.out.of (Ycy _ ⟨w1.heap.size,0,none⟩ (.bool true) b (by have:=hbn.out;show b≠w1.heap.size;omega)));clear g2 K2 L2 Z2 HD2 M2;go_wp2_with fail
  clear z0 z1;obtain⟨W3,hW⟩: ∃ W,w2.setCell ⟨w1.heap.size,0,none⟩ (.bool true)=W:=⟨_,rfl⟩;have hs2':Box (w1.heap.size < W3.heap.size):=⟨by rw[<- hW];simpa using hs2.out⟩;rw[hW]at M3 K3 L3 Z3 HD3⊢;clear hW hs2;have hs2:=Zaa hs2'.out;clear hs2'
 all_goals
  have C3:=Zaa (Zpb (d:=4) (f:=Zne) Zti (first:=#[.pointer (some ⟨b,0,none⟩)]) (cap:=#[]) (m:=8) Z3.out HD3.out (by omega) fun u r hu=>Z1x VC.out.1 VC.out.2 hu.2.2 hu.1);refine C3.out.mono ?_;rintro e w4 ⟨hk4,⟨i,hy,hi,rfl⟩ | ⟨xs,r4,v,hy,rfl,⟨F,hR,hN⟩,hd4⟩⟩
  ·exact⟨rfl,K3.out.trans hk4,Or.inl ⟨i,Y3.out.trans (De.then_error hy),hi,rfl⟩⟩
  obtain⟨p1,c1,rfl⟩:=Zag.form hR;have K4:=Zaa (K3.out.trans hk4);have Y4:=Zaa (Y3.out.trans (De.then_ok hy));have M4:=Zaa (M3.out.of (hk4.block _ hs2.out (by have:=hbn.out;omega)));have L4:=Zaa (L3.out.of (hk4.block _ (by have:=hs1.out;have:=hs2.out;omega) (by omega)));have HR:=Zaa (Ycs hR hN);have HD4:=Zaa hd4;have hs4:Box (w1.heap.size < w4.heap.size):=⟨M4.out.lt⟩;have hs34:=Zaa hk4.size;have z1:w4.cell? ⟨w1.heap.size,1,none⟩=some (.slice none 0 0):=M4.out.cell 1;have zs:=M4.out.soft;clear hy hk4 hR hN hd4 C3 Y3 M3 L3 Z3 HD3 K3;by_cases hx:xs.length=0
  ·have Y7:Box (Zd1 l= .error 7):=⟨by rw[Y4.out,Zu8,if_pos hx]⟩;have z7:=(ZZ.out.keeps (K4.out.setNew w1.heap.size 1 (.slice p1 xs.length c1) (by have:=hs1.out;omega)) hgb).c7;have CR:=Zaa (fun u=>Zbp a b u (n:=7) (by decide));have gx:((xs.length:Int)==0)=true:=by rw[beq_iff_eq];omega
   generalize xs.length=N at*;clear Y4 hx;go_wp2_with fail
   refine(CR.out _).mono ?_;rintro e w5 ⟨rfl,rfl⟩;exact⟨rfl,K4.out.setNew _ _ _ (by have:=hs1.out;omega),Or.inl ⟨7,Y7.out,by decide,rfl⟩⟩
  have gx:((xs.length:Int)==0)=false:=by rw[beq_eq_false_iff_ne];omega
  have Y5:Box (Zd1 l=(Zfe 32).map (fun t=>(⟨s==1,xs,t⟩:Ch)) r4):=⟨by rw[Y4.out,Zu8,if_neg hx]⟩;go_wp2_with fail
  have K5:=Zaa (K4.out.setNew w1.heap.size 1 (.slice p1 xs.length c1) (by have:=hs1.out;omega));have M5:Box (Blk (w4.setCell ⟨w1.heap.size,1,none⟩ (.slice p1 xs.length c1)) w1.heap.size (Zau S (.slice p1 xs.length c1) (List.replicate 32 (.int .u8 0))) 120):=⟨M4.out.set 1 (.slice p1 xs.length c1)⟩;have L5:=Zaa (L4.out.away w1.heap.size 1 (by have:=hs1.out;omega) (.slice p1 xs.length c1));have D5:=Zaa (HD4.out.of (Ycy w4 ⟨w1.heap.size,1,none⟩ (.slice p1 xs.length c1) b (by have:=hbn.out;show b≠w1.heap.size;omega)));have R5:Box (Zag 114 4 (Zeo Zad 4) (w4.setCell ⟨w1.heap.size,1,none⟩ (.slice p1 xs.length c1)) (.slice p1 xs.length c1) xs F):=⟨Zag.stable (Zeo.stable (ty:=Zad) 4) _ _ _ _ _ HR.out.1 fun j hj=>Ycy _ _ _ _ (by have:=HR.out.2.ge j hj;have:=hs2.out;show j≠w1.heap.size;omega)⟩;have N5:Box (Za9 W3.heap.size (w4.setCell ⟨w1.heap.size,1,none⟩ (.slice p1 xs.length c1)) F):=⟨HR.out.2.later lr (by simp)⟩;have hs5:Box (w1.heap.size < (w4.setCell ⟨w1.heap.size,1,none⟩ (.slice p1 xs.length c1)).heap.size/\W3.heap.size<=(w4.setCell ⟨w1.heap.size,1,none⟩ (.slice p1 xs.length c1)).heap.size):=⟨by simpa using Ycs hs4.out hs34.out⟩;clear K4 M4 L4 HD4 HR z1 zs hs4 hs34 Y4;generalize w4.setCell ⟨w1.heap.size,1,none⟩ (.slice p1 xs.length c1)=W5 at*;have CT:=Zaa (Zkl (ZZ.out.keeps K5.out.drew hgb) D5.out.drew 32 (by decide));go_region_with (first
   | (go_at_call 164
      refine CT.out.mono ?_;rintro e w6 ⟨hk6,⟨i,hy,hi,rfl⟩ | ⟨t,r6,v,hy,rfl,rfl,hd6⟩⟩
      ·exact⟨rfl,K5.out.drew.trans hk6,Or.inl ⟨i,Y5.out.trans (De.map_error hy),hi,rfl⟩⟩
      have htl:=(Zur hy).1;have Y6:=Zaa (Y5.out.trans (De.map_ok hy));have M6:=M5.out.of (hk6.block _ hs5.out.1 (by have:=hbn.out;omega));have hcp:=Zy6 (P:=Tryz.prog) w6 76 9 3 5 w1.heap.size 2 32 32 32 (ba t) _ 120 Tryz.underlying76 (by kernel_rfl) M6 (by rw[Ze7,htl];rfl) (by rw[Zcm _ _ (by simp)];decide);rw[Z0l _ _ (by simp) htl]at hcp))
  all_goals
   have hlen:(Lib.byteCells t).length=32:=by rw[Lib.byteCells_length,htl]
   have h1:=hs1.out;have h5:=hs5.out;have hbn':=hbn.out;have hs6:=hk6.size;have C7:=setRow_heap _ _ _ (Zau S (.slice p1 xs.length c1) (Lib.byteCells t)) _ _ M6;have L7:=Blk.of (L5.out.of (hk6.block _ (show w.heap.size < W5.heap.size by omega) (by omega))) (setRow_other w6 w1.heap.size w.heap.size (Zau S (.slice p1 xs.length c1) (Lib.byteCells t)) (by omega));have K8:=Zaa ((Zaf.setRowNew (L:=w1.heap.size) (K5.out.drew.trans hk6) (Zau S (.slice p1 xs.length c1) (Lib.byteCells t)) (by omega)));have K9:=Zaa (Zaf.setRowNew (L:=w.heap.size) K8.out (Zau S (.slice p1 xs.length c1) (Lib.byteCells t)) lr);have HK6:=Zaa hk6;have HD6:=Zaa hd6;have R8:=setRow_heap _ _ _ (Zau S (.slice p1 xs.length c1) (Lib.byteCells t)) _ _ L7;clear hk6 hd6 hy hcp;go_wp2_with (first
    | (refine wpList_load_row rfl 120 (.tmp 3) rfl w1.heap.size rfl 120 (Zau S (.slice p1 xs.length c1) (Lib.byteCells t)) (0,0) _ C7 Tryz.underlying120 rfl (Zcn _ _ hlen) ?_)
    | (refine wpList_store_row rfl 120 (.tmp 2) (.tmp 37) rfl w.heap.size (Zau S (.slice p1 xs.length c1) (Lib.byteCells t)) rfl rfl 120 Zay L7 (Zcn _ _ hlen) (by rw[Zcm _ _ hlen];rfl) (Zfj _ _ _ _ _) ?_))
   refine bodyPost_ret (results_cell_row (p:=2) (ty:=120) rfl _ _ w.heap.size 120 (Zau S (.slice p1 xs.length c1) (Lib.byteCells t)) (0,0) _ rfl R8 Tryz.underlying120 rfl (Zcn _ _ hlen)) rfl ?_;have st: ∀ j,j≠w.heap.size->j≠w1.heap.size->j≠b->j < W5.heap.size->((w6.setRow w1.heap.size (Zau S (.slice p1 xs.length c1) (Lib.byteCells t))).setRow w.heap.size (Zau S (.slice p1 xs.length c1) (Lib.byteCells t))).heap[j]?=W5.heap[j]?:=fun j j1 j2 j3 j4=>(setRow_other _ _ j _ j1).trans ((setRow_other _ _ j _ j2).trans (HK6.out.block j j4 j3));exact⟨K9.out,Or.inr ⟨_,r6,_,Y6.out,rfl,⟨.bool S:: .slice p1 xs.length c1::Lib.byteCells t,F,rfl,⟨_,by rw[<- hS.out.1],htl,Zag.stable (Zeo.stable (ty:=Zad) 4) _ _ _ _ _ R5.out fun j hj=>st j (by have:=N5.out.ge j hj;have:=hs2.out;omega) (by have:=N5.out.ge j hj;have:=hs2.out;omega) (by have:=N5.out.ge j hj;have:=hs2.out;omega) (N5.out.lt j hj)⟩,N5.out.later (by have:=hs2.out;omega) (by rw[setRow_size,setRow_size];exact hs6)⟩,HD6.out.of ((setRow_other _ _ b _ (by omega)).trans (setRow_other _ _ b _ (by omega)))⟩⟩
end Go.P
namespace Go.W
theorem Zjo {P:Program}{fn:Func}{p q:Tmp}{t1 t2:TypeId}(h:fn.results=#[.cell p t1,.cell q t2])(tmps:Array Value)(w:World)(g1 g2:Addr)(v1 v2:Value)(hp:tmps.getD p undef= .pointer (some g1))(hq:tmps.getD q undef= .pointer (some g2))(h1:(loadVar t1 g1).run P w= .ok v1 w)(h2:(loadVar t2 g2).run P w= .ok v2 w):(results fn tmps).run P w= .ok (.tuple #[v1,v2]) w:=by
 have hp':tmps[p]?.getD undef= .pointer (some g1):=by simpa using hp
 have hq':tmps[q]?.getD undef= .pointer (some g2):=by simpa using hq
 simp[results,h,hp',hq',asAddr,h1,h2]
end Go.W
namespace Go.P
theorem Ziq (b:Nat)(x:Value)(a:Nat->Addr){n:Int}(hn:n≠0)(w:World)(hc:w.cell? ⟨b,0,none⟩=some x)(hf:w.frozen? ⟨b,0,none⟩=false):CallsD Tryz.prog 189 #[.pointer (some ⟨b,0,none⟩)] (.panicking [{v:= .iface 158 (.agg #[Zc3 a n]),recovered:=false}]) w fun e u' w'=>
  e= .returned (.tuple #[])/\u'= .panicking [{v:= .iface 158 (.agg #[Zc3 a n]),recovered:=true}]/\w'=(w.alloc (.cells #[Zc3 a n] 158)).setCell ⟨b,0,none⟩ (Zc3 a n):=by
 rw[Zah _ hn];have hbl:=Zbi hc;refine callsD_of_wpS Tryz.func189 rfl fun c₀ cs hu=>?_;apply wpS_seq
 apply wpS_region
 simp[wpOpsS,go_sem,recoverD,hu,Tryz.ntmps189,Exit.thenS,Array.replicate,List.replicate];refine wpS_of_wp ?_;have ta:=Zji;go_wp2_with fail
 simp[bodyPostS,results,Tryz.results189]
theorem Zs9 (b:Nat)(w:World):CallsD Tryz.prog 189 #[.pointer (some ⟨b,0,none⟩)] .returning w fun e u' w'=>e= .returned (.tuple #[])/\u'= .returning/\w'=w:=by
 refine callsD_of_wpS Tryz.func189 rfl fun c₀ cs hu=>?_;apply wpS_seq
 apply wpS_region
 simp[wpOpsS,go_sem,recoverD,hu,Tryz.ntmps189,Exit.thenS,Array.replicate,List.replicate];refine wpS_of_wp ?_;go_wp2_with fail
 cases c₀;simp_all [bodyPostS,results,Tryz.results189]
def Znk (a:Nat->Addr) (w:World) (Y:Except Int Ch) (e:Ending) (w':World):Prop:=
 Below w.heap.size w w'/\((∃ n,Y= .error n/\n≠0/\e= .returned (.tuple #[.agg Zay,Zc3 a n]))\/ ∃ x vs F,Y= .ok x/\e= .returned (.tuple #[.agg vs.toArray,.nilIface])/\Zih 4 w' vs x F/\Za9 w.heap.size w' F)
theorem Zsa:Zam 144:=Zak Tryz.func144 (by kernel_rfl) rfl
theorem Zll (V:Zbe)(CL:Zb5){a:Nat->Addr}{w:World}{l:By}(Z:Zap a w)(hl:l.length < 1000000000):
  Calls Tryz.prog 143 #[.string (ba l),.func (.func 144) #[] #[]] w (Znk a w (Zc7 Zd1 l)):=by
 have hmf:=Zg8;have hg:=Z.size;have hen': ∀ args w,(callFunc 144 args).run Tryz.prog w= .ok (.enter 144 args) w:=Zsa;have B0:=Zaa ((((Yct w.heap.size w).alloc lr (.cells Zay 120)).alloc (by simp) (.cells #[.nilIface] 58)).alloc (by simp;omega) (.cells #[.string (ba l)] 160));have LR:=Zaa (((Blk.new w Zay 120).alloc (.cells #[.nilIface] 58)).alloc (.cells #[.string (ba l)] 160));have LE:=Zaa ((Blk.new (w.alloc (.cells Zay 120)) #[.nilIface] 58).alloc (.cells #[.string (ba l)] 160));have LD:=Zaa (Blk.new ((w.alloc (.cells Zay 120)).alloc (.cells #[.nilIface] 58)) #[.string (ba l)] 160);simp only[Yc4]at LE LD;have C:=Zaa (Zzo V CL (Z.below B0.out) (b:=w.heap.size+1+1) (l:=l) ⟨LD.out,hl,by omega⟩);have ZZ:=Zaa Z;clear Z CL V LD;go_enter_defers Tryz.func143,Tryz.ntmps143
 go_wp2_with fail
 refine C.out.mono ?_;rintro e w1 ⟨hk1,⟨n,hy,hn,rfl⟩ | ⟨x,r,v,hy,rfl,⟨vs,F,rfl,hQ,hN⟩,hd1⟩⟩
 ·have LR1:=LR.out.of (hk1.block w.heap.size (by simp;omega) (by omega));have LE1:=LE.out.of (hk1.block (w.heap.size+1) (by simp) (by omega));have B1:=Zaa (B0.out.trans (hk1.below (B:=w.heap.size) (by omega) (by simp;omega)));obtain⟨y0,sy⟩:=LE1.one;have q0:=Zaa ((LR1.alloc (.cells #[Zc3 a n] 158)).away (w.heap.size+1) 0 (by omega) (Zc3 a n));have q1:=Zaa ((LE1.alloc (.cells #[Zc3 a n] 158)).set 0 (Zc3 a n));have q2:=Zaa ((B1.out.alloc (by have:=LR1.lt;omega) (.cells #[Zc3 a n] 158)).setCell (p:=⟨w.heap.size+1,0,none⟩) (by show w.heap.size<=w.heap.size+1;omega) (Zc3 a n));refine leaves_cons (f:=189) (args:=#[.pointer (some ⟨w.heap.size+1,0,none⟩)]) (by simp) (by simp[go_sem]) ?_;refine(Ziq _ _ a hn w1 y0 (sy 0)).mono ?_;rintro e u' w'' ⟨rfl,rfl,hw⟩;rw[<- hw]at q0 q1 q2;obtain⟨x0,sx⟩:=Blk.one (a:=Zc3 a n) q1.out;clear hw;have hld:=run_loadVar_row (P:=Tryz.prog) w'' w.heap.size 120 120 _ _ _ q0.out Tryz.underlying120 rfl (by kernel_rfl);have hle:(loadVar 58 ⟨w.heap.size+1,0,none⟩).run Tryz.prog w''= .ok (Zc3 a n) w'':=by simp[go_sem,x0]
  exact⟨_,Zjo rfl _ _ _ _ _ _ rfl rfl hld hle,q2.out,Or.inl ⟨n,Zme hy,hn,rfl⟩⟩
 ·have HQ:=Zaa hQ;obtain⟨lv,rfl,htl,hrow⟩:=hQ;obtain⟨p1,c1,rfl⟩:=Zag.form hrow;have LR1:=Zaa (LR.out.of (hk1.block w.heap.size (by simp;omega) (by omega)));have LE1:=Zaa (LE.out.of (hk1.block (w.heap.size+1) (by simp) (by omega)));have B1:=Zaa (B0.out.trans (hk1.below (B:=w.heap.size) (by omega) (by simp;omega)));have Y:=Zaa (Zs6 hy);have HD:=Zaa hd1;have HN:=Zaa hN;have Z1:=Zaa (ZZ.out.below B1.out);have x0:=fun o=>(hd1.1.alloc o).one.1;have hr:(ba r).toList=[]↔r=[]:=by
   rw[Ydl];simp[ba]
  have hlen:(Lib.byteCells x.tag).length=32:=by rw[Lib.byteCells_length,htl]
  have hin:=Zcn x.sealed (.slice p1 x.links.length c1) hlen;have hsz:=Zcm x.sealed (.slice p1 x.links.length c1) hlen;have hon:=Zfj x.sealed p1 x.links.length c1 x.tag;clear hrow hk1 hd1 hN hy C LR LE htl hlen;have HCV:Box (Zau x.sealed (.slice p1 x.links.length c1) (Lib.byteCells x.tag)=(Value.bool x.sealed::Value.slice p1 x.links.length c1::Lib.byteCells x.tag).toArray):=⟨rfl⟩;rw[<- HCV.out];obtain⟨CV,hCV⟩: ∃ CV,Box (Zau x.sealed (.slice p1 x.links.length c1) (Lib.byteCells x.tag)=CV):=⟨_,⟨rfl⟩⟩;rw[hCV.out]at hin hsz hon HCV⊢;have S1:=Blk.new w1 Zay 120;have S2:=setRow_heap _ _ _ CV _ _ S1;have hs1:=Zaa B1.out.size;have hdl:=Zaa HD.out.1.lt;clear x0;have x0: ∀ o,((w1.alloc o).setRow w1.heap.size CV).cell? ⟨w.heap.size+1+1,0,none⟩=some (.string (ba r)):=fun o=>((HD.out.1.alloc o).of (setRow_other _ _ _ _ (by have:=hdl.out;omega))).one.1;have hL:w.heap.size < w1.heap.size:=LR1.out.lt;have hE:w.heap.size+1 < w1.heap.size:=LE1.out.lt;have RW:=Zaa (fun o=>(LR1.out.alloc o).of (setRow_other (w1.alloc o) w1.heap.size _ CV (by omega)));have EW:=Zaa (fun o=>(LE1.out.alloc o).of (setRow_other (w1.alloc o) w1.heap.size _ CV (by omega)));have BW:=Zaa (fun o=>(⟨(B1.out.alloc hs1.out o).os,(B1.out.alloc hs1.out o).tape,(B1.out.alloc hs1.out o).output,by rw[setRow_size];exact(B1.out.alloc hs1.out o).size,fun j hj=>(setRow_other _ _ j _ (by omega)).trans ((B1.out.alloc hs1.out o).block j hj)⟩:Below w.heap.size w ((w1.alloc o).setRow w1.heap.size CV)));by_cases hr0:r=[]
  ·have Y1:Box (Zc7 Zd1 l= .ok x):=⟨by rw[Y.out,if_pos hr0]⟩;have g:=hr.2 hr0;have L2:=RW.out (.cells Zay 120);have R3:=Zaa (fun o=>setRow_heap _ _ _ CV _ _ (RW.out o));have E3:=Zaa (fun o=>(EW.out o).of (setRow_other ((w1.alloc o).setRow w1.heap.size CV) w.heap.size _ CV (by omega)));have e0:=fun o=>(E3.out o).one.1;have e1:=fun o=>(E3.out o).one.2;have q0:=Zaa (fun o=>Blk.away (R3.out o) (w.heap.size+1) 0 (by omega) .nilIface);have q1:=Zaa (fun o=>(E3.out o).set 0 .nilIface);have q2:=Zaa (fun o=>Below.setCell (⟨(BW.out o).os,(BW.out o).tape,(BW.out o).output,by rw[setRow_size];exact(BW.out o).size,fun j hj=>(setRow_other _ _ j _ (by omega)).trans ((BW.out o).block j hj)⟩:Below w.heap.size w (((w1.alloc o).setRow w1.heap.size CV).setRow w.heap.size CV)) (p:=⟨w.heap.size+1,0,none⟩) (by show w.heap.size<=w.heap.size+1;omega) .nilIface);have q3:Box (∀ o j,j∈F->((((w1.alloc o).setRow w1.heap.size CV).setRow w.heap.size CV).setCell ⟨w.heap.size+1,0,none⟩ .nilIface).heap[j]?=w1.heap[j]?):=⟨fun o j hj=>by
    have g1:=HN.out.ge j hj;have g2:=HN.out.lt j hj;simp at g1;rw[Ycy _ _ _ _ (by show j≠w.heap.size+1;omega),setRow_other _ _ j _ (by omega),setRow_other _ _ j _ (by omega)];exact Ycx _ _ _ g2⟩
   have q4:Box (∀ o,Za9 w.heap.size ((((w1.alloc o).setRow w1.heap.size CV).setRow w.heap.size CV).setCell ⟨w.heap.size+1,0,none⟩ .nilIface) F):=⟨fun o=>HN.out.later (by simp;omega) (by simp[setRow_size])⟩;clear hr hr0 Y;generalize ba r=s at*;go_wp2_with (first
    | (refine wpList_store_row rfl 120 (.tmp 7) (.tmp 14) rfl w1.heap.size CV rfl rfl 120 Zay S1 hin (by rw[hsz];rfl) hon ?_)
    | (refine wpList_load_row rfl 120 (.tmp 7) rfl w1.heap.size rfl 120 CV (0,0) _ S2 Tryz.underlying120 rfl hin ?_)
    | (refine wpList_store_row rfl 120 (.tmp 4) (.tmp 23) rfl w.heap.size CV rfl rfl 120 Zay L2 hin (by rw[hsz];rfl) hon ?_))
   clear e0 e1 x0;refine leaves_cons (f:=189) (args:=#[.pointer (some ⟨w.heap.size+1,0,none⟩)]) (by simp) (by simp[go_sem]) ?_;refine(Zs9 _ _).mono ?_;rintro e u' w'' ⟨rfl,rfl,hw⟩;have p0:Blk w'' w.heap.size CV 120:=by rw[hw];exact q0.out _
   have p1':Blk w'' (w.heap.size+1) #[.nilIface] 58:=by rw[hw];exact q1.out _
   have p2:Below w.heap.size w w'':=by rw[hw];exact q2.out _
   have p3: ∀ j,j∈F->w''.heap[j]?=w1.heap[j]?:=by rw[hw];exact q3.out _
   have p4:Za9 w.heap.size w'' F:=by rw[hw];exact q4.out _
   clear hw;obtain⟨y0,sy⟩:=p1'.one;have hld:=run_loadVar_row (P:=Tryz.prog) w'' w.heap.size 120 120 _ _ _ p0 Tryz.underlying120 rfl hin;have hle:(loadVar 58 ⟨w.heap.size+1,0,none⟩).run Tryz.prog w''= .ok .nilIface w'':=by simp[go_sem,y0]
   refine⟨_,Zjo rfl _ _ _ _ _ _ rfl rfl hld hle,p2,Or.inr ⟨x,_,F,Y1.out,by rw[HCV.out],?_,p4⟩⟩;obtain⟨v,hv,ht,hrow⟩:=HQ.out;exact⟨v,hv,ht,Zag.stable (Zeo.stable (ty:=Zad) 4) _ _ _ _ _ hrow p3⟩
  ·have Y1:Box (Zc7 Zd1 l= .error 7):=⟨by rw[Y.out,if_neg hr0]⟩;have g:(ba r).toList.isEmpty=false:=by rw[List.isEmpty_eq_false_iff];exact fun q=>hr0 (hr.1 q)
   have z7:=fun o=>(ZZ.out.below (BW.out o)).c7;have CR:=Zaa (fun u=>Zbp a (w.heap.size+1+1) u (n:=7) (by decide));clear hr hr0 Y;generalize ba r=s at*;go_wp2_with (first
    | (refine wpList_store_row rfl 120 (.tmp 7) (.tmp 14) rfl w1.heap.size CV rfl rfl 120 Zay S1 hin (by rw[hsz];rfl) hon ?_))
   refine(CR.out _).mono ?_;rintro e w2 ⟨rfl,hw2⟩;have l0:Blk w2 w.heap.size Zay 120:=by rw[hw2];exact RW.out _
   have l1:Blk w2 (w.heap.size+1) #[.nilIface] 58:=by rw[hw2];exact EW.out _
   have l2:Below w.heap.size w w2:=by rw[hw2];exact BW.out _
   clear hw2;obtain⟨y0,sy⟩:=l1.one;have q0:=Zaa ((l0.alloc (.cells #[Zc3 a 7] 158)).away (w.heap.size+1) 0 (by omega) (Zc3 a 7));have q1:=Zaa ((l1.alloc (.cells #[Zc3 a 7] 158)).set 0 (Zc3 a 7));have q2:=Zaa ((l2.alloc l2.size (.cells #[Zc3 a 7] 158)).setCell (p:=⟨w.heap.size+1,0,none⟩) (by show w.heap.size<=w.heap.size+1;omega) (Zc3 a 7));refine leaves_cons (f:=189) (args:=#[.pointer (some ⟨w.heap.size+1,0,none⟩)]) (by simp) (by simp[go_sem]) ?_;refine(Ziq _ _ a (n:=7) (by decide) _ y0 (sy 0)).mono ?_;rintro e u' w'' ⟨rfl,rfl,hw⟩;rw[<- hw]at q0 q1 q2;obtain⟨u0,sx⟩:=Blk.one (a:=Zc3 a 7) q1.out;clear hw;have hld:=run_loadVar_row (P:=Tryz.prog) w'' w.heap.size 120 120 _ _ _ q0.out Tryz.underlying120 rfl (by kernel_rfl);have hle:(loadVar 58 ⟨w.heap.size+1,0,none⟩).run Tryz.prog w''= .ok (Zc3 a 7) w'':=by simp[go_sem,u0]
   exact⟨_,Zjo rfl _ _ _ _ _ _ rfl rfl hld hle,q2.out,Or.inl ⟨7,Y1.out,by decide,rfl⟩⟩
end Go.P
namespace Go.W
theorem Zfl {P:Program}{fn:Func}{p q:Tmp}{t1:TypeId}(h:fn.results=#[.cell p t1,.tmp q])(tmps:Array Value)(w:World)(g1:Addr)(v1 v2:Value)(hp:tmps.getD p undef= .pointer (some g1))(hq:tmps.getD q undef=v2)(h1:(loadVar t1 g1).run P w= .ok v1 w):(results fn tmps).run P w= .ok (.tuple #[v1,v2]) w:=by
 have hp':tmps[p]?.getD undef= .pointer (some g1):=by simpa using hp
 have hq':tmps[q]?.getD undef=v2:=by simpa using hq
 simp[results,h,hp',hq',asAddr,h1]
theorem _root_.Go.RowKit.Below.setRowAt {B g:Nat}{w u:World}(h:Below B w u)(nv:Array Value)(hB:B<=g):Below B w (u.setRow g nv):=⟨h.os,h.tape,h.output,by rw[setRow_size];exact h.size,fun j hj=>(setRow_other _ _ j _ (by omega)).trans (h.block j hj)⟩
end Go.W
namespace Go.P
variable {w:World}{vs:List Value}{x:Ch}{F:List Nat}{a:Nat->Addr}{l:By}
theorem Znm:(Tryz.prog.info? 120).map (·.size)=some Zay.size:=by kernel_rfl
theorem Zih.arr (h:Zih 4 w vs x F):vs.toArray.size=34/\vs.toArray.all (·.oneCell')=true/\(Tryz.prog.info? 120).map (·.size)=some vs.toArray.size:=by
 obtain⟨v,rfl,ht,hr⟩:=h;obtain⟨p,c,rfl⟩:=Zag.form hr;have hl:(Lib.byteCells x.tag).length=32:=by rw[Lib.byteCells_length,ht]
 exact⟨Zcm _ _ hl,Zfj _ _ _ _ _,Zcn _ _ hl⟩
theorem Zih.stable {w':World}(h:Zih 4 w vs x F)(k: ∀ j,j∈F->w'.heap[j]?=w.heap[j]?):Zih 4 w' vs x F:=by
 obtain⟨v,hv,ht,hr⟩:=h;exact⟨v,hv,ht,Zag.stable (Zeo.stable (ty:=Zad) 4) _ _ _ _ _ hr k⟩
theorem Zqq (V:Zbe)(CL:Zb5)(Z:Zap a w)(hl:l.length < 1000000000):
  Calls Tryz.prog 93 #[.string (ba l)] w (Znk a w (Zc7 Zd1 l)):=by
 have hmf:=Zg8;have B0:=fun o=>(Yct w.heap.size w).alloc lr o;have C:=Zaa (fun o=>Zll V CL (Z.below (B0 o)) hl);have L0:=Blk.new w Zay 120;clear Z V CL;go_enter Tryz.func93,Tryz.ntmps93
 go_wp2_with fail
 refine(C.out (.cells Zay 120)).mono ?_;rintro e w1 ⟨hb1,⟨n,hy,hn,rfl⟩ | ⟨x,vs,F,hy,rfl,hQ,hN⟩⟩
 ·have L1:=L0.of (hb1.block _ L0.lt);have BB:=Zaa ((B0 (.cells Zay 120)).trans (hb1.mono (by simp)));have HY:=Zaa hy;rw[Zah _ hn];clear hb1 hy C L0;go_wp2_with (refine wpList_store_row rfl 120 (.tmp 2) (.tmp 6) rfl w.heap.size Zay rfl rfl 120 Zay L1 Znm rfl (by kernel_rfl) ?_)
  refine bodyPost_ret (Zfl rfl _ _ _ _ _ rfl rfl (run_loadVar_row _ w.heap.size 120 120 _ _ _ (setRow_heap _ _ _ _ _ _ L1) Tryz.underlying120 rfl Znm)) rfl ?_;exact⟨BB.out.setRowAt _ lr,Or.inl ⟨n,HY.out,hn,by rw[Zah _ hn];rfl⟩⟩
 ·obtain⟨ha1,ha2,ha3⟩:=Zih.arr hQ;have L1:=L0.of (hb1.block _ L0.lt);have BB:=Zaa ((B0 (.cells Zay 120)).trans (hb1.mono (by simp)));have HY:=Zaa (Ycs hy (Ycs hQ hN));obtain⟨CV,hCV⟩: ∃ CV,Box (vs.toArray=CV):=⟨_,⟨rfl⟩⟩;rw[hCV.out]at ha1 ha2 ha3⊢;clear hb1 hy C L0 hQ hN;go_wp2_with (refine wpList_store_row rfl 120 (.tmp 2) (.tmp 6) rfl w.heap.size CV rfl rfl 120 Zay L1 ha3 (by rw[ha1];rfl) ha2 ?_)
  refine bodyPost_ret (Zfl rfl _ _ _ _ _ rfl rfl (run_loadVar_row _ w.heap.size 120 120 _ _ _ (setRow_heap _ _ _ _ _ _ L1) Tryz.underlying120 rfl ha3)) rfl ?_;have nw:=HY.out.2.2;exact⟨BB.out.setRowAt _ lr,Or.inr ⟨x,vs,F,HY.out.1,by rw[hCV.out];rfl,Zih.stable HY.out.2.1 (fun j hj=>setRow_other _ _ j _ (by have:=nw.ge j hj;simp at this;omega)),nw.later (by simp) (by rw[setRow_size];exact Ydu _)⟩⟩
theorem Zvl (V:Zbe)(CL:Zb5)(Z:Zap a w)(hl:l.length < 1000000000)(hx:Zc7 Zd1 l= .ok x)(hs:x.sealed=false):
  Calls Tryz.prog 42 #[.string (ba l)] w (Znk a w (.ok x)):=by
 have B0:=fun o=>(Yct w.heap.size w).alloc lr o;have C:=Zaa (fun o=>Zqq V CL (Z.below (B0 o)) hl);have L0:=Blk.new w Zay 120;have HX:=Zaa hx;clear Z V CL hx;go_enter Tryz.func42,Tryz.ntmps42
 go_wp2_with fail
 refine(C.out (.cells Zay 120)).mono ?_;rintro e w1 ⟨hb1,⟨n,hy,hn,rfl⟩ | ⟨y,vs,F,hy,rfl,hQ,hN⟩⟩
 ·rw[HX.out]at hy;cases hy
 obtain rfl:y=x:=by rw[HX.out]at hy;exact((Except.ok.inj hy)).symm
 obtain⟨ha1,ha2,ha3⟩:=Zih.arr hQ;have L1:=L0.of (hb1.block _ L0.lt);have BB:=Zaa ((B0 (.cells Zay 120)).trans (hb1.mono (by simp)));have HY:=Zaa (Ycs hQ hN);obtain⟨CV,hCV⟩: ∃ CV,Box (vs.toArray=CV):=⟨_,⟨rfl⟩⟩;have c0:CV[0]?=some (.bool false):=by
  obtain⟨v,rfl,_⟩:=hQ;rw[<- hCV.out,hs];rfl
 rw[hCV.out]at ha1 ha2 ha3⊢;have S1:=Blk.new w1 Zay 120;have S2:=setRow_heap _ _ _ CV _ _ S1;have x0: ∀ cs t,((w1.alloc (.cells cs t)).setRow w1.heap.size CV).cell? ⟨w1.heap.size,0,none⟩=some (.bool false):=fun cs t=>(Blk.cell (setRow_heap _ _ _ CV _ _ (Blk.new w1 cs t)) 0).trans c0;have L2:=(L1.alloc (.cells Zay 120)).of (setRow_other (w1.alloc (.cells Zay 120)) w1.heap.size w.heap.size CV (by have:=L1.lt;omega));have hlt:=Zaa L1.lt;clear hb1 hy C L0 hQ hN;go_wp2_with (first
  | (refine wpList_store_row rfl 120 (.tmp 4) (.tmp 9) rfl w1.heap.size CV rfl rfl 120 Zay S1 ha3 (by rw[ha1];rfl) ha2 ?_)
  | (refine wpList_load_row rfl 120 (.tmp 4) rfl w1.heap.size rfl 120 CV (0,0) _ S2 Tryz.underlying120 rfl ha3 ?_)
  | (refine wpList_store_row rfl 120 (.tmp 2) (.tmp 19) rfl w.heap.size CV rfl rfl 120 Zay L2 ha3 (by rw[ha1];rfl) ha2 ?_))
 refine bodyPost_ret (Zfl rfl _ _ _ _ _ rfl rfl (run_loadVar_row _ w.heap.size 120 120 _ _ _ (setRow_heap _ _ _ _ _ _ L2) Tryz.underlying120 rfl ha3)) rfl ?_;have nw:=HY.out.2;have hl1:=hlt.out;exact⟨((BB.out.alloc BB.out.size _).setRowAt _ BB.out.size).setRowAt _ lr,Or.inr ⟨_,vs,F,rfl,by rw[hCV.out];rfl,Zih.stable HY.out.1 (fun j hj=>by
  have g1:=nw.ge j hj;have g2:=nw.lt j hj;simp at g1;rw[setRow_other _ _ j _ (by omega),setRow_other _ _ j _ (by omega)];exact Ycx _ _ _ g2),nw.later (by simp) (by rw[setRow_size,setRow_size];simp)⟩⟩
end Go.P
namespace Go.W
def Zg7 (B:Nat) (w:World) (b o:Nat) (x:ByteArray):Prop:=b < B/\x.size < 1000000000/\ ∃ p1 n1 c1 p2 n2 c2 p3 n3 c3,w.cell? ⟨b,o,none⟩=some (.string x)/\w.cell? ⟨b,o+1,none⟩=some (.slice p1 n1 c1)/\w.cell? ⟨b,o+2,none⟩=some (.slice p2 n2 c2)/\w.cell? ⟨b,o+3,none⟩=some (.slice p3 n3 c3)
def Z9l (vs:List Value) (x:ByteArray):Prop:= ∃ p1 n1 c1 p2 n2 c2 p3 n3 c3,vs=[.string x,.slice p1 n1 c1,.slice p2 n2 c2,.slice p3 n3 c3]/\x.size < 1000000000
theorem Zg7.carry {B B':Nat}{w w':World}{b o:Nat}{x:ByteArray}(c:Zcw B B' w w')(h:Zg7 B w b o x):Zg7 B' w' b o x:=by
 obtain⟨hb,hx,p1,n1,c1,p2,n2,c2,p3,n3,c3,k0,k1,k2,k3⟩:=h;have cc:=fun o=>c.cell b o hb;exact⟨Ycz hb c.le,hx,p1,n1,c1,p2,n2,c2,p3,n3,c3,by rw[cc];exact k0,by rw[cc];exact k1,by rw[cc];exact k2,by rw[cc];exact k3⟩
end Go.W
namespace Go.P
theorem Zo1 {K B b:Nat}(hen:Zam K){first cap:Array Value}{f:ByteArray->ByteArray}{s:ByteArray}{w:World}{p:Option Addr}{xs:List ByteArray}{c:Nat}(h:Bld 80 B b s w)(hs:s.size+(Za4 f xs).size < 1000000000)(hrow:Zao 4 (Zg7 B w) p xs)(hB:B<=w.heap.size)
  (HC: ∀ u vs x s',x∈xs->Bld 80 B b s' u->Fr B b w u->Z9l vs x->s'.size+(f x).size < 1000000000->Calls Tryz.prog K (first.push (.agg vs.toArray)++cap) u (Zfw 80 B b (s'++f x) u)):
  Calls Tryz.prog 90 #[.pointer (some ⟨b,0,none⟩),.slice p xs.length c,.func (.func K) first cap] w (Zfw 80 B b (s++Za4 f xs) w):=by
 have hl:=hrow.len;have HR:=Zaa hrow;have HH:=Zaa HC;have hen': ∀ args w,(callFunc K args).run Tryz.prog w= .ok (.enter K args) w:=hen;have hz:s.size+((Zfi xs.length).size+(cat f xs).size) < 1000000000:=by rw[Za4,Zae]at hs;exact hs
 have EQ:Box (s++Zfi xs.length++cat f xs=s++Za4 f xs):=⟨by rw[Za4,Za2]⟩;have C:=Zaa (Zd2 Zfc h xs.length (by omega) (by omega) hB);have SZ:Box ((s++Zfi xs.length).size=s.size+(Zfi xs.length).size):=⟨Zae _ _⟩;clear hrow HC hen h hs;generalize s++Zfi xs.length=s1 at*;go_enter Tryz.func90,Tryz.ntmps90
 go_wp2_with fail
 refine C.out.mono ?_;rintro e w1 ⟨rfl,hb1,hw1⟩;have H1:=Zaa (Ycs hb1 hw1);clear hb1 hw1 C;go_wp2_with fail
 go_loopw [15] (fun iv wr=>Zli 80 B b s1 f w xs iv wr) (fun iv _=>xs.length - (intOf iv).toNat)
 case atStart=>exact⟨0,by omega,rfl,by simpa[cat]using H1.out.1,H1.out.2⟩
 case round=>
  obtain⟨q,hq,rfl,hbl,hbw⟩:=hrel;have HB:=Zaa (Ycs hbl hbw);by_cases hlt:q < xs.length
  ·have FD:=Zaa (Zix f hlt);have LE:=Zqr f xs (q+1);obtain⟨b1,o1,rfl,hx⟩:=HR.out.get q hlt;have hm:xs[q]∈xs:=Yd3 hlt;obtain⟨hb1,hS,p1,n1,c1,p2,n2,c2,p3,n3,c3,k0,k1,k2,k3⟩:=Zg7.carry (Go.W.Below.carry hbw.below lr) hx;have hsz:=Ycu hB hbw.size;rw[FD.out,Zae]at LE;have CC:=Zaa (HH.out _ _ _ _ hm (hbl.alloc (.cells #[.string xs[q],.slice p1 n1 c1,.slice p2 n2 c2,.slice p3 n3 c3] 114)) (hbw.alloc hsz _) ⟨p1,n1,c1,p2,n2,c2,p3,n3,c3,rfl,hS⟩ (by rw[Zae,SZ.out];omega));clear hbl hbw hx hm hS HH;go_wp2_with fail
   refine CC.out.mono ?_;rintro e w2 ⟨rfl,hb2,hw2⟩;have R:=Zaa (Ycs hb2 ((HB.out.2.alloc hsz _).trans hw2));clear hb2 hw2 CC;go_wp2_with fail
   go_roundw
   case rel=>exact⟨q+1,by omega,by go_num,by rw[FD.out,<- Za2];exact R.out.1,R.out.2⟩
   case measure=>simp[intOf];omega
  ·obtain rfl:q=xs.length:=by omega
   rw[Yd2]at hbl;have HB2:=Zaa (Ycs hbl hbw);clear hbl hbw HB;go_wp2_with fail
   go_end0
   exact⟨rfl,EQ.out▸HB2.out.1,HB2.out.2⟩
end Go.P
namespace Go.W
def Zf2 (S:Bool) (ts:List ByteArray) (tag:List UInt8):ByteArray:=((ba Zdc++b1 (if S then 1 else 0))++Za4 Zdk ts)++ba tag
end Go.W
namespace Go.P
variable {B b c:Nat}{s:ByteArray}{w:World}
theorem Z10 {T:Nat}(hT:Zwz T)(h:Bld T B b s w)(l:List UInt8){g o:Nat}(hg: ∀ j u,(Lib.byteCells l)[j]?=some u->w.cell? ⟨g,o+j,none⟩=some u){cs:Array Value}{t:TypeId}(hgb:Blk w g cs t)(hgn:g≠b)(htn:t≠5)(hs:s.size+l.length < 1000000000)(hB:B<=w.heap.size):
  Calls Tryz.prog 92 #[.pointer (some ⟨b,0,none⟩),.slice (some ⟨g,o,none⟩) l.length c] w fun e w'=>e= .returned (.tuple #[.int .i64 l.length,.nilIface])/\Bld T B b (s++ba l) w'/\Fr B b w w':=by
 obtain⟨i0,hi,hz0,hz1,hz2⟩:=info_parts Zkr;have C:=Zaa (Zhe hT h);have E:=Zaa (Zh5 s (ba l));have EB:Box (Lib.strCells (ba l)=Lib.byteCells l):=⟨by simp[Lib.strCells,Lib.byteCells,ba]⟩;have hTe:=hT.2;have hlen:(Lib.strCells s).length+l.length < 1000000000:=by rw[Lib.strCells_length];exact hs
 have HG:=Zaa (Ycs hg hgb);clear h hT hg hgb;rw[EB.out]at E;obtain⟨n,hn⟩: ∃ n,Box (l.length=n):=⟨_,⟨rfl⟩⟩;rw[hn.out]at hlen⊢;generalize Lib.strCells s=bs at*;go_enter Tryz.func92,Tryz.ntmps92
 go_wp2_with fail
 refine C.out.mono ?_;rintro e w1 ⟨rfl,⟨hBb,v,hbk,hown,hne⟩,hb1⟩;have G1:=hb1.blk HG.out.2 hgn htn;have hnews: ∀ j u,(Lib.byteCells l)[j]?=some u->w1.cell? ((⟨g,o,none⟩:Addr).add j)=some u:=fun j u hj=>by
  rw[Addr.add_lit,G1.cell,<- HG.out.2.cell];exact HG.out.1 j u hj
 obtain⟨va,vc,rfl⟩:=Zff hown;obtain⟨c0,c1,sf⟩:=Blk.two (w:=w1) (L:=b) (e:=T) hbk;have hlt:b < w1.heap.size:=Blk.lt (w:=w1) (L:=b) (e:=T) hbk;have hsz:=hb1.size;go_wp2_with (at_builtin;go_must (refine wpList_append_own _ rfl _ _ 76 rfl B 5 i0 _ 1 1 Tryz.underlying76 hi hz0 hz1 hz2 rfl (by decide) _ _ _ rfl hown ⟨g,o,none⟩ n c (Lib.byteCells l) rfl (by rw[Lib.byteCells_length,hn.out];omega) hnews (Lib.byteCells_one l) ?c3 ?c4 ?c5 ?_))
 case c3=>unfold maxLen;omega
 case c4=>omega
 case c5=>omega
 intro v2 w2 hown2 hgrow _;obtain⟨va2,vc2,rfl⟩:=Zff hown2;have hb2:w2.heap[b]?=some (.cells #[.pointer (some ⟨b,0,none⟩),.slice va bs.length vc] T (0,0)):=by
  rw[hgrow.block b hlt (fun e=>hne e.symm)];exact hbk
 obtain⟨d0,d1,sf2⟩:=Blk.two (w:=w2) (L:=b) (e:=T) hb2;have EL:(bs++Lib.byteCells l).length=bs.length+n:=by rw[Ydy,Lib.byteCells_length,hn.out]
 have R:=Zaa (Ycs (Lib.BuilderAt.put (T:=T) (e:=5) hBb hb2 (bs':=bs++Lib.byteCells l) (by rw[EL];exact hown2) hTe) (Fr.mk ((hb1.below.grown hgrow (by omega) (fun k hk=>(hown.lt k hk).1)).setCell (p:=⟨b,1,none⟩) hBb (.slice va2 (bs.length+n) vc2)) fun k cs t fz hk ht q=>by
  have q1:=hb1.kept k cs t fz hk ht q;have kl:=(Yc6.1 q1).1;rw[Ycy _ _ _ _ hk,hgrow.block k kl (fun e=>Lib.ownBlock_ne hown q1 ht e.symm)];exact q1))
 clear c0 c1 sf hown hown2 hgrow hb2 hbk hb1 hne C hnews G1 HG;go_wp2_with fail
 go_ret2
 exact⟨rfl,Or.inr (by rw[E.out];exact R.out.1),R.out.2⟩
theorem Z4b (h:Bld 80 B b s w){vs:List Value}{x:ByteArray}(hx:Z9l vs x)(hs:s.size+(Zdk x).size < 1000000000)(hB:B<=w.heap.size):
  Calls Tryz.prog 91 #[.pointer (some ⟨b,0,none⟩),.agg vs.toArray] w (Zfw 80 B b (s++Zdk x) w):=by
 obtain⟨p1,n1,c1,p2,n2,c2,p3,n3,c3,rfl,hxs⟩:=hx;have C:=Zaa (fun o=>Zry Zfc (h.alloc o) x hs (by simp;omega));clear h;go_enter Tryz.func91,Tryz.ntmps91
 go_wp2_with fail
 refine(C.out _).mono ?_;rintro e w1 ⟨rfl,hb1,hw1⟩;have R:=Zaa (Ycs hb1 (((Fr.refl B b w).alloc hB _).trans hw1));clear hb1 hw1 C;go_wp2_with fail
 go_end0
 exact⟨rfl,R.out.1,R.out.2⟩
theorem Zu3:Zam 91:=Zak Tryz.func91 (by kernel_rfl) rfl
theorem Ztz {S:Bool}{ts:List ByteArray}{tag:List UInt8}{p:Option Addr}(hB:B<=w.heap.size)(hrow:Zao 4 (Zg7 B w) p ts)(ht:tag.length=32)(hs:(Zf2 S ts tag).size < 1000000000):
  Calls Tryz.prog 41 #[.agg (Zau S (.slice p ts.length c) (Lib.byteCells tag))] w fun e w'=>e= .returned (.string (Zf2 S ts tag))/\Below w.heap.size w w':=by
 have hmf:=Zg8;obtain⟨CV,hCV⟩: ∃ CV,Box (Zau S (.slice p ts.length c) (Lib.byteCells tag)=CV):=⟨_,⟨rfl⟩⟩;have v0:CV[0]?=some (.bool S):=by rw[<- hCV.out];rfl
 have v1:CV[1]?=some (.slice p ts.length c):=by rw[<- hCV.out];rfl
 have v2:Box (∀ j u,(Lib.byteCells tag)[j]?=some u->CV[2+j]?=some u):=⟨fun j u hj=>by rw[<- hCV.out,Zau,Ydq,Nat.add_comm 2 j];exact hj⟩;rw[hCV.out];have BN:Bld 80 (w.heap.size+1) (w.heap.size+1) ByteArray.empty ((w.alloc (.cells CV 120)).alloc (.cells #[.pointer none,.slice none 0 0] 80)):=by
  have:=Lib.fresh_isBuilder 80 5 (w.alloc (.cells CV 120))
  simp only[Yc4]at this;exact this
 have KC:=Zaa ((Blk.new w CV 120).alloc (.cells #[.pointer none,.slice none 0 0] 80));have KB:=Zaa (((Yct w.heap.size w).alloc lr (.cells CV 120)).alloc (by simp) (.cells #[.pointer none,.slice none 0 0] 80));have hsz:(ba Zdc).size=4:=rfl;have hS1:Box ((ba Zdc).size+1+(Za4 Zdk ts).size+32 < 1000000000):=⟨by rw[Zf2,Zae,Zae,Zae,Zch,Ze7 tag,ht]at hs;exact hs⟩;have C1:=Zaa (Zie Zfc BN (ba Zdc) (by have:=hS1.out;simp;omega) (by simp));have HRW:=Zaa hrow;have HS:=Zaa hs;clear hrow hs BN;go_enter Tryz.func41,Tryz.ntmps41
 go_wp2_with fail
 refine C1.out.mono ?_;rintro e w1 ⟨rfl,hb1,hw1⟩;rw[show ByteArray.empty++ba Zdc=ba Zdc by simp]at hb1;have hs1:Box (w.heap.size+2<=w1.heap.size):=⟨by have:=hw1.size;simpa using this⟩;have c0:=((hw1.blk KC.out (by omega) (by decide)).cell 0).trans v0;have c1:=((hw1.blk KC.out (by omega) (by decide)).cell 1).trans v1;have C2:=Zaa (fun k (hk:k < 256)=>Zdi Zfc hb1 k hk (by have:=hS1.out;omega) (by have:=hs1.out;omega));have W1:=Zaa hw1;clear C1 hb1 hw1;have HF: ∃ s1,Box (s1=ba Zdc++b1 (if S then 1 else 0)):=⟨_,⟨rfl⟩⟩;obtain⟨s1,HF⟩:=HF;cases S
 case' false=>
  go_wp2_with fail
  refine(C2.out 0 (by decide)).mono ?_;rw[show ba Zdc++b1 0=s1 from HF.out.symm]
 case' true=>
  go_wp2_with fail
  refine(C2.out 1 (by decide)).mono ?_;rw[show ba Zdc++b1 1=s1 from HF.out.symm]
 all_goals
  rintro e w2 ⟨rfl,hb2,hw2⟩;have W2:=Zaa (W1.out.trans hw2);have hs2:Box (w.heap.size+2<=w2.heap.size):=⟨by have:=hs1.out;have:=hw2.size;omega⟩;have c1':=((W2.out.blk KC.out (by omega) (by decide)).cell 1).trans v1;have cr:Zcw B (w.heap.size+1) w w2:=⟨by omega,fun b o hb=>((W2.out.below.cell (p:=⟨b,o,none⟩) (by show b < w.heap.size+1;omega)).trans (KB.out.cell (p:=⟨b,o,none⟩) (by show b < w.heap.size;omega)))⟩;have hq:s1.size=5:=by rw[HF.out,Zae,Zch];rfl
  have C3:=Zaa (Zo1 (c:=c) Zu3 (first:=#[.pointer (some ⟨w.heap.size+1,0,none⟩)]) (cap:=#[]) (f:=Zdk) hb2 (by have:=hS1.out;omega) (HRW.out.carry fun b o x h=>Zg7.carry cr h) (by have:=hs2.out;omega) fun u vs x s' hx hbu hfu hlk hsz=>Z4b hbu hlk hsz (by have:=hfu.size;have:=hs2.out;omega));clear c0 c1 C2 hb2 hw2 cr W1;go_wp2_with fail
  refine C3.out.mono ?_;rintro e w3 ⟨rfl,hb3,hw3⟩;have W3:=Zaa (W2.out.trans hw3);have hs3:Box (w.heap.size+2<=w3.heap.size):=⟨by have:=hs2.out;have:=hw3.size;omega⟩;have K3:=W3.out.blk KC.out (show w.heap.size≠w.heap.size+1 by omega) (by decide);have hq3:(s1++Za4 Zdk ts).size=s1.size+(Za4 Zdk ts).size:=Zae _ _;have C4:=Zaa (Z10 Zfc hb3 tag (g:=w.heap.size) (o:=2) (c:=32) (fun j u hj=>(K3.cell _).trans (v2.out j u hj)) K3 (by omega) (by decide) (by rw[hq3,ht];have:=hS1.out;omega) (by have:=hs3.out;omega));rw[ht]at C4;clear c1' C3 hb3 hw3 W2 K3;go_wp2_with fail
  refine C4.out.mono ?_;rintro e w4 ⟨rfl,hb4,hw4⟩;have W4:=Zaa (W3.out.trans hw4);have hs4:Box (w.heap.size+2<=w4.heap.size):=⟨by have:=hs3.out;have:=hw4.size;omega⟩;rw[HF.out]at hb4;have C5:=Zaa (Zq7 hb4 HS.out (by have:=hs4.out;omega));clear C4 hb4 hw4 W3;go_wp2_with fail
  refine C5.out.mono ?_;rintro e w5 ⟨rfl,hb5⟩;have R:=Zaa (KB.out.trans ((W4.out.below.trans hb5).mono (by omega)));clear hb5 C5;go_wp2_with fail
  go_ret
  exact⟨rfl,R.out⟩
end Go.P
namespace Go.W
open Go
def Z8z (i1 i2 i3 i4:Nat) (d1 d2 d3 d4:Bool):List Nat:=(if d1 then []else [i1])++((if d2 then(if d3 then []else [i3])else [i2])++(if d4 then []else [i4]))
def Zzb (d1 d2 d3 d4:Bool):Nat:=(if d1 then 0 else 1)+(if d2 then 0 else 1)+(if d3 then 0 else 1)+(if d4 then 0 else 1)
def Zl5 (P:Program) (ops:Array Oper) (Q:Exit->Act->World->Prop) (o:Oper) (a:Act) (w:World) (K:Act->World->Prop):Prop:=if Region.wanted o (yielded ops a.tmps)=true then Oper.wp P o a w K Q else K (a.put o.dst undef) w
theorem Z0f {P:Program}{ops:Array Oper}{Q:Exit->Act->World->Prop}{S:World->Prop}(L:Bool->Bool->Bool->Bool->Array Bool)(i1 i2 i3 i4:Nat)(o1 o2 o3 o4:Oper)(J:Bool->Bool->Bool->Bool->Act->World->Prop)(fuel:Nat)(hS: ∀ d1 d2 d3 d4 a w,J d1 d2 d3 d4 a w->S w)
  (ho1:ops[i1]?=some o1) (ho2:ops[i2]?=some o2) (ho3:ops[i3]?=some o3) (ho4:ops[i4]?=some o4)
  (hr: ∀ d1 d2 d3 d4,(d3=true->d2=true)->(d1 && d3)=false->Region.ready .any ops (L d1 d2 d3 d4)=Z8z i1 i2 i3 i4 d1 d2 d3 d4)
  (h1: ∀ d2 d3 d4,(L false d2 d3 d4).setIfInBounds i1 true=L true d2 d3 d4) (h2: ∀ d1 d3 d4,(L d1 false d3 d4).setIfInBounds i2 true=L d1 true d3 d4) (h3: ∀ d1 d2 d4,(L d1 d2 false d4).setIfInBounds i3 true=L d1 d2 true d4) (h4: ∀ d1 d2 d3,(L d1 d2 d3 false).setIfInBounds i4 true=L d1 d2 d3 true)
  (s1: ∀ d2 d3 d4 a w,J false d2 d3 d4 a w-> ∀ K,(∀ a' w',J true d2 d3 d4 a' w'->K a' w')->Zl5 P ops Q o1 a w K)
  (s2: ∀ d1 d4 a w,J d1 false false d4 a w-> ∀ K,(∀ a' w',J d1 true false d4 a' w'->K a' w')->Zl5 P ops Q o2 a w K)
  (s3: ∀ d1 d4 a w,J d1 true false d4 a w-> ∀ K,(∀ a' w',J d1 true true d4 a' w'->K a' w')->Zl5 P ops Q o3 a w K)
  (s4: ∀ d1 d2 d3 a w,J d1 d2 d3 false a w-> ∀ K,(∀ a' w',J d1 d2 d3 true a' w'->K a' w')->Zl5 P ops Q o4 a w K)
  (hend: ∀ d4 a w,J true true true d4 a w->wpAnyH P .any ops Q S (fuel+Zzb true true true d4) (L true true true d4) a w):
  ∀ n d1 d2 d3 d4,Zzb d1 d2 d3 d4=n->(d3=true->d2=true)-> ∀ a w,J d1 d2 d3 d4 a w->wpAnyH P .any ops Q S (fuel+n) (L d1 d2 d3 d4) a w:=by
 intro n;induction n with
 | zero=>
  intro d1 d2 d3 d4 hn h32 a w hJ;cases d1 <;> cases d2 <;> cases d3 <;> cases d4 <;> first | (exact absurd hn (by decide)) | exact hend true a w hJ
 | succ n ih=>
  intro d1 d2 d3 d4 hn h32 a w hJ;by_cases h13:(d1 && d3)=true
  ·obtain⟨rfl,rfl⟩:=Bool.and_eq_true_iff.1 h13;obtain rfl:=h32 rfl
   have:=hend d4 a w hJ
   rw[hn]at this;exact this
  have h13:(d1 && d3)=false:=by simpa using h13
  have hrr:=hr d1 d2 d3 d4 h32 h13;refine⟨fun h0=>?_,fun i hi=>?_⟩
  ·rw[hrr]at h0;cases d1 <;> cases d2 <;> cases d3 <;> cases d4 <;> first | (simp[Z8z]at h0;done) | (simp at h13;done)
  ·rw[hrr]at hi;unfold Z8z at hi;rcases Yc2.1 hi with hi | hi
   ·cases d1 with
    | true=>cases hi
    | false=>
     obtain rfl:i=i1:=by simpa using hi
     refine wpOp_step ho1 fun K hK=>s1 _ _ _ _ _ hJ K fun a' w' hJ'=>hK a' w' ⟨hS _ _ _ _ _ _ hJ',?_⟩;rw[h1];exact ih _ _ _ _ (by simp[Zzb]at hn⊢;omega) h32 _ _ hJ'
   ·rcases Yc2.1 hi with hi | hi
    ·cases d2 with
     | true=>
      cases d3 with
      | true=>cases hi
      | false=>
       obtain rfl:i=i3:=by simpa using hi
       refine wpOp_step ho3 fun K hK=>s3 _ _ _ _ hJ K fun a' w' hJ'=>hK a' w' ⟨hS _ _ _ _ _ _ hJ',?_⟩;rw[h3];exact ih _ _ _ _ (by simp[Zzb]at hn⊢;omega) (fun _=>rfl) _ _ hJ'
     | false=>
      obtain rfl:i=i2:=by simpa using hi
      obtain rfl:d3=false:=by cases d3 with
       | false=>rfl
       | true=>exact absurd (h32 rfl) (by decide)
      refine wpOp_step ho2 fun K hK=>s2 _ _ _ _ hJ K fun a' w' hJ'=>hK a' w' ⟨hS _ _ _ _ _ _ hJ',?_⟩;rw[h2];exact ih _ _ _ _ (by simp[Zzb]at hn⊢;omega) (fun h=>by cases h) _ _ hJ'
    ·cases d4 with
     | true=>cases hi
     | false=>
      obtain rfl:i=i4:=by simpa using hi
      refine wpOp_step ho4 fun K hK=>s4 _ _ _ _ _ hJ K fun a' w' hJ'=>hK a' w' ⟨hS _ _ _ _ _ _ hJ',?_⟩;rw[h4];exact ih _ _ _ _ (by simp[Zzb]at hn⊢;omega) h32 _ _ hJ'
end Go.W
