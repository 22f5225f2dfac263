import Derived.Test.YtmebjfclpalmaaaGreatDoorW14
set_option maxRecDepth 100000
set_option maxHeartbeats 8000000
set_option linter.unusedSimpArgs false
open Go.Proofs Go.RowKit Go.W Tryz
namespace Go.P
variable {t:List Value}{b:Nat}{w:World}
def Zal:Array Value:=#[.bool false,.slice none 0 0,.int .u8 0,.int .u8 0,.int .u8 0,.int .u8 0,.int .u8 0,.int .u8 0,.int .u8 0,.int .u8 0,.int .u8 0,.int .u8 0,.int .u8 0,.int .u8 0,.int .u8 0,.int .u8 0,.int .u8 0,.int .u8 0,.int .u8 0,.int .u8 0,.int .u8 0,.int .u8 0,.int .u8 0,.int .u8 0,.int .u8 0,.int .u8 0,.int .u8 0,.int .u8 0,.int .u8 0,.int .u8 0,.int .u8 0,.int .u8 0,.int .u8 0,.int .u8 0]
def Zhx (d:Nat):Zgj Ch:=fun w vs x F=> ∃ v,vs= .bool x.sealed::v::Lib.byteCells x.tag/\x.tag.length=32/\Zag 108 4 (Zex Zad d) w v x.links F
def Zap (s:Bool) (v:Value) (t:List Value):Array Value:=(.bool s::v::t).toArray
theorem Zbt (s:Bool)(v:Value)(h:t.length=32):(Zap s v t).size=34:=by simp[Zap,h]
theorem Zb0 (s:Bool)(v:Value)(h:t.length=32):(prog.info? 91).map (·.size)=some (Zap s v t).size:=by rw[Zbt s v h];kernel_rfl
theorem Zzv (S:Bool)(v:Value){z:List Value}(hz:z.length=32){t:By}(ht:t.length=32):((Zap S v z).toList.take 2++Lib.byteCells ((ba t).data.toList.take 32)++(Zap S v z).toList.drop (2+32)).toArray=Zap S v (Lib.byteCells t):=by
 have e1:(ba t).data.toList.take 32=t:=by rw[<- ht];simp[ba]
 rw[e1];simp[Zap,hz]
theorem Zd8 (S:Bool)(p:Option Addr)(n c:Nat)(t:List UInt8):(Zap S (.slice p n c) (Lib.byteCells t)).all (·.oneCell')=true:=by
 unfold Zap;rw[List.all_toArray,Ye1];intro x hx;rcases Ydj.1 hx with rfl | hx
 ·rfl
 rcases Ydj.1 hx with rfl | hx
 ·rfl
 exact Lib.byteCells_one _ x hx
theorem Zah.setRowNew {L:Nat}{w0:World}(h:Zah b w0 w)(nv:Array Value)(hL:w0.heap.size<=L):Zah b w0 (w.setRow L nv):=⟨h.os,h.tape,h.output,by rw[Yfd];exact h.size,fun j hj hne=>(Ye8 _ _ j nv (by omega)).trans (h.block j hj hne)⟩
theorem Ztx:Zaq 114:=Zam func114 (by kernel_rfl) rfl
theorem Zz4 (V:Zav)(CL:Zbh){a:Nat->Addr}{l:By}(Z:Zao a w)(h:Dc w b l):
  Calls prog 72 #[.pointer (some ⟨b,0,none⟩)] w (Zev a b (Zlh (Zhx 4) w.heap.size) w (Zcf l)):=by
 have hb:=h.1.lt;have hgb:=h.2.2;have K0:=Zaa ((Zah.refl b w).alloc (.cells Zal 91));have L0:=Zaa (Blk.new w Zal 91);have C:=Zaa (Zk7 (Z.keeps K0.out hgb) (h.alloc (.cells Zal 91)) 4 (by decide));have ZZ:=Zaa Z;have VC:=Zaa (Yda V CL);clear Z h V CL;go_in
 go_wp2_with fail
 refine C.out.mono ?_;rintro e w1 ⟨hk1,⟨i,hy,hi,rfl⟩ | ⟨m,r1,v,hy,rfl,rfl,hd1⟩⟩
 ·exact⟨rfl,K0.out.trans hk1,Or.inl ⟨i,De.then_error hy,hi,rfl⟩⟩
 have K1:=Zaa (K0.out.trans hk1);have Y:Box (Zcf l=(if m≠Zcj then fun _=> .error 7 else Zf9.then Znp) r1):=⟨De.then_ok hy⟩;have L1:=Zaa (L0.out.of (hk1.block w.heap.size (by simp) (by omega)));have hs1:=Zaa L1.out.lt;have Z1:=Zaa (ZZ.out.keeps K1.out hgb);have HD1:=Zaa hd1;clear hy hk1 hd1 C L0 K0;by_cases hm:m=Zcj
 case neg=>
  have Y7:Box (Zcf l= .error 7):=⟨by rw[Y.out,if_pos hm]⟩;have g:((ba m).toList==[119,114,116,49])=false:=by
   rw[Yd3,Ye4];exact fun h=>hm h
  have z7:=Z1.out.c7;have CR:=Zaa (Zbp a b w1 (n:=7) (by decide));generalize ba m=M at*;clear Y hm;go_wp2_with fail
  refine mq CR.out ?_;rintro w2 rfl;exact⟨rfl,K1.out,Or.inl ⟨7,Y7.out,by decide,rfl⟩⟩
 have Y1:Box (Zcf l=Zf9.then Znp r1):=⟨by rw[Y.out,if_neg (fun h=>h hm)]⟩;have g:ba m=⟨#[119,114,116,49]⟩:=by rw[hm];rfl
 have HM:=Zaa g;clear Y hm;rw[g];clear g;have C2:=Zaa (Zkh (Z1.out.keeps ((Zah.refl b w1).alloc (.cells Zal 91)) hgb) (HD1.out.alloc (.cells Zal 91)));go_wp2_with fail
 refine C2.out.mono ?_;rintro e w2 ⟨hk2,⟨i,hy,hi,rfl⟩ | ⟨s,r2,v,hy,rfl,⟨rfl,hs⟩,hd2⟩⟩
 ·exact⟨rfl,(K1.out.alloc _).trans hk2,Or.inl ⟨i,Y1.out.trans (De.then_error hy),hi,rfl⟩⟩
 have K2:=Zaa ((K1.out.alloc _).trans hk2);have Y2:=Zaa (Y1.out.trans (De.then_ok hy));have L2:=Zaa ((L1.out.alloc (.cells Zal 91)).of (hk2.block w.heap.size (by have:=hs1.out;simp;omega) (by omega)));have M2:=Zaa ((Blk.new w1 Zal 91).of (hk2.block w1.heap.size (by simp) (by have:=HD1.out.1.lt;omega)));have hs2:=Zaa M2.out.lt;have hbn:Box (b < w1.heap.size):=⟨HD1.out.1.lt⟩;have Z2:=Zaa (ZZ.out.keeps K2.out hgb);have HD2:=Zaa hd2;clear hy hk2 hd2 C2 Y1 L1 HD1 Z1 K1;have hmf:=Zgm;by_cases gs:1 < s
 ·have Y7:Box (Zcf l= .error 7):=⟨by rw[Y2.out,Znp,if_pos gs]⟩;have g0:((s:Int)==0)=false:=by rw[Ye4];omega
  have g1:((s:Int)==1)=false:=by rw[Ye4];omega
  have z7:=Z2.out.c7;have CR:=Zaa (Zbp a b w2 (n:=7) (by decide));clear Y2;go_wp2_with fail
  refine mq CR.out ?_;rintro w3 rfl;exact⟨rfl,K2.out,Or.inl ⟨7,Y7.out,by decide,rfl⟩⟩
 have Y3:Box (Zcf l=(Zbu 8 Zks).then (Zql s) r2):=⟨by rw[Y2.out,Znp,if_neg gs]⟩;have g2:s=0\/s=1:=by omega
 clear Y2 gs;rcases g2 with g2 | g2
 case' inl=>
  obtain⟨S,hS⟩: ∃ S,Box ((s==1)=S/\S=false):=⟨_,⟨rfl,by rw[g2];rfl⟩⟩;have M3:Box (Blk w2 w1.heap.size (Zap S (.slice none 0 0) (List.replicate 32 (.int .u8 0))) 91):=⟨by rw[hS.out.2];exact M2.out⟩;have K3:=Zaa K2.out;have L3:=Zaa L2.out;have Z3:=Zaa Z2.out;have HD3:=Zaa HD2.out;have g0:((s:Int)==0)=true:=by rw[Yfb];omega
  clear g2 M2 K2 L2 Z2 HD2;go_wp2_with fail
  obtain⟨W3,hW⟩: ∃ W,w2=W:=⟨_,rfl⟩;rw[hW]at M3 K3 L3 Z3 HD3 hs2⊢;clear hW
 case' inr=>
  obtain⟨S,hS⟩: ∃ S,Box ((s==1)=S/\S=true):=⟨_,⟨rfl,by rw[g2];rfl⟩⟩;have z0:w2.cell? ⟨w1.heap.size,0,none⟩=some (.bool false):=M2.out.cell 0;have z1:=M2.out.soft;have g0:((s:Int)==0)=false:=by rw[Ye4];omega
  have g1:((s:Int)==1)=true:=by rw[Yfb];omega
  have M3:Box (Blk (w2.setCell ⟨w1.heap.size,0,none⟩ (.bool true)) w1.heap.size (Zap S (.slice none 0 0) (List.replicate 32 (.int .u8 0))) 91):=⟨by rw[hS.out.2];exact M2.out.set 0 (.bool true)⟩;have K3:=Zaa (K2.out.setNew w1.heap.size 0 (.bool true) (by have:=hs1.out;omega));have L3:=Zaa (L2.out.away w1.heap.size 0 (by have:=hs1.out;omega) (.bool true));have Z3:=Zaa (ZZ.out.keeps K3.out hgb);have HD3:=Zaa (HD2.out.of (Ydg _ ⟨w1.heap.size,0,none⟩ (.bool true) b (by have:=hbn.out;show b≠w1.heap.size;omega)));clear g2 K2 L2 Z2 HD2 M2;go_wp2_with fail
  clear z0 z1;obtain⟨W3,hW⟩: ∃ W,w2.setCell ⟨w1.heap.size,0,none⟩ (.bool true)=W:=⟨_,rfl⟩;have hs2':Box (w1.heap.size < W3.heap.size):=⟨by rw[<- hW];simpa using hs2.out⟩;rw[hW]at M3 K3 L3 Z3 HD3⊢;clear hW hs2;have hs2:=Zaa hs2'.out;clear hs2'
 all_goals
  have C3:=Zaa (Znt (d:=4) (f:=Zks) Ztx (first:=#[.pointer (some ⟨b,0,none⟩)]) (cap:=#[]) (m:=8) Z3.out HD3.out (by omega) fun u r hu=>Z2w VC.out.1 VC.out.2 hu.2.2 hu.1);refine C3.out.mono ?_;rintro e w4 ⟨hk4,⟨i,hy,hi,rfl⟩ | ⟨xs,r4,v,hy,rfl,⟨F,hR,hN⟩,hd4⟩⟩
  ·exact⟨rfl,K3.out.trans hk4,Or.inl ⟨i,Y3.out.trans (De.then_error hy),hi,rfl⟩⟩
  obtain⟨p1,c1,rfl⟩:=Zag.form hR;have K4:=Zaa (K3.out.trans hk4);have Y4:=Zaa (Y3.out.trans (De.then_ok hy));have M4:=Zaa (M3.out.of (hk4.block _ hs2.out (by have:=hbn.out;omega)));have L4:=Zaa (L3.out.of (hk4.block _ (by have:=hs1.out;have:=hs2.out;omega) (by omega)));have HR:=Zaa (Yda hR hN);have HD4:=Zaa hd4;have hs4:Box (w1.heap.size < w4.heap.size):=⟨M4.out.lt⟩;have hs34:=Zaa hk4.size;have z1:w4.cell? ⟨w1.heap.size,1,none⟩=some (.slice none 0 0):=M4.out.cell 1;have zs:=M4.out.soft;clear hy hk4 hR hN hd4 C3 Y3 M3 L3 Z3 HD3 K3;by_cases hx:xs.length=0
  ·have Y7:Box (Zcf l= .error 7):=⟨by rw[Y4.out,Zql,if_pos hx]⟩;have z7:=(ZZ.out.keeps (K4.out.setNew w1.heap.size 1 (.slice p1 xs.length c1) (by have:=hs1.out;omega)) hgb).c7;have CR:=Zaa (fun u=>Zbp a b u (n:=7) (by decide));have gx:((xs.length:Int)==0)=true:=by rw[Yfb];omega
   generalize xs.length=N at*;clear Y4 hx;go_wp2_with fail
   refine(CR.out _).mono ?_;rintro e w5 ⟨rfl,rfl⟩;exact⟨rfl,K4.out.setNew _ _ _ (by have:=hs1.out;omega),Or.inl ⟨7,Y7.out,by decide,rfl⟩⟩
  have gx:((xs.length:Int)==0)=false:=by rw[Ye4];omega
  have Y5:Box (Zcf l=(Zfp 32).map (fun t=>(⟨s==1,xs,t⟩:Ch)) r4):=⟨by rw[Y4.out,Zql,if_neg hx]⟩;go_wp2_with fail
  have K5:=Zaa (K4.out.setNew w1.heap.size 1 (.slice p1 xs.length c1) (by have:=hs1.out;omega));have M5:Box (Blk (w4.setCell ⟨w1.heap.size,1,none⟩ (.slice p1 xs.length c1)) w1.heap.size (Zap S (.slice p1 xs.length c1) (List.replicate 32 (.int .u8 0))) 91):=⟨M4.out.set 1 (.slice p1 xs.length c1)⟩;have L5:=Zaa (L4.out.away w1.heap.size 1 (by have:=hs1.out;omega) (.slice p1 xs.length c1));have D5:=Zaa (HD4.out.of (Ydg w4 ⟨w1.heap.size,1,none⟩ (.slice p1 xs.length c1) b (by have:=hbn.out;show b≠w1.heap.size;omega)));have R5:Box (Zag 108 4 (Zex Zad 4) (w4.setCell ⟨w1.heap.size,1,none⟩ (.slice p1 xs.length c1)) (.slice p1 xs.length c1) xs F):=⟨Zag.stable (Zex.stable (ty:=Zad) 4) _ _ _ _ _ HR.out.1 fun j hj=>Ydg _ _ _ _ (by have:=HR.out.2.ge j hj;have:=hs2.out;show j≠w1.heap.size;omega)⟩;have N5:Box (Za7 W3.heap.size (w4.setCell ⟨w1.heap.size,1,none⟩ (.slice p1 xs.length c1)) F):=⟨HR.out.2.later lr (by simp)⟩;have hs5:Box (w1.heap.size < (w4.setCell ⟨w1.heap.size,1,none⟩ (.slice p1 xs.length c1)).heap.size/\W3.heap.size<=(w4.setCell ⟨w1.heap.size,1,none⟩ (.slice p1 xs.length c1)).heap.size):=⟨by simpa using Yda hs4.out hs34.out⟩;clear K4 M4 L4 HD4 HR z1 zs hs4 hs34 Y4;generalize w4.setCell ⟨w1.heap.size,1,none⟩ (.slice p1 xs.length c1)=W5 at*;have CT:=Zaa (Zk7 (ZZ.out.keeps K5.out.drew hgb) D5.out.drew 32 (by decide));go_region_with (first
   | (go_at_call 111
      refine CT.out.mono ?_;rintro e w6 ⟨hk6,⟨i,hy,hi,rfl⟩ | ⟨t,r6,v,hy,rfl,rfl,hd6⟩⟩
      ·exact⟨rfl,K5.out.drew.trans hk6,Or.inl ⟨i,Y5.out.trans (De.map_error hy),hi,rfl⟩⟩
      have htl:=(Zu6 hy).1;have Y6:=Zaa (Y5.out.trans (De.map_ok hy));have M6:=M5.out.of (hk6.block _ hs5.out.1 (by have:=hbn.out;omega));have hcp:=Zx4 (P:=prog) w6 74 9 3 5 w1.heap.size 2 32 32 32 (ba t) _ 91 underlying74 (by kernel_rfl) M6 (by rw[Zcx,htl];rfl) (by rw[Zbt _ _ (by simp)];decide);rw[Zzv _ _ (by simp) htl]at hcp))
  all_goals
   have hlen:(Lib.byteCells t).length=32:=by rw[Lib.byteCells_length,htl]
   have h1:=hs1.out;have h5:=hs5.out;have hbn':=hbn.out;have hs6:=hk6.size;have C7:=Yfe _ _ _ (Zap S (.slice p1 xs.length c1) (Lib.byteCells t)) _ _ M6;have L7:=Blk.of (L5.out.of (hk6.block _ (show w.heap.size < W5.heap.size by omega) (by omega))) (Ye8 w6 w1.heap.size w.heap.size (Zap S (.slice p1 xs.length c1) (Lib.byteCells t)) (by omega));have K8:=Zaa ((Zah.setRowNew (L:=w1.heap.size) (K5.out.drew.trans hk6) (Zap S (.slice p1 xs.length c1) (Lib.byteCells t)) (by omega)));have K9:=Zaa (Zah.setRowNew (L:=w.heap.size) K8.out (Zap S (.slice p1 xs.length c1) (Lib.byteCells t)) lr);have HK6:=Zaa hk6;have HD6:=Zaa hd6;have R8:=Yfe _ _ _ (Zap S (.slice p1 xs.length c1) (Lib.byteCells t)) _ _ L7;clear hk6 hd6 hy hcp;go_wp2_with (first
    | (refine Yfh rfl 91 (.tmp 3) rfl w1.heap.size rfl 91 (Zap S (.slice p1 xs.length c1) (Lib.byteCells t)) (0,0) _ C7 underlying91 rfl (Zb0 _ _ hlen) ?_)
    | (refine Yfa rfl 91 (.tmp 2) (.tmp 37) rfl w.heap.size (Zap S (.slice p1 xs.length c1) (Lib.byteCells t)) rfl rfl 91 Zal L7 (Zb0 _ _ hlen) (by rw[Zbt _ _ hlen];rfl) (Zd8 _ _ _ _ _) ?_))
   refine Ye6 (results_cell_row (p:=2) (ty:=91) rfl _ _ w.heap.size 91 (Zap S (.slice p1 xs.length c1) (Lib.byteCells t)) (0,0) _ rfl R8 underlying91 rfl (Zb0 _ _ hlen)) rfl ?_;have st: ∀ j,j≠w.heap.size->j≠w1.heap.size->j≠b->j < W5.heap.size->((w6.setRow w1.heap.size (Zap S (.slice p1 xs.length c1) (Lib.byteCells t))).setRow w.heap.size (Zap S (.slice p1 xs.length c1) (Lib.byteCells t))).heap[j]?=W5.heap[j]?:=fun j j1 j2 j3 j4=>(Ye8 _ _ j _ j1).trans ((Ye8 _ _ j _ j2).trans (HK6.out.block j j4 j3));exact⟨K9.out,Or.inr ⟨_,r6,_,Y6.out,rfl,⟨.bool S:: .slice p1 xs.length c1::Lib.byteCells t,F,rfl,⟨_,by rw[<- hS.out.1],htl,Zag.stable (Zex.stable (ty:=Zad) 4) _ _ _ _ _ R5.out fun j hj=>st j (by have:=N5.out.ge j hj;have:=hs2.out;omega) (by have:=N5.out.ge j hj;have:=hs2.out;omega) (by have:=N5.out.ge j hj;have:=hs2.out;omega) (N5.out.lt j hj)⟩,N5.out.later (by have:=hs2.out;omega) (by rw[Yfd,Yfd];exact hs6)⟩,HD6.out.of ((Ye8 _ _ b _ (by omega)).trans (Ye8 _ _ b _ (by omega)))⟩⟩
end Go.P
namespace Go.W
theorem Zj6 {P:Program}{fn:Func}{p q:Tmp}{t1 t2:TypeId}(h:fn.results=#[.cell p t1,.cell q t2])(tmps:Array Value)(w:World)(g1 g2:Addr)(v1 v2:Value)(hp:tmps.getD p undef= .pointer (some g1))(hq:tmps.getD q undef= .pointer (some g2))(h1:(loadVar t1 g1).run P w= .ok v1 w)(h2:(loadVar t2 g2).run P w= .ok v2 w):(results fn tmps).run P w= .ok (.tuple #[v1,v2]) w:=by
 have hp':tmps[p]?.getD undef= .pointer (some g1):=by simpa using hp
 have hq':tmps[q]?.getD undef= .pointer (some g2):=by simpa using hq
 simp[results,h,hp',hq',asAddr,h1,h2]
end Go.W
namespace Go.P
theorem Zij (b:Nat)(x:Value)(a:Nat->Addr){n:Int}(hn:n≠0)(w:World)(hc:w.cell? ⟨b,0,none⟩=some x)(hf:w.frozen? ⟨b,0,none⟩=false):CallsD prog 109 #[.pointer (some ⟨b,0,none⟩)] (.panicking [{v:= .iface 224 (.agg #[Zcm a n]),recovered:=false}]) w fun e u' w'=>
  e= .returned (.tuple #[])/\u'= .panicking [{v:= .iface 224 (.agg #[Zcm a n]),recovered:=true}]/\w'=(w.alloc (.cells #[Zcm a n] 224)).setCell ⟨b,0,none⟩ (Zcm a n):=by
 rw[Zaf _ hn];have hbl:=Zbi hc;refine callsD_of_wpS func109 rfl fun c₀ cs hu=>?_;apply wpS_seq
 apply wpS_region
 simp[wpOpsS,go_sem,recoverD,hu,ntmps109,Exit.thenS,Array.replicate,List.replicate];refine wpS_of_wp ?_;have ta:=Zjl;go_wp2_with fail
 simp[bodyPostS,results,results109]
theorem Zti (b:Nat)(w:World):CallsD prog 109 #[.pointer (some ⟨b,0,none⟩)] .returning w fun e u' w'=>e= .returned (.tuple #[])/\u'= .returning/\w'=w:=by
 refine callsD_of_wpS func109 rfl fun c₀ cs hu=>?_;apply wpS_seq
 apply wpS_region
 simp[wpOpsS,go_sem,recoverD,hu,ntmps109,Exit.thenS,Array.replicate,List.replicate];refine wpS_of_wp ?_;go_wp2_with fail
 cases c₀;simp_all [bodyPostS,results,results109]
def Zka (a:Nat->Addr) (w:World) (Y:Except Int Ch) (e:Ending) (w':World):Prop:=
 Below w.heap.size w w'/\((∃ n,Y= .error n/\n≠0/\e= .returned (.tuple #[.agg Zal,Zcm a n]))\/ ∃ x vs F,Y= .ok x/\e= .returned (.tuple #[.agg vs.toArray,.nilIface])/\Zhx 4 w' vs x F/\Za7 w.heap.size w' F)
theorem Zr1:Zaq 72:=Zam func72 (by kernel_rfl) rfl
theorem Zln (V:Zav)(CL:Zbh){a:Nat->Addr}{w:World}{l:By}(Z:Zao a w)(hl:l.length < 1000000000):
  Calls prog 71 #[.string (ba l),.func (.func 72) #[] #[]] w (Zka a w (Zb1 Zcf l)):=by
 have hmf:=Zgm;have hg:=Z.size;have hen': ∀ args w,(callFunc 72 args).run prog w= .ok (.enter 72 args) w:=Zr1;have B0:=Zaa ((((Ydb w.heap.size w).alloc lr (.cells Zal 91)).alloc (by simp) (.cells #[.nilIface] 62)).alloc (by simp;omega) (.cells #[.string (ba l)] 226));have LR:=Zaa (((Blk.new w Zal 91).alloc (.cells #[.nilIface] 62)).alloc (.cells #[.string (ba l)] 226));have LE:=Zaa ((Blk.new (w.alloc (.cells Zal 91)) #[.nilIface] 62).alloc (.cells #[.string (ba l)] 226));have LD:=Zaa (Blk.new ((w.alloc (.cells Zal 91)).alloc (.cells #[.nilIface] 62)) #[.string (ba l)] 226);simp only[Ydm]at LE LD;have C:=Zaa (Zz4 V CL (Z.below B0.out) (b:=w.heap.size+1+1) (l:=l) ⟨LD.out,hl,by omega⟩);have ZZ:=Zaa Z;clear Z CL V LD;go_enter_defers func71,ntmps71
 go_wp2_with fail
 refine C.out.mono ?_;rintro e w1 ⟨hk1,⟨n,hy,hn,rfl⟩ | ⟨x,r,v,hy,rfl,⟨vs,F,rfl,hQ,hN⟩,hd1⟩⟩
 ·have LR1:=LR.out.of (hk1.block w.heap.size (by simp;omega) (by omega));have LE1:=LE.out.of (hk1.block (w.heap.size+1) (by simp) (by omega));have B1:=Zaa (B0.out.trans (hk1.below (B:=w.heap.size) (by omega) (by simp;omega)));obtain⟨y0,sy⟩:=LE1.one;have q0:=Zaa ((LR1.alloc (.cells #[Zcm a n] 224)).away (w.heap.size+1) 0 (by omega) (Zcm a n));have q1:=Zaa ((LE1.alloc (.cells #[Zcm a n] 224)).set 0 (Zcm a n));have q2:=Zaa ((B1.out.alloc (by have:=LR1.lt;omega) (.cells #[Zcm a n] 224)).setCell (p:=⟨w.heap.size+1,0,none⟩) (by show w.heap.size<=w.heap.size+1;omega) (Zcm a n));refine Yfo (f:=109) (args:=#[.pointer (some ⟨w.heap.size+1,0,none⟩)]) (by simp) (by simp[go_sem]) ?_;refine(Zij _ _ a hn w1 y0 (sy 0)).mono ?_;rintro e u' w'' ⟨rfl,rfl,hw⟩;rw[<- hw]at q0 q1 q2;obtain⟨x0,sx⟩:=Blk.one (a:=Zcm a n) q1.out;clear hw;have hld:=Yfk (P:=prog) w'' w.heap.size 91 91 _ _ _ q0.out underlying91 rfl (by kernel_rfl);have hle:(loadVar 62 ⟨w.heap.size+1,0,none⟩).run prog w''= .ok (Zcm a n) w'':=by simp[go_sem,x0]
  exact⟨_,Zj6 rfl _ _ _ _ _ _ rfl rfl hld hle,q2.out,Or.inl ⟨n,Zmm hy,hn,rfl⟩⟩
 ·have HQ:=Zaa hQ;obtain⟨lv,rfl,htl,hrow⟩:=hQ;obtain⟨p1,c1,rfl⟩:=Zag.form hrow;have LR1:=Zaa (LR.out.of (hk1.block w.heap.size (by simp;omega) (by omega)));have LE1:=Zaa (LE.out.of (hk1.block (w.heap.size+1) (by simp) (by omega)));have B1:=Zaa (B0.out.trans (hk1.below (B:=w.heap.size) (by omega) (by simp;omega)));have Y:=Zaa (Zvc hy);have HD:=Zaa hd1;have HN:=Zaa hN;have Z1:=Zaa (ZZ.out.below B1.out);have x0:=fun o=>(hd1.1.alloc o).one.1;have hr:(ba r).toList=[]↔r=[]:=by
   rw[Yd3];simp[ba]
  have hlen:(Lib.byteCells x.tag).length=32:=by rw[Lib.byteCells_length,htl]
  have hin:=Zb0 x.sealed (.slice p1 x.links.length c1) hlen;have hsz:=Zbt x.sealed (.slice p1 x.links.length c1) hlen;have hon:=Zd8 x.sealed p1 x.links.length c1 x.tag;clear hrow hk1 hd1 hN hy C LR LE htl hlen;have HCV:Box (Zap x.sealed (.slice p1 x.links.length c1) (Lib.byteCells x.tag)=(Value.bool x.sealed::Value.slice p1 x.links.length c1::Lib.byteCells x.tag).toArray):=⟨rfl⟩;rw[<- HCV.out];obtain⟨CV,hCV⟩: ∃ CV,Box (Zap x.sealed (.slice p1 x.links.length c1) (Lib.byteCells x.tag)=CV):=⟨_,⟨rfl⟩⟩;rw[hCV.out]at hin hsz hon HCV⊢;have S1:=Blk.new w1 Zal 91;have S2:=Yfe _ _ _ CV _ _ S1;have hs1:=Zaa B1.out.size;have hdl:=Zaa HD.out.1.lt;clear x0;have x0: ∀ o,((w1.alloc o).setRow w1.heap.size CV).cell? ⟨w.heap.size+1+1,0,none⟩=some (.string (ba r)):=fun o=>((HD.out.1.alloc o).of (Ye8 _ _ _ _ (by have:=hdl.out;omega))).one.1;have hL:w.heap.size < w1.heap.size:=LR1.out.lt;have hE:w.heap.size+1 < w1.heap.size:=LE1.out.lt;have RW:=Zaa (fun o=>(LR1.out.alloc o).of (Ye8 (w1.alloc o) w1.heap.size _ CV (by omega)));have EW:=Zaa (fun o=>(LE1.out.alloc o).of (Ye8 (w1.alloc o) w1.heap.size _ CV (by omega)));have BW:=Zaa (fun o=>(⟨(B1.out.alloc hs1.out o).os,(B1.out.alloc hs1.out o).tape,(B1.out.alloc hs1.out o).output,by rw[Yfd];exact(B1.out.alloc hs1.out o).size,fun j hj=>(Ye8 _ _ j _ (by omega)).trans ((B1.out.alloc hs1.out o).block j hj)⟩:Below w.heap.size w ((w1.alloc o).setRow w1.heap.size CV)));by_cases hr0:r=[]
  ·have Y1:Box (Zb1 Zcf l= .ok x):=⟨by rw[Y.out,if_pos hr0]⟩;have g:=hr.2 hr0;have L2:=RW.out (.cells Zal 91);have R3:=Zaa (fun o=>Yfe _ _ _ CV _ _ (RW.out o));have E3:=Zaa (fun o=>(EW.out o).of (Ye8 ((w1.alloc o).setRow w1.heap.size CV) w.heap.size _ CV (by omega)));have e0:=fun o=>(E3.out o).one.1;have e1:=fun o=>(E3.out o).one.2;have q0:=Zaa (fun o=>Blk.away (R3.out o) (w.heap.size+1) 0 (by omega) .nilIface);have q1:=Zaa (fun o=>(E3.out o).set 0 .nilIface);have q2:=Zaa (fun o=>Below.setCell (⟨(BW.out o).os,(BW.out o).tape,(BW.out o).output,by rw[Yfd];exact(BW.out o).size,fun j hj=>(Ye8 _ _ j _ (by omega)).trans ((BW.out o).block j hj)⟩:Below w.heap.size w (((w1.alloc o).setRow w1.heap.size CV).setRow w.heap.size CV)) (p:=⟨w.heap.size+1,0,none⟩) (by show w.heap.size<=w.heap.size+1;omega) .nilIface);have q3:Box (∀ o j,j∈F->((((w1.alloc o).setRow w1.heap.size CV).setRow w.heap.size CV).setCell ⟨w.heap.size+1,0,none⟩ .nilIface).heap[j]?=w1.heap[j]?):=⟨fun o j hj=>by
    have g1:=HN.out.ge j hj;have g2:=HN.out.lt j hj;simp at g1;rw[Ydg _ _ _ _ (by show j≠w.heap.size+1;omega),Ye8 _ _ j _ (by omega),Ye8 _ _ j _ (by omega)];exact Ydf _ _ _ g2⟩
   have q4:Box (∀ o,Za7 w.heap.size ((((w1.alloc o).setRow w1.heap.size CV).setRow w.heap.size CV).setCell ⟨w.heap.size+1,0,none⟩ .nilIface) F):=⟨fun o=>HN.out.later (by simp;omega) (by simp[Yfd])⟩;clear hr hr0 Y;generalize ba r=s at*;go_wp2_with (first
    | (refine Yfa rfl 91 (.tmp 7) (.tmp 14) rfl w1.heap.size CV rfl rfl 91 Zal S1 hin (by rw[hsz];rfl) hon ?_)
    | (refine Yfh rfl 91 (.tmp 7) rfl w1.heap.size rfl 91 CV (0,0) _ S2 underlying91 rfl hin ?_)
    | (refine Yfa rfl 91 (.tmp 4) (.tmp 23) rfl w.heap.size CV rfl rfl 91 Zal L2 hin (by rw[hsz];rfl) hon ?_))
   clear e0 e1 x0;refine Yfo (f:=109) (args:=#[.pointer (some ⟨w.heap.size+1,0,none⟩)]) (by simp) (by simp[go_sem]) ?_;refine(Zti _ _).mono ?_;rintro e u' w'' ⟨rfl,rfl,hw⟩;have p0:Blk w'' w.heap.size CV 91:=by rw[hw];exact q0.out _
   have p1':Blk w'' (w.heap.size+1) #[.nilIface] 62:=by rw[hw];exact q1.out _
   have p2:Below w.heap.size w w'':=by rw[hw];exact q2.out _
   have p3: ∀ j,j∈F->w''.heap[j]?=w1.heap[j]?:=by rw[hw];exact q3.out _
   have p4:Za7 w.heap.size w'' F:=by rw[hw];exact q4.out _
   clear hw;obtain⟨y0,sy⟩:=p1'.one;have hld:=Yfk (P:=prog) w'' w.heap.size 91 91 _ _ _ p0 underlying91 rfl hin;have hle:(loadVar 62 ⟨w.heap.size+1,0,none⟩).run prog w''= .ok .nilIface w'':=by simp[go_sem,y0]
   refine⟨_,Zj6 rfl _ _ _ _ _ _ rfl rfl hld hle,p2,Or.inr ⟨x,_,F,Y1.out,by rw[HCV.out],?_,p4⟩⟩;obtain⟨v,hv,ht,hrow⟩:=HQ.out;exact⟨v,hv,ht,Zag.stable (Zex.stable (ty:=Zad) 4) _ _ _ _ _ hrow p3⟩
  ·have Y1:Box (Zb1 Zcf l= .error 7):=⟨by rw[Y.out,if_neg hr0]⟩;have g:(ba r).toList.isEmpty=false:=by rw[List.isEmpty_eq_false_iff];exact fun q=>hr0 (hr.1 q)
   have z7:=fun o=>(ZZ.out.below (BW.out o)).c7;have CR:=Zaa (fun u=>Zbp a (w.heap.size+1+1) u (n:=7) (by decide));clear hr hr0 Y;generalize ba r=s at*;go_wp2_with (first
    | (refine Yfa rfl 91 (.tmp 7) (.tmp 14) rfl w1.heap.size CV rfl rfl 91 Zal S1 hin (by rw[hsz];rfl) hon ?_))
   refine(CR.out _).mono ?_;rintro e w2 ⟨rfl,hw2⟩;have l0:Blk w2 w.heap.size Zal 91:=by rw[hw2];exact RW.out _
   have l1:Blk w2 (w.heap.size+1) #[.nilIface] 62:=by rw[hw2];exact EW.out _
   have l2:Below w.heap.size w w2:=by rw[hw2];exact BW.out _
   clear hw2;obtain⟨y0,sy⟩:=l1.one;have q0:=Zaa ((l0.alloc (.cells #[Zcm a 7] 224)).away (w.heap.size+1) 0 (by omega) (Zcm a 7));have q1:=Zaa ((l1.alloc (.cells #[Zcm a 7] 224)).set 0 (Zcm a 7));have q2:=Zaa ((l2.alloc l2.size (.cells #[Zcm a 7] 224)).setCell (p:=⟨w.heap.size+1,0,none⟩) (by show w.heap.size<=w.heap.size+1;omega) (Zcm a 7));refine Yfo (f:=109) (args:=#[.pointer (some ⟨w.heap.size+1,0,none⟩)]) (by simp) (by simp[go_sem]) ?_;refine(Zij _ _ a (n:=7) (by decide) _ y0 (sy 0)).mono ?_;rintro e u' w'' ⟨rfl,rfl,hw⟩;rw[<- hw]at q0 q1 q2;obtain⟨u0,sx⟩:=Blk.one (a:=Zcm a 7) q1.out;clear hw;have hld:=Yfk (P:=prog) w'' w.heap.size 91 91 _ _ _ q0.out underlying91 rfl (by kernel_rfl);have hle:(loadVar 62 ⟨w.heap.size+1,0,none⟩).run prog w''= .ok (Zcm a 7) w'':=by simp[go_sem,u0]
   exact⟨_,Zj6 rfl _ _ _ _ _ _ rfl rfl hld hle,q2.out,Or.inl ⟨7,Y1.out,by decide,rfl⟩⟩
end Go.P
namespace Go.W
theorem Zdp {P:Program}{fn:Func}{p q:Tmp}{t1:TypeId}(h:fn.results=#[.cell p t1,.tmp q])(tmps:Array Value)(w:World)(g1:Addr)(v1 v2:Value)(hp:tmps.getD p undef= .pointer (some g1))(hq:tmps.getD q undef=v2)(h1:(loadVar t1 g1).run P w= .ok v1 w):(results fn tmps).run P w= .ok (.tuple #[v1,v2]) w:=by
 have hp':tmps[p]?.getD undef= .pointer (some g1):=by simpa using hp
 have hq':tmps[q]?.getD undef=v2:=by simpa using hq
 simp[results,h,hp',hq',asAddr,h1]
theorem _root_.Go.RowKit.Below.setRowAt {B g:Nat}{w u:World}(h:Below B w u)(nv:Array Value)(hB:B<=g):Below B w (u.setRow g nv):=⟨h.os,h.tape,h.output,by rw[Yfd];exact h.size,fun j hj=>(Ye8 _ _ j _ (by omega)).trans (h.block j hj)⟩
end Go.W
namespace Go.P
variable {w:World}{vs:List Value}{x:Ch}{F:List Nat}{a:Nat->Addr}{l:By}
theorem Zcu:(prog.info? 91).map (·.size)=some Zal.size:=by kernel_rfl
theorem Zhx.arr (h:Zhx 4 w vs x F):vs.toArray.size=34/\vs.toArray.all (·.oneCell')=true/\(prog.info? 91).map (·.size)=some vs.toArray.size:=by
 obtain⟨v,rfl,ht,hr⟩:=h;obtain⟨p,c,rfl⟩:=Zag.form hr;have hl:(Lib.byteCells x.tag).length=32:=by rw[Lib.byteCells_length,ht]
 exact⟨Zbt _ _ hl,Zd8 _ _ _ _ _,Zb0 _ _ hl⟩
theorem Zhx.stable {w':World}(h:Zhx 4 w vs x F)(k: ∀ j,j∈F->w'.heap[j]?=w.heap[j]?):Zhx 4 w' vs x F:=by
 obtain⟨v,hv,ht,hr⟩:=h;exact⟨v,hv,ht,Zag.stable (Zex.stable (ty:=Zad) 4) _ _ _ _ _ hr k⟩
theorem Zfs (V:Zav)(CL:Zbh)(Z:Zao a w)(hl:l.length < 1000000000):
  Calls prog 41 #[.string (ba l)] w (Zka a w (Zb1 Zcf l)):=by
 have hmf:=Zgm;have B0:=fun o=>(Ydb w.heap.size w).alloc lr o;have C:=Zaa (fun o=>Zln V CL (Z.below (B0 o)) hl);have L0:=Blk.new w Zal 91;clear Z V CL;go_in
 go_wp2_with fail
 refine(C.out (.cells Zal 91)).mono ?_;rintro e w1 ⟨hb1,⟨n,hy,hn,rfl⟩ | ⟨x,vs,F,hy,rfl,hQ,hN⟩⟩
 ·have L1:=L0.of (hb1.block _ L0.lt);have BB:=Zaa ((B0 (.cells Zal 91)).trans (hb1.mono (by simp)));have HY:=Zaa hy;rw[Zaf _ hn];clear hb1 hy C L0;go_wp2_with (refine Yfa rfl 91 (.tmp 2) (.tmp 6) rfl w.heap.size Zal rfl rfl 91 Zal L1 Zcu rfl (by kernel_rfl) ?_)
  refine Ye6 (Zdp rfl _ _ _ _ _ rfl rfl (Yfk _ w.heap.size 91 91 _ _ _ (Yfe _ _ _ _ _ _ L1) underlying91 rfl Zcu)) rfl ?_;exact⟨BB.out.setRowAt _ lr,Or.inl ⟨n,HY.out,hn,by rw[Zaf _ hn];rfl⟩⟩
 ·obtain⟨ha1,ha2,ha3⟩:=Zhx.arr hQ;have L1:=L0.of (hb1.block _ L0.lt);have BB:=Zaa ((B0 (.cells Zal 91)).trans (hb1.mono (by simp)));have HY:=Zaa (Yda hy (Yda hQ hN));obtain⟨CV,hCV⟩: ∃ CV,Box (vs.toArray=CV):=⟨_,⟨rfl⟩⟩;rw[hCV.out]at ha1 ha2 ha3⊢;clear hb1 hy C L0 hQ hN;go_wp2_with (refine Yfa rfl 91 (.tmp 2) (.tmp 6) rfl w.heap.size CV rfl rfl 91 Zal L1 ha3 (by rw[ha1];rfl) ha2 ?_)
  refine Ye6 (Zdp rfl _ _ _ _ _ rfl rfl (Yfk _ w.heap.size 91 91 _ _ _ (Yfe _ _ _ _ _ _ L1) underlying91 rfl ha3)) rfl ?_;have nw:=HY.out.2.2;exact⟨BB.out.setRowAt _ lr,Or.inr ⟨x,vs,F,HY.out.1,by rw[hCV.out];rfl,Zhx.stable HY.out.2.1 (fun j hj=>Ye8 _ _ j _ (by have:=nw.ge j hj;simp at this;omega)),nw.later (by simp) (by rw[Yfd];exact Yec _)⟩⟩
theorem Zxi (V:Zav)(CL:Zbh)(Z:Zao a w)(hl:l.length < 1000000000)(hx:Zb1 Zcf l= .ok x)(hs:x.sealed=false):
  Calls prog 34 #[.string (ba l)] w (Zka a w (.ok x)):=by
 have B0:=fun o=>(Ydb w.heap.size w).alloc lr o;have C:=Zaa (fun o=>Zfs V CL (Z.below (B0 o)) hl);have L0:=Blk.new w Zal 91;have HX:=Zaa hx;clear Z V CL hx;go_in
 go_wp2_with fail
 refine(C.out (.cells Zal 91)).mono ?_;rintro e w1 ⟨hb1,⟨n,hy,hn,rfl⟩ | ⟨y,vs,F,hy,rfl,hQ,hN⟩⟩
 ·rw[HX.out]at hy;cases hy
 obtain rfl:y=x:=by rw[HX.out]at hy;exact((Except.ok.inj hy)).symm
 obtain⟨ha1,ha2,ha3⟩:=Zhx.arr hQ;have L1:=L0.of (hb1.block _ L0.lt);have BB:=Zaa ((B0 (.cells Zal 91)).trans (hb1.mono (by simp)));have HY:=Zaa (Yda hQ hN);obtain⟨CV,hCV⟩: ∃ CV,Box (vs.toArray=CV):=⟨_,⟨rfl⟩⟩;have c0:CV[0]?=some (.bool false):=by
  obtain⟨v,rfl,_⟩:=hQ;rw[<- hCV.out,hs];rfl
 rw[hCV.out]at ha1 ha2 ha3⊢;have S1:=Blk.new w1 Zal 91;have S2:=Yfe _ _ _ CV _ _ S1;have x0: ∀ cs t,((w1.alloc (.cells cs t)).setRow w1.heap.size CV).cell? ⟨w1.heap.size,0,none⟩=some (.bool false):=fun cs t=>(Blk.cell (Yfe _ _ _ CV _ _ (Blk.new w1 cs t)) 0).trans c0;have L2:=(L1.alloc (.cells Zal 91)).of (Ye8 (w1.alloc (.cells Zal 91)) w1.heap.size w.heap.size CV (by have:=L1.lt;omega));have hlt:=Zaa L1.lt;clear hb1 hy C L0 hQ hN;go_wp2_with (first
  | (refine Yfa rfl 91 (.tmp 4) (.tmp 9) rfl w1.heap.size CV rfl rfl 91 Zal S1 ha3 (by rw[ha1];rfl) ha2 ?_)
  | (refine Yfh rfl 91 (.tmp 4) rfl w1.heap.size rfl 91 CV (0,0) _ S2 underlying91 rfl ha3 ?_)
  | (refine Yfa rfl 91 (.tmp 2) (.tmp 19) rfl w.heap.size CV rfl rfl 91 Zal L2 ha3 (by rw[ha1];rfl) ha2 ?_))
 refine Ye6 (Zdp rfl _ _ _ _ _ rfl rfl (Yfk _ w.heap.size 91 91 _ _ _ (Yfe _ _ _ _ _ _ L2) underlying91 rfl ha3)) rfl ?_;have nw:=HY.out.2;have hl1:=hlt.out;exact⟨((BB.out.alloc BB.out.size _).setRowAt _ BB.out.size).setRowAt _ lr,Or.inr ⟨_,vs,F,rfl,by rw[hCV.out];rfl,Zhx.stable HY.out.1 (fun j hj=>by
  have g1:=nw.ge j hj;have g2:=nw.lt j hj;simp at g1;rw[Ye8 _ _ j _ (by omega),Ye8 _ _ j _ (by omega)];exact Ydf _ _ _ g2),nw.later (by simp) (by rw[Yfd,Yfd];simp)⟩⟩
end Go.P
namespace Go.W
def Zgv (B:Nat) (w:World) (b o:Nat) (x:ByteArray):Prop:=b < B/\x.size < 1000000000/\ ∃ p1 n1 c1 p2 n2 c2 p3 n3 c3,w.cell? ⟨b,o,none⟩=some (.string x)/\w.cell? ⟨b,o+1,none⟩=some (.slice p1 n1 c1)/\w.cell? ⟨b,o+2,none⟩=some (.slice p2 n2 c2)/\w.cell? ⟨b,o+3,none⟩=some (.slice p3 n3 c3)
def Z8l (vs:List Value) (x:ByteArray):Prop:= ∃ p1 n1 c1 p2 n2 c2 p3 n3 c3,vs=[.string x,.slice p1 n1 c1,.slice p2 n2 c2,.slice p3 n3 c3]/\x.size < 1000000000
theorem Zgv.carry {B B':Nat}{w w':World}{b o:Nat}{x:ByteArray}(c:Zc1 B B' w w')(h:Zgv B w b o x):Zgv B' w' b o x:=by
 obtain⟨hb,hx,p1,n1,c1,p2,n2,c2,p3,n3,c3,k0,k1,k2,k3⟩:=h;have cc:=fun o=>c.cell b o hb;exact⟨Ydh hb c.le,hx,p1,n1,c1,p2,n2,c2,p3,n3,c3,by rw[cc];exact k0,by rw[cc];exact k1,by rw[cc];exact k2,by rw[cc];exact k3⟩
end Go.W
namespace Go.P
theorem Zny {K B b:Nat}(hen:Zaq K){first cap:Array Value}{f:ByteArray->ByteArray}{s:ByteArray}{w:World}{p:Option Addr}{xs:List ByteArray}{c:Nat}(h:Bld 142 B b s w)(hs:s.size+(Zaz f xs).size < 1000000000)(hrow:Zan 4 (Zgv B w) p xs)(hB:B<=w.heap.size)
  (HC: ∀ u vs x s',x∈xs->Bld 142 B b s' u->Fr B b w u->Z8l vs x->s'.size+(f x).size < 1000000000->Calls prog K (first.push (.agg vs.toArray)++cap) u (Zf8 142 B b (s'++f x) u)):
  Calls prog 61 #[.pointer (some ⟨b,0,none⟩),.slice p xs.length c,.func (.func K) first cap] w (Zf8 142 B b (s++Zaz f xs) w):=by
 have hl:=hrow.len;have HR:=Zaa hrow;have HH:=Zaa HC;have hen': ∀ args w,(callFunc K args).run prog w= .ok (.enter K args) w:=hen;have hz:s.size+((Zel xs.length).size+(cat f xs).size) < 1000000000:=by rw[Zaz,Zae]at hs;exact hs
 have EQ:Box (s++Zel xs.length++cat f xs=s++Zaz f xs):=⟨by rw[Zaz,Zay]⟩;have C:=Zaa (Zea Zfi h xs.length (by omega) (by omega) hB);have SZ:Box ((s++Zel xs.length).size=s.size+(Zel xs.length).size):=⟨Zae _ _⟩;clear hrow HC hen h hs;generalize s++Zel xs.length=s1 at*;go_in
 go_wp2_with fail
 refine C.out.mono ?_;rintro e w1 ⟨rfl,hb1,hw1⟩;have H1:=Zaa (Yda hb1 hw1);clear hb1 hw1 C;go_wp2
 go_loopw [15] (fun iv wr=>Zlj 142 B b s1 f w xs iv wr) (fun iv _=>xs.length - (intOf iv).toNat)
 case atStart=>exact⟨0,by omega,rfl,by simpa[cat]using H1.out.1,H1.out.2⟩
 case round=>
  obtain⟨q,hq,rfl,hbl,hbw⟩:=hrel;have HB:=Zaa (Yda hbl hbw);by_cases hlt:q < xs.length
  ·have FD:=Zaa (Zgc f hlt);have LE:=Zqj f xs (q+1);obtain⟨b1,o1,rfl,hx⟩:=HR.out.get q hlt;have hm:xs[q]∈xs:=Yel hlt;obtain⟨hb1,hS,p1,n1,c1,p2,n2,c2,p3,n3,c3,k0,k1,k2,k3⟩:=Zgv.carry (Go.W.Below.carry hbw.below lr) hx;have hsz:=Ydc hB hbw.size;rw[FD.out,Zae]at LE;have CC:=Zaa (HH.out _ _ _ _ hm (hbl.alloc (.cells #[.string xs[q],.slice p1 n1 c1,.slice p2 n2 c2,.slice p3 n3 c3] 108)) (hbw.alloc hsz _) ⟨p1,n1,c1,p2,n2,c2,p3,n3,c3,rfl,hS⟩ (by rw[Zae,SZ.out];omega));clear hbl hbw hx hm hS HH;go_wp2_with fail
   refine CC.out.mono ?_;rintro e w2 ⟨rfl,hb2,hw2⟩;have R:=Zaa (Yda hb2 ((HB.out.2.alloc hsz _).trans hw2));clear hb2 hw2 CC;go_wp2
   go_roundw
   case rel=>exact⟨q+1,by omega,by go_num,by rw[FD.out,<- Zay];exact R.out.1,R.out.2⟩
   case measure=>simp[intOf];omega
  ·obtain rfl:q=xs.length:=by omega
   rw[Yek]at hbl;have HB2:=Zaa (Yda hbl hbw);clear hbl hbw HB;go_wp2
   go_end0
   exact⟨rfl,EQ.out▸HB2.out.1,HB2.out.2⟩
end Go.P
namespace Go.W
def Zcc (S:Bool) (ts:List ByteArray) (tag:List UInt8):ByteArray:=((ba Zcj++b1 (if S then 1 else 0))++Zaz Zb4 ts)++ba tag
end Go.W
namespace Go.P
variable {B b c:Nat}{s:ByteArray}{w:World}
theorem Z5h {T:Nat}(hT:Zvk T)(h:Bld T B b s w)(l:List UInt8){g o:Nat}(hg: ∀ j u,(Lib.byteCells l)[j]?=some u->w.cell? ⟨g,o+j,none⟩=some u){cs:Array Value}{t:TypeId}(hgb:Blk w g cs t)(hgn:g≠b)(htn:t≠5)(hs:s.size+l.length < 1000000000)(hB:B<=w.heap.size):
  Calls prog 63 #[.pointer (some ⟨b,0,none⟩),.slice (some ⟨g,o,none⟩) l.length c] w fun e w'=>e= .returned (.tuple #[.int .i64 l.length,.nilIface])/\Bld T B b (s++ba l) w'/\Fr B b w w':=by
 obtain⟨i0,hi,hz0,hz1,hz2⟩:=info_parts Zkp;have C:=Zaa (Zhn hT h);have E:=Zaa (Ziy s (ba l));have EB:Box (Lib.strCells (ba l)=Lib.byteCells l):=⟨by simp[Lib.strCells,Lib.byteCells,ba]⟩;have hTe:=hT.2;have hlen:(Lib.strCells s).length+l.length < 1000000000:=by rw[Lib.strCells_length];exact hs
 have HG:=Zaa (Yda hg hgb);clear h hT hg hgb;rw[EB.out]at E;obtain⟨n,hn⟩: ∃ n,Box (l.length=n):=⟨_,⟨rfl⟩⟩;rw[hn.out]at hlen⊢;generalize Lib.strCells s=bs at*;go_in
 go_wp2_with fail
 refine C.out.mono ?_;rintro e w1 ⟨rfl,⟨hBb,v,hbk,hown,hne⟩,hb1⟩;have G1:=hb1.blk HG.out.2 hgn htn;have hnews: ∀ j u,(Lib.byteCells l)[j]?=some u->w1.cell? ((⟨g,o,none⟩:Addr).add j)=some u:=fun j u hj=>by
  rw[Addr.add_lit,G1.cell,<- HG.out.2.cell];exact HG.out.1 j u hj
 obtain⟨va,vc,rfl⟩:=Zfo hown;obtain⟨c0,c1,sf⟩:=Blk.two (w:=w1) (L:=b) (e:=T) hbk;have hlt:b < w1.heap.size:=Blk.lt (w:=w1) (L:=b) (e:=T) hbk;have hsz:=hb1.size;go_wp2_with (at_builtin;go_must (refine wpList_append_own _ rfl _ _ 74 rfl B 5 i0 _ 1 1 underlying74 hi hz0 hz1 hz2 rfl (by decide) _ _ _ rfl hown ⟨g,o,none⟩ n c (Lib.byteCells l) rfl (by rw[Lib.byteCells_length,hn.out];omega) hnews (Lib.byteCells_one l) ?c3 ?c4 ?c5 ?_))
 case c3=>unfold maxLen;omega
 case c4=>omega
 case c5=>omega
 intro v2 w2 hown2 hgrow _;obtain⟨va2,vc2,rfl⟩:=Zfo hown2;have hb2:w2.heap[b]?=some (.cells #[.pointer (some ⟨b,0,none⟩),.slice va bs.length vc] T (0,0)):=by
  rw[hgrow.block b hlt (fun e=>hne e.symm)];exact hbk
 obtain⟨d0,d1,sf2⟩:=Blk.two (w:=w2) (L:=b) (e:=T) hb2;have EL:(bs++Lib.byteCells l).length=bs.length+n:=by rw[Yeg,Lib.byteCells_length,hn.out]
 have R:=Zaa (Yda (Lib.BuilderAt.put (T:=T) (e:=5) hBb hb2 (bs':=bs++Lib.byteCells l) (by rw[EL];exact hown2) hTe) (Fr.mk ((hb1.below.grown hgrow (by omega) (fun k hk=>(hown.lt k hk).1)).setCell (p:=⟨b,1,none⟩) hBb (.slice va2 (bs.length+n) vc2)) fun k cs t fz hk ht q=>by
  have q1:=hb1.kept k cs t fz hk ht q;have kl:=(Ydo.1 q1).1;rw[Ydg _ _ _ _ hk,hgrow.block k kl (fun e=>Lib.ownBlock_ne hown q1 ht e.symm)];exact q1))
 clear c0 c1 sf hown hown2 hgrow hb2 hbk hb1 hne C hnews G1 HG;go_wp2
 go_ret2
 exact⟨rfl,Or.inr (by rw[E.out];exact R.out.1),R.out.2⟩
theorem Z2y (h:Bld 142 B b s w){vs:List Value}{x:ByteArray}(hx:Z8l vs x)(hs:s.size+(Zb4 x).size < 1000000000)(hB:B<=w.heap.size):
  Calls prog 62 #[.pointer (some ⟨b,0,none⟩),.agg vs.toArray] w (Zf8 142 B b (s++Zb4 x) w):=by
 obtain⟨p1,n1,c1,p2,n2,c2,p3,n3,c3,rfl,hxs⟩:=hx;have C:=Zaa (fun o=>Zsv Zfi (h.alloc o) x hs (by simp;omega));clear h;go_in
 go_wp2_with fail
 refine(C.out _).mono ?_;rintro e w1 ⟨rfl,hb1,hw1⟩;have R:=Zaa (Yda hb1 (((Fr.refl B b w).alloc hB _).trans hw1));clear hb1 hw1 C;go_wp2
 go_end0
 exact⟨rfl,R.out.1,R.out.2⟩
theorem Ztz:Zaq 62:=Zam func62 (by kernel_rfl) rfl
theorem Zo6 {S:Bool}{ts:List ByteArray}{tag:List UInt8}{p:Option Addr}(hB:B<=w.heap.size)(hrow:Zan 4 (Zgv B w) p ts)(ht:tag.length=32)(hs:(Zcc S ts tag).size < 1000000000):
  Calls prog 36 #[.agg (Zap S (.slice p ts.length c) (Lib.byteCells tag))] w fun e w'=>e= .returned (.string (Zcc S ts tag))/\Below w.heap.size w w':=by
 have hmf:=Zgm;obtain⟨CV,hCV⟩: ∃ CV,Box (Zap S (.slice p ts.length c) (Lib.byteCells tag)=CV):=⟨_,⟨rfl⟩⟩;have v0:CV[0]?=some (.bool S):=by rw[<- hCV.out];rfl
 have v1:CV[1]?=some (.slice p ts.length c):=by rw[<- hCV.out];rfl
 have v2:Box (∀ j u,(Lib.byteCells tag)[j]?=some u->CV[2+j]?=some u):=⟨fun j u hj=>by rw[<- hCV.out,Zap,Yd8,Nat.add_comm 2 j];exact hj⟩;rw[hCV.out];have BN:Bld 142 (w.heap.size+1) (w.heap.size+1) ByteArray.empty ((w.alloc (.cells CV 91)).alloc (.cells #[.pointer none,.slice none 0 0] 142)):=by
  have:=Lib.fresh_isBuilder 142 5 (w.alloc (.cells CV 91))
  simp only[Ydm]at this;exact this
 have KC:=Zaa ((Blk.new w CV 91).alloc (.cells #[.pointer none,.slice none 0 0] 142));have KB:=Zaa (((Ydb w.heap.size w).alloc lr (.cells CV 91)).alloc (by simp) (.cells #[.pointer none,.slice none 0 0] 142));have hsz:(ba Zcj).size=4:=rfl;have hS1:Box ((ba Zcj).size+1+(Zaz Zb4 ts).size+32 < 1000000000):=⟨by rw[Zcc,Zae,Zae,Zae,Zco,Zcx tag,ht]at hs;exact hs⟩;have C1:=Zaa (Zi2 Zfi BN (ba Zcj) (by have:=hS1.out;simp;omega) (by simp));have HRW:=Zaa hrow;have HS:=Zaa hs;clear hrow hs BN;go_in
 go_wp2_with fail
 refine C1.out.mono ?_;rintro e w1 ⟨rfl,hb1,hw1⟩;rw[show ByteArray.empty++ba Zcj=ba Zcj by simp]at hb1;have hs1:Box (w.heap.size+2<=w1.heap.size):=⟨by have:=hw1.size;simpa using this⟩;have c0:=((hw1.blk KC.out (by omega) (by decide)).cell 0).trans v0;have c1:=((hw1.blk KC.out (by omega) (by decide)).cell 1).trans v1;have C2:=Zaa (fun k (hk:k < 256)=>Zdt Zfi hb1 k hk (by have:=hS1.out;omega) (by have:=hs1.out;omega));have W1:=Zaa hw1;clear C1 hb1 hw1;have HF: ∃ s1,Box (s1=ba Zcj++b1 (if S then 1 else 0)):=⟨_,⟨rfl⟩⟩;obtain⟨s1,HF⟩:=HF;cases S
 case' false=>
  go_wp2_with fail
  refine(C2.out 0 (by decide)).mono ?_;rw[show ba Zcj++b1 0=s1 from HF.out.symm]
 case' true=>
  go_wp2_with fail
  refine(C2.out 1 (by decide)).mono ?_;rw[show ba Zcj++b1 1=s1 from HF.out.symm]
 all_goals
  rintro e w2 ⟨rfl,hb2,hw2⟩;have W2:=Zaa (W1.out.trans hw2);have hs2:Box (w.heap.size+2<=w2.heap.size):=⟨by have:=hs1.out;have:=hw2.size;omega⟩;have c1':=((W2.out.blk KC.out (by omega) (by decide)).cell 1).trans v1;have cr:Zc1 B (w.heap.size+1) w w2:=⟨by omega,fun b o hb=>((W2.out.below.cell (p:=⟨b,o,none⟩) (by show b < w.heap.size+1;omega)).trans (KB.out.cell (p:=⟨b,o,none⟩) (by show b < w.heap.size;omega)))⟩;have hq:s1.size=5:=by rw[HF.out,Zae,Zco];rfl
  have C3:=Zaa (Zny (c:=c) Ztz (first:=#[.pointer (some ⟨w.heap.size+1,0,none⟩)]) (cap:=#[]) (f:=Zb4) hb2 (by have:=hS1.out;omega) (HRW.out.carry fun b o x h=>Zgv.carry cr h) (by have:=hs2.out;omega) fun u vs x s' hx hbu hfu hlk hsz=>Z2y hbu hlk hsz (by have:=hfu.size;have:=hs2.out;omega));clear c0 c1 C2 hb2 hw2 cr W1;go_wp2_with fail
  refine C3.out.mono ?_;rintro e w3 ⟨rfl,hb3,hw3⟩;have W3:=Zaa (W2.out.trans hw3);have hs3:Box (w.heap.size+2<=w3.heap.size):=⟨by have:=hs2.out;have:=hw3.size;omega⟩;have K3:=W3.out.blk KC.out (show w.heap.size≠w.heap.size+1 by omega) (by decide);have hq3:(s1++Zaz Zb4 ts).size=s1.size+(Zaz Zb4 ts).size:=Zae _ _;have C4:=Zaa (Z5h Zfi hb3 tag (g:=w.heap.size) (o:=2) (c:=32) (fun j u hj=>(K3.cell _).trans (v2.out j u hj)) K3 (by omega) (by decide) (by rw[hq3,ht];have:=hS1.out;omega) (by have:=hs3.out;omega));rw[ht]at C4;clear c1' C3 hb3 hw3 W2 K3;go_wp2_with fail
  refine C4.out.mono ?_;rintro e w4 ⟨rfl,hb4,hw4⟩;have W4:=Zaa (W3.out.trans hw4);have hs4:Box (w.heap.size+2<=w4.heap.size):=⟨by have:=hs3.out;have:=hw4.size;omega⟩;rw[HF.out]at hb4;have C5:=Zaa (Zrc hb4 HS.out (by have:=hs4.out;omega));clear C4 hb4 hw4 W3;go_wp2_with fail
  refine mq C5.out ?_;rintro w5 hb5;have R:=Zaa (KB.out.trans ((W4.out.below.trans hb5).mono (by omega)));clear hb5 C5;go_wp2
  go_ret
  exact⟨rfl,R.out⟩
end Go.P
namespace Go.W
open Go
def Z9c (i1 i2 i3 i4:Nat) (d1 d2 d3 d4:Bool):List Nat:=(if d1 then []else [i1])++((if d2 then(if d3 then []else [i3])else [i2])++(if d4 then []else [i4]))
def Z0i (d1 d2 d3 d4:Bool):Nat:=(if d1 then 0 else 1)+(if d2 then 0 else 1)+(if d3 then 0 else 1)+(if d4 then 0 else 1)
def Zl2 (P:Program) (ops:Array Oper) (Q:Exit->Act->World->Prop) (o:Oper) (a:Act) (w:World) (K:Act->World->Prop):Prop:=if Region.wanted o (yielded ops a.tmps)=true then Oper.wp P o a w K Q else K (a.put o.dst undef) w
theorem Z11 {P:Program}{ops:Array Oper}{Q:Exit->Act->World->Prop}{S:World->Prop}(L:Bool->Bool->Bool->Bool->Array Bool)(i1 i2 i3 i4:Nat)(o1 o2 o3 o4:Oper)(J:Bool->Bool->Bool->Bool->Act->World->Prop)(fuel:Nat)(hS: ∀ d1 d2 d3 d4 a w,J d1 d2 d3 d4 a w->S w)
  (ho1:ops[i1]?=some o1) (ho2:ops[i2]?=some o2) (ho3:ops[i3]?=some o3) (ho4:ops[i4]?=some o4)
  (hr: ∀ d1 d2 d3 d4,(d3=true->d2=true)->(d1 && d3)=false->Region.ready .any ops (L d1 d2 d3 d4)=Z9c i1 i2 i3 i4 d1 d2 d3 d4)
  (h1: ∀ d2 d3 d4,(L false d2 d3 d4).setIfInBounds i1 true=L true d2 d3 d4) (h2: ∀ d1 d3 d4,(L d1 false d3 d4).setIfInBounds i2 true=L d1 true d3 d4) (h3: ∀ d1 d2 d4,(L d1 d2 false d4).setIfInBounds i3 true=L d1 d2 true d4) (h4: ∀ d1 d2 d3,(L d1 d2 d3 false).setIfInBounds i4 true=L d1 d2 d3 true)
  (s1: ∀ d2 d3 d4 a w,J false d2 d3 d4 a w-> ∀ K,(∀ a' w',J true d2 d3 d4 a' w'->K a' w')->Zl2 P ops Q o1 a w K)
  (s2: ∀ d1 d4 a w,J d1 false false d4 a w-> ∀ K,(∀ a' w',J d1 true false d4 a' w'->K a' w')->Zl2 P ops Q o2 a w K)
  (s3: ∀ d1 d4 a w,J d1 true false d4 a w-> ∀ K,(∀ a' w',J d1 true true d4 a' w'->K a' w')->Zl2 P ops Q o3 a w K)
  (s4: ∀ d1 d2 d3 a w,J d1 d2 d3 false a w-> ∀ K,(∀ a' w',J d1 d2 d3 true a' w'->K a' w')->Zl2 P ops Q o4 a w K)
  (hend: ∀ d4 a w,J true true true d4 a w->wpAnyH P .any ops Q S (fuel+Z0i true true true d4) (L true true true d4) a w):
  ∀ n d1 d2 d3 d4,Z0i d1 d2 d3 d4=n->(d3=true->d2=true)-> ∀ a w,J d1 d2 d3 d4 a w->wpAnyH P .any ops Q S (fuel+n) (L d1 d2 d3 d4) a w:=by
 intro n;induction n with
 | zero=>
  intro d1 d2 d3 d4 hn h32 a w hJ;cases d1 <;> cases d2 <;> cases d3 <;> cases d4 <;> first | (exact absurd hn (by decide)) | exact hend true a w hJ
 | succ n ih=>
  intro d1 d2 d3 d4 hn h32 a w hJ;by_cases h13:(d1 && d3)=true
  ·obtain⟨rfl,rfl⟩:=Bool.and_eq_true_iff.1 h13;obtain rfl:=h32 rfl
   have:=hend d4 a w hJ
   rw[hn]at this;exact this
  have h13:(d1 && d3)=false:=by simpa using h13
  have hrr:=hr d1 d2 d3 d4 h32 h13;refine⟨fun h0=>?_,fun i hi=>?_⟩
  ·rw[hrr]at h0;cases d1 <;> cases d2 <;> cases d3 <;> cases d4 <;> first | (simp[Z9c]at h0;done) | (simp at h13;done)
  ·rw[hrr]at hi;unfold Z9c at hi;rcases Ydk.1 hi with hi | hi
   ·cases d1 with
    | true=>cases hi
    | false=>
     obtain rfl:i=i1:=by simpa using hi
     refine wpOp_step ho1 fun K hK=>s1 _ _ _ _ _ hJ K fun a' w' hJ'=>hK a' w' ⟨hS _ _ _ _ _ _ hJ',?_⟩;rw[h1];exact ih _ _ _ _ (by simp[Z0i]at hn⊢;omega) h32 _ _ hJ'
   ·rcases Ydk.1 hi with hi | hi
    ·cases d2 with
     | true=>
      cases d3 with
      | true=>cases hi
      | false=>
       obtain rfl:i=i3:=by simpa using hi
       refine wpOp_step ho3 fun K hK=>s3 _ _ _ _ hJ K fun a' w' hJ'=>hK a' w' ⟨hS _ _ _ _ _ _ hJ',?_⟩;rw[h3];exact ih _ _ _ _ (by simp[Z0i]at hn⊢;omega) (fun _=>rfl) _ _ hJ'
     | false=>
      obtain rfl:i=i2:=by simpa using hi
      obtain rfl:d3=false:=by cases d3 with
       | false=>rfl
       | true=>exact absurd (h32 rfl) (by decide)
      refine wpOp_step ho2 fun K hK=>s2 _ _ _ _ hJ K fun a' w' hJ'=>hK a' w' ⟨hS _ _ _ _ _ _ hJ',?_⟩;rw[h2];exact ih _ _ _ _ (by simp[Z0i]at hn⊢;omega) (fun h=>by cases h) _ _ hJ'
    ·cases d4 with
     | true=>cases hi
     | false=>
      obtain rfl:i=i4:=by simpa using hi
      refine wpOp_step ho4 fun K hK=>s4 _ _ _ _ _ hJ K fun a' w' hJ'=>hK a' w' ⟨hS _ _ _ _ _ _ hJ',?_⟩;rw[h4];exact ih _ _ _ _ (by simp[Z0i]at hn⊢;omega) h32 _ _ hJ'
end Go.W
namespace Go.W
theorem _root_.Go.RowKit.Below.drewK {B:Nat}{a w:World}(h:Below B a w)(n:Nat):Below B a (w.drewN n):=⟨h.os,h.tape,h.output,h.size,h.block⟩
theorem Zgu {P:Program}{ops:Array Oper}{S:World->Prop}{o:Oper}{v:Value}{a:Act}(hgd:o.guard=none)(ty:TypeId)(ps:Array (Nat×Operand))(ho:o.op= .build ty ps)(pv:Array (Nat×Value))(hp:ps.map (fun p=>(p.1,a.eval p.2))=pv)(h: ∀ u,S u->(Instr.build ty pv).run P u= .ok v u):YieldsIf P ops S o v a:=
 Or.inl ⟨by simp[Region.wanted,hgd],fun u hS=>by
  unfold execOp;rw[ho];simp only[hp,Ye2,Sem.run_pure,Yer,h u hS]⟩
end Go.W
namespace Go.P
def Zjh (key:ByteArray):Bool:=decide (0 < key.size/\key.size<=100)
theorem Ziu (key:ByteArray)(hk:key.size < 1000000000)(w:World):Calls prog 40 #[.string key] w fun e w'=>e= .returned (.bool (Zjh key))/\w'=w:=by
 by_cases h0:key.size=0
 ·obtain rfl:key=ByteArray.empty:=Zhg ((Yds ((Zd7 key).trans h0)).trans (by rw[Yd3];rfl));go_in
  go_wp2
  go_ret
  exact⟨rfl,rfl⟩
 ·have g:key.toList.isEmpty=false:=by
   rw[List.isEmpty_eq_false_iff];intro h
   have:=Zd7 key
   rw[h]at this;simp at this;omega
  have HE:Box (Zjh key=decide ((key.size:Int)<=100)):=⟨by unfold Zjh;rw[decide_eq_decide];omega⟩;go_in
  go_wp2
  go_ret
  exact⟨by rw[HE.out];rfl,rfl⟩
def Zg9 (key:ByteArray) (x:Bk):Int:=if Zjh key then Zh6 x else 8
def Zff (key:ByteArray) (x:Bk):ByteArray:=if Zjh key/\Zh6 x=0 then Zcc false [Zcd x] (Zaj key [Zcd x])else ByteArray.empty
def Zgp (key t:ByteArray) (B:Nat) (v1 v2 v3 t8 t24 t27 t28 t29:Value):Act:={tmps:=#[.string key,.agg #[v1,v2,v3],undef,.pointer (some ⟨B,0,none⟩),.string ⟨#[]⟩,.nilIface,.string t,.nilIface,t8,.string key,.bool true,.bool false,undef,.tuple #[.string t,.nilIface],.agg #[v1,v2,v3],.tuple #[.string t,.nilIface],.string t,.nilIface,.nilIface,.bool false,undef,.string t,.agg #[v1,v2,v3],.agg #[.string t,v1,v2,v3],t24,.string key,.string t,t27,t28,t29,undef,undef],defers:=[]}
def Yb7 (w2:World) (key t:ByteArray) (B:Nat) (v1 v2 v3:Value) (d1 d2 d3 d4:Bool) (a:Act) (u:World):Prop:= ∃ Lk Lt Lc:Nat,
 a=Zgp key t B v1 v2 v3 (if d4 then .pointer (some ⟨Lc,0,none⟩)else undef) (if d1 then .slice (some ⟨Lk,0,none⟩) 1 1 else undef) (if d2 then .slice (some ⟨Lt,0,none⟩) 1 1 else undef) (if d3 then Zk0 (Zaj key [t])else undef) undef/\
 (d1=true->Blk u Lk #[.string t,v1,v2,v3] 108/\w2.heap.size<=Lk)/\(d2=true->Blk u Lt #[.string t] 9)/\(d4=true->Blk u Lc Zal 91/\w2.heap.size<=Lc)/\(d1=true->d4=true->Lk≠Lc)/\Below w2.heap.size w2 u/\Blk u B #[v1,v2,v3] 45
theorem Zc7 (x:Bk):(Zcd x).size<=4000:=by
 unfold Zcd;split
 ·rename_i h;unfold Zh6 at h;split at h
  ·rename_i h';exact absurd h h'
  ·split at h
   ·cases h
   ·omega
 ·decide
theorem Z76 {α:Type}{l:List α}(h:l.length=32): ∃ a0 a1 a2 a3 a4 a5 a6 a7 a8 a9 b0 b1 b2 b3 b4 b5 b6 b7 b8 b9 c0 c1 c2 c3 c4 c5 c6 c7 c8 c9 d0 d1,l=[a0,a1,a2,a3,a4,a5,a6,a7,a8,a9,b0,b1,b2,b3,b4,b5,b6,b7,b8,b9,c0,c1,c2,c3,c4,c5,c6,c7,c8,c9,d0,d1]:=by
 match l,h with
 | [a0,a1,a2,a3,a4,a5,a6,a7,a8,a9,b0,b1,b2,b3,b4,b5,b6,b7,b8,b9,c0,c1,c2,c3,c4,c5,c6,c7,c8,c9,d0,d1],_=>exact⟨_,_,_,_,_,_,_,_,_,_,_,_,_,_,_,_,_,_,_,_,_,_,_,_,_,_,_,_,_,_,_,_,rfl⟩
theorem Znl {T:List UInt8}(h:T.length=32)(L:Nat)(w:World):(Instr.build 91 #[(1,.slice (some ⟨L,0,none⟩) 1 1),(2,Zk0 T)]).run prog w= .ok (.agg (Zap false (.slice (some ⟨L,0,none⟩) 1 1) (Lib.byteCells T))) w:=by
 obtain⟨a0,a1,a2,a3,a4,a5,a6,a7,a8,a9,b0,b1,b2,b3,b4,b5,b6,b7,b8,b9,c0,c1,c2,c3,c4,c5,c6,c7,c8,c9,d0,d1,rfl⟩:=Z76 h;kernel_rfl
theorem Ze0 (S:Bool){ts:List ByteArray}{tag:List UInt8}(hn:ts.length<=8)(ht: ∀ t,t∈ts->t.size<=4000)(hl:tag.length=32):(Zcc S ts tag).size < 1000000000:=by
 have h1:(Zaz Zb4 ts).size<=11+8*4011:=Zds hn fun x hx=>by
  rw[Zb4,Zae]
  have:=Zj4 x.size
  have:=ht x hx
  omega
 rw[Zcc,Zae,Zae,Zae,Zco,Zcx tag,hl]
 have:(ba Zcj).size=4:=rfl
 omega
theorem Z6o (V:Zav){a:Nat->Addr}{B D:Nat}{w:World}{key:ByteArray}{vs:List Value}{x:Bk}(Z:Zao a w)(hk:key.size < 1000000000)(hB:B<=w.heap.size)(hS:Zbd B w D vs x):
  Calls prog 32 #[.string key,.agg vs.toArray] w fun e w'=>e= .returned (.tuple #[.string (Zff key x),Zcm a (Zg9 key x)])/\Below w.heap.size w w':=by
 have CK:=Zaa (fun u=>Ziu key hk u);have B0:=fun o=>(Ydb w.heap.size w).alloc lr o;have CE:=Zaa (fun o=>Zlo V (Z.below (B0 o)) (by simp;omega) (Zbd.carry hS (Za4 (B0 o) hB)));have ZZ:=Zaa Z;have HS:=Zaa hS;have z8:=Z.c8;obtain⟨p1,c1,p2,c2,p3,c3,rfl,_⟩:=hS;clear Z V;go_in
 go_wp2_with fail
 refine(CK.out _).mono ?_;rintro e w1 ⟨rfl,rfl⟩;by_cases hkey:Zjh key=true
 ·have HM:Box (Zg9 key x=Zh6 x/\(Zh6 x=0->Zff key x=Zcc false [Zcd x] (Zaj key [Zcd x]))/\(Zh6 x≠0->Zff key x=ByteArray.empty)):=⟨by unfold Zg9;rw[if_pos hkey],fun h=>by unfold Zff;rw[if_pos ⟨hkey,h⟩],fun h=>by unfold Zff;rw[if_neg (fun q=>h q.2)]⟩;rw[hkey];go_wp2_with fail
  refine(CE.out _).mono ?_;rintro e w2 ⟨rfl,hb2⟩;have B2:=Zaa ((B0 _).trans (hb2.mono (by simp)));by_cases hn:Zh6 x=0
  ·have LX:=Zaa ((Blk.new w #[.slice p1 x.facts.length c1,.slice p2 x.rules.length c2,.slice p3 x.checks.length c3] 45).of (hb2.block _ (by simp)));obtain⟨y0,y1,y2,sy⟩:=LX.out.three;rw[hn,Za0];clear CE CK hb2 z8;go_wp2_with fail
   have hts:=Zc7 x;obtain⟨t,ht⟩: ∃ t,Box (Zcd x=t):=⟨_,⟨rfl⟩⟩;rw[ht.out]at hts⊢;clear y0 y1 y2 sy;refine Yfl (S:=fun u=>Blk u w.heap.size #[.slice p1 x.facts.length c1,.slice p2 x.rules.length c2,.slice p3 x.checks.length c3] 45) (by kernel_rfl) ?_;change wpAnyH _ _ _ _ _ _ _ _ (World.drew _);have hS0:Blk w2.drew w.heap.size #[.slice p1 x.facts.length c1,.slice p2 x.rules.length c2,.slice p3 x.checks.length c3] 45:=LX.out;refine tk 0 (.string t) hS0 ?_;simp only[Act.put];refine wpAnyH_take (i:=1) (oi:={dst:=some 22,op:= .load 45 (.tmp 3),type:=45,pos:= "warrant.go:188",after:=#[],guard:=none}) (v:= .agg #[.slice p1 x.facts.length c1,.slice p2 x.rules.length c2,.slice p3 x.checks.length c3]) rfl (by kernel_rfl) (by kernel_rfl) (by kernel_rfl) (fun _ _ _ h=>h) (Zfr rfl 45 (.tmp 3) rfl ⟨w.heap.size,0,none⟩ rfl fun u hS=>Yfk u w.heap.size 45 45 _ _ _ hS underlying45 rfl (by kernel_rfl)) hS0 ?_;simp only[Act.put];refine tk 2 (.agg #[.string t,.slice p1 x.facts.length c1,.slice p2 x.rules.length c2,.slice p3 x.checks.length c3]) hS0 ?_;simp only[Act.put];refine tk 4 (.string key) hS0 ?_;simp only[Act.put];refine tk 5 (.string t) hS0 ?_;change wpAnyH _ _ _ _ _ (2+4) ((fun d1 d2 d3 d4=>#[true,true,true,d1,true,true,d2,d3,false,d4,false]) false false false false) (Zgp key t w.heap.size (.slice p1 x.facts.length c1) (.slice p2 x.rules.length c2) (.slice p3 x.checks.length c3) undef undef undef undef undef) _;have hlt0:w.heap.size < w2.heap.size:=LX.out.lt;have Z2: ∀ u,Below w2.heap.size w2 u->Zao a u:=fun u hu=>(ZZ.out.below B2.out).below hu;refine Z11 (fun d1 d2 d3 d4=>#[true,true,true,d1,true,true,d2,d3,false,d4,false]) 3 6 7 9 _ _ _ _ (Yb7 w2 key t w.heap.size (.slice p1 x.facts.length c1) (.slice p2 x.rules.length c2) (.slice p3 x.checks.length c3)) 2 (fun d1 d2 d3 d4 a u hJ=>?_) rfl rfl rfl rfl (fun d1 d2 d3 d4 h hn=>?_) (fun d2 d3 d4=>rfl) (fun d1 d3 d4=>rfl) (fun d1 d2 d4=>rfl) (fun d1 d2 d3=>rfl) (fun d2 d3 d4 a u hJ K hK=>?_) (fun d1 d4 a u hJ K hK=>?_) (fun d1 d4 a u hJ K hK=>?_) (fun d1 d2 d3 a u hJ K hK=>?_) (fun d4 a u hJ=>?_) 4 false false false false rfl (fun h=>by cases h) _ _ ⟨0,0,0,rfl,(fun h=>by cases h),(fun h=>by cases h),(fun h=>by cases h),(fun h=>by cases h),(Ydb _ w2).drew,hS0⟩
   ·obtain⟨Lk,Lt,Lc,_,_,_,_,_,_,hb⟩:=hJ;exact hb
   ·cases d1 <;> cases d2 <;> cases d3 <;> cases d4 <;> first | (exact absurd (h rfl) (by decide)) | (exact absurd hn (by decide)) | kernel_rfl
   ·obtain⟨Lk,Lt,Lc,rfl,h1,h2,h4,h14,hb,hB3⟩:=hJ;unfold Zl2 Zgp;go_simp;exact hK _ _ ⟨u.heap.size,Lt,Lc,rfl,fun _=>⟨Blk.new u _ _,hb.size⟩,fun h=>(h2 h).alloc _,fun h=>⟨(h4 h).1.alloc _,(h4 h).2⟩,(fun _ h=>by have:=(h4 h).1.lt;omega),hb.alloc hb.size _,hB3.alloc _⟩
   ·obtain⟨Lk,Lt,Lc,rfl,h1,h2,h4,h14,hb,hB3⟩:=hJ;unfold Zl2 Zgp;go_simp;exact hK _ _ ⟨Lk,u.heap.size,Lc,rfl,fun h=>⟨(h1 h).1.alloc _,(h1 h).2⟩,fun _=>Blk.new u _ _,fun h=>⟨(h4 h).1.alloc _,(h4 h).2⟩,h14,hb.alloc hb.size _,hB3.alloc _⟩
   ·obtain⟨Lk,Lt,Lc,rfl,h1,h2,h4,h14,hb,hB3⟩:=hJ;unfold Zl2 Zgp;go_simp;refine(Zkr (c:=1) (Z2 u hb) hk (Zhf (h2 rfl) (by omega)) (by simp)).mono ?_;rintro e u' ⟨rfl,hb'⟩;exact hK _ _ ⟨Lk,Lt,Lc,rfl,fun h=>⟨(h1 h).1.of (hb'.block _ (h1 h).1.lt),(h1 h).2⟩,fun h=>(h2 h).of (hb'.block _ (h2 h).lt),fun h=>⟨(h4 h).1.of (hb'.block _ (h4 h).1.lt),(h4 h).2⟩,h14,hb.trans (hb'.mono hb.size),hB3.of (hb'.block _ hB3.lt)⟩
   ·obtain⟨Lk,Lt,Lc,rfl,h1,h2,h4,h14,hb,hB3⟩:=hJ;unfold Zl2 Zgp;go_simp;exact hK _ _ ⟨Lk,Lt,u.heap.size,rfl,fun h=>⟨(h1 h).1.alloc _,(h1 h).2⟩,fun h=>(h2 h).alloc _,fun _=>⟨Blk.new u Zal _,hb.size⟩,(fun h _=>by have:=(h1 h).1.lt;omega),hb.alloc hb.size _,hB3.alloc _⟩
   ·obtain⟨Lk,Lt,Lc,rfl,h1,h2,h4,h14,hb,hB3⟩:=hJ;have hK:=h1 rfl;have hTl:(Zaj key [t]).length=32:=Zar _;clear h1 h2;cases d4
    case' false=>
     change wpAnyH _ _ _ _ _ 3 _ (Zgp key t w.heap.size (.slice p1 x.facts.length c1) (.slice p2 x.rules.length c2) (.slice p3 x.checks.length c3) undef (.slice (some ⟨Lk,0,none⟩) 1 1) (.slice (some ⟨Lt,0,none⟩) 1 1) (Zk0 (Zaj key [t])) undef) _;unfold Zgp;refine wpAnyH_take (i:=8) (oi:={dst:=some 29,op:= .build 91 #[(1,.tmp 24),(2,.tmp 28)],type:=91,pos:= "warrant.go:188",after:=#[{on:=3,ground:=Ground.data},{on:=7,ground:=Ground.data}],guard:=none}) (v:= .agg (Zap false (.slice (some ⟨Lk,0,none⟩) 1 1) (Lib.byteCells (Zaj key [t])))) rfl (by kernel_rfl) (by kernel_rfl) (by kernel_rfl) (fun _ _ _ h=>h) (Zgu rfl 91 #[(1,.tmp 24),(2,.tmp 28)] rfl #[(1,.slice (some ⟨Lk,0,none⟩) 1 1),(2,Zk0 (Zaj key [t]))] (by simp[Act.eval]) fun u hS=>Znl hTl _ u) hB3 ?_;simp only[Act.put];refine Yfc (rs:=[9]) (by kernel_rfl) (by simp) (Ydr rfl (fun K' hK'=>?_) Ydu);go_simp;have hC:Blk (u.alloc (.cells Zal 91)) u.heap.size Zal 91:=Blk.new u Zal _;have hCw:w2.heap.size<=u.heap.size:=hb.size;have hne:Lk≠u.heap.size:=by have:=hK.1.lt;omega
     have hK9:=Yda (hK.1.alloc (.cells Zal 91)) hK.2;have hb9:=hb.alloc hb.size (.cells Zal 91);have hB9:=hB3.alloc (.cells Zal 91);refine hK'.out _ _ hB9 fun _=>?_;clear hK' K' hK hb hB3 h4 h14;generalize u.heap.size=LC at*;change wpAnyH _ _ _ _ _ _ _ _ (u.alloc (.cells Zal 91));generalize u.alloc (.cells Zal 91)=U at*
    case' true=>
     change wpAnyH _ _ _ _ _ 2 _ (Zgp key t w.heap.size (.slice p1 x.facts.length c1) (.slice p2 x.rules.length c2) (.slice p3 x.checks.length c3) (.pointer (some ⟨Lc,0,none⟩)) (.slice (some ⟨Lk,0,none⟩) 1 1) (.slice (some ⟨Lt,0,none⟩) 1 1) (Zk0 (Zaj key [t])) undef) _;unfold Zgp;refine wpAnyH_take (i:=8) (oi:={dst:=some 29,op:= .build 91 #[(1,.tmp 24),(2,.tmp 28)],type:=91,pos:= "warrant.go:188",after:=#[{on:=3,ground:=Ground.data},{on:=7,ground:=Ground.data}],guard:=none}) (v:= .agg (Zap false (.slice (some ⟨Lk,0,none⟩) 1 1) (Lib.byteCells (Zaj key [t])))) rfl (by kernel_rfl) (by kernel_rfl) (by kernel_rfl) (fun _ _ _ h=>h) (Zgu rfl 91 #[(1,.tmp 24),(2,.tmp 28)] rfl #[(1,.slice (some ⟨Lk,0,none⟩) 1 1),(2,Zk0 (Zaj key [t]))] (by simp[Act.eval]) fun u hS=>Znl hTl _ u) hB3 ?_;simp only[Act.put];have hC:=(h4 rfl).1;have hCw:=(h4 rfl).2;have hne:=h14 rfl rfl;have hK9:=hK;have hb9:=hb;have hB9:=hB3;clear hK hb hB3 h4 h14;generalize Lc=LC at*;generalize u=U at*
    all_goals
     refine Yfc (rs:=[10]) (by kernel_rfl) (by simp) (Ydr rfl (fun K' hK'=>?_) Ydu);have hlen:(Lib.byteCells (Zaj key [t])).length=32:=by rw[Lib.byteCells_length,hTl]
     refine Zgs rfl 91 (.tmp 8) (.tmp 29) rfl LC (Zap false (.slice (some ⟨Lk,0,none⟩) 1 1) (Lib.byteCells (Zaj key [t]))) rfl rfl 91 Zal hC (Zb0 _ _ hlen) (by rw[Zbt _ _ hlen];rfl) (Zd8 _ _ _ _ _) ?_;refine hK'.out _ _ (hB9.of (Ye8 _ _ _ _ (by omega))) fun _=>?_;clear hK' K';refine Yfi (by kernel_rfl) ?_ _;have hR:=Yfe U LC _ (Zap false (.slice (some ⟨Lk,0,none⟩) 1 1) (Lib.byteCells (Zaj key [t]))) _ _ hC;have hK10:=hK9.1.of (Ye8 U LC Lk (Zap false (.slice (some ⟨Lk,0,none⟩) 1 1) (Lib.byteCells (Zaj key [t]))) hne);have hb10:=hb9.setRowAt (g:=LC) (Zap false (.slice (some ⟨Lk,0,none⟩) 1 1) (Lib.byteCells (Zaj key [t]))) hCw;clear hC hK9 hb9 hB9;obtain⟨W,hW⟩: ∃ W,U.setRow LC (Zap false (.slice (some ⟨Lk,0,none⟩) 1 1) (Lib.byteCells (Zaj key [t])))=W:=⟨_,rfl⟩;rw[hW]at hR hK10 hb10⊢;have hrow:Zan 4 (Zgv W.heap.size W) (some ⟨Lk,0,none⟩) [t]:=⟨by simp,fun i y hi=>by
      cases i with
      | succ i=>simp at hi
      | zero=>
       obtain rfl:t=y:=by simpa using hi
       exact⟨Lk,0,rfl,Blk.lt hK10,by omega,_,_,_,_,_,_,_,_,_,(Blk.four hK10).1,(Blk.four hK10).2.1,(Blk.four hK10).2.2.1,(Blk.four hK10).2.2.2.1⟩⟩
     have CW:=Zaa (Zo6 (S:=false) (c:=1) lr hrow hTl (Ze0 false (by simp) (fun y hy=>by have e:y=t:=by{simpa using hy};rw[e];exact hts) hTl));have RW:=Zaa (Yda hb10 (Yda (HM.out.2.1 hn) HM.out.1));clear hW hrow hK10 hb10;go_wp2_with (refine Yfh rfl 91 (.tmp 8) rfl LC rfl 91 (Zap false (.slice (some ⟨Lk,0,none⟩) 1 1) (Lib.byteCells (Zaj key [t]))) (0,0) _ hR underlying91 rfl (Zb0 _ _ hlen) ?_)
     refine mq CW.out ?_;rintro w9 hb11;have R9:=Zaa (B2.out.trans ((RW.out.1.trans (hb11.mono RW.out.1.size)).mono B2.out.size));clear CW hb11;go_wp2
     go_ret2
     exact⟨by rw[RW.out.2.1,RW.out.2.2,hn,Za0,ht.out];rfl,R9.out⟩
  ·have E1:Box (Zg9 key x=Zh6 x/\Zff key x=ByteArray.empty/\Zcd x=ByteArray.empty):=⟨HM.out.1,HM.out.2.2 hn,if_neg hn⟩;rw[Zaf _ hn];clear CE CK hb2 z8;go_wp2
   go_ret2
   exact⟨by rw[E1.out.1,E1.out.2.1,Zaf _ hn];rfl,B2.out⟩
 ·have hkey:Zjh key=false:=by simpa using hkey
  have HM:Box (Zg9 key x=8/\Zff key x=ByteArray.empty):=⟨by unfold Zg9;rw[hkey];rfl,by unfold Zff;rw[hkey];rfl⟩;have z8':=fun o=>Zab z8 (B0 o);rw[hkey];clear CE CK z8;go_wp2
  go_quiet (fail)
  go_wp2
  go_ret2
  exact⟨by rw[HM.out.1,HM.out.2];rfl,(B0 _).drewK _⟩
end Go.P
