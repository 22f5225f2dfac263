import Derived.Test.YtpmcefkhkkpnbaaGreatDoorW05
import Derived.Deep.MidRow
import Derived.Lib.BufferWrite
import Derived.Deep.RegionLaw
set_option linter.all false
set_option maxRecDepth 100000
set_option maxHeartbeats 8000000
open Go.Proofs Go.RowKit Go.W Tryz
namespace Go.W
def Ykc (k p:Int) (s:Nat->Int):Int:=s 7+bits .xor .u32 (bits .xor .u32 (Nc 26<|s 4)<|Nc 21<|s 4) (Nc 7<|s 4)+bits .xor .u32 (bits .and .u32 (s 4)<|s 5) (bits .and .u32 (bits .xor .u32 IntKind.u32.max<|s 4)<|s 6)+k+p
def Yge (k p:Int) (s:Nat->Int):Nat->Int
 | 0=>((Ykc k p s+bits .xor .u32 (bits .xor .u32 (Nc 30<|s 0)<|Nc 19<|s 0) (Nc 10<|s 0)) % 4294967296+bits .xor .u32 (bits .xor .u32 (bits .and .u32 (s 0)<|s 1)<|bits .and .u32 (s 0)<|s 2) (bits .and .u32 (s 1)<|s 2)) % 4294967296
 | 1=>s 0
 | 2=>s 1
 | 3=>s 2
 | 4=>(s 3+Ykc k p s % 4294967296) % 4294967296
 | 5=>s 4
 | 6=>s 5
 | _=>s 6
def Cf (ps:Nat->Int):Nat->(Nat->Int)->(Nat->Int)
 | 0,s=>s
 | n+1,s=>Yge ((ZK.getD n 0:Nat):Int) (ps n) (Cf ps n s)
variable {a:Nat->Addr}{w:Bb}{b n k:Nat}{ws hs:Nat->Int}{m:Int}
def AZ.steps (h:AZ a w)(i:Nat)(hi:i<64):w.cell? (zm 15 i)=some (Al ((ZK.getD i 0:Nat):Int)):=by
 obtain⟨_,h0,h1⟩:=h;have hl:i<ZK.length:=hi;exact(h1 _ _ zu).2.trans<|h0.steps i _ (by rw[List.getD,A8 hl];rfl)
def Yht (W:Bb) (ps ws:Nat->Int) (va vb vc vd ve vf vg vh iv:Value) (wr:Bb):Prop:= ∃ i:Nat,i<=64/\iv= zo (i:Int)/\(∃ n,wr=W.drewN n)/\va= Al (Cf ps i ws 0)/\vb= Al (Cf ps i ws 1)/\vc= Al (Cf ps i ws 2)/\vd= Al (Cf ps i ws 3)/\ve= Al (Cf ps i ws 4)/\vf= Al (Cf ps i ws 5)/\vg= Al (Cf ps i ws 6)/\vh= Al (Cf ps i ws 7)
def Mx (w:Bb) (b:Nat) (ws hs:Nat->Int) (n:Nat) (m:Int):Prop:= ∃ vs:Ca,AO w b vs 276/\vs.size=74/\(∀ k,k<8->vs[k]?=some (.int .u32<|ws k))/\(∀ k,k<64->vs[8+k]?=some (.int .u8<|hs k))/\vs[72]?=some (zo (n:Int))/\vs[73]?=some (.int .u64 m)
def gV (hs:Nat->Int):Bu:=(List.range 64).map fun k=> yS (hs k)
def Mx.held (h:Mx w b ws hs n m):w.rangeAt b 8 (gV hs):=by
 obtain⟨vs,hb,_,_,hh,_⟩:=h;intro j v hj;rw[hb.cell];unfold gV at hj;rw[FK]at hj;obtain⟨k,hk,rfl⟩:=QP.1 hj
 have:=DW.1 hk
 obtain⟨hl,he⟩:=this;simp at hl he;subst he;exact hh j hl
def Mx.of {u:Bb}(h:Mx w b ws hs n m)(k:u.heap[b]?=w.heap[b]?):Mx u b ws hs n m:=by
 obtain⟨vs,hb,r⟩:=h;exact⟨vs,hb.of k,r⟩
def Mx.word (h:Mx w b ws hs n m)(hk:k<8):w.cell? (zm b k)=some (.int .u32<|ws k):=by
 obtain⟨vs,hb,_,h8,_⟩:=h;rw[hb.cell,h8 k hk]
def Mx.soft (h:Mx w b ws hs n m)(k:Nat):w.frozen? (zm b k)=false:=by
 obtain⟨vs,hb,_⟩:=h;exact hb.soft k
def Mx.lt (h:Mx w b ws hs n m):b<w.heap.size:=by
 obtain⟨vs,hb,_⟩:=h;exact hb.lt
def Mx.YN {Ia:Nat->Int}(h:Mx w b ws hs n m)(hk:k<8){x:Int}(hg: ∀ j,j<8->Ia j=if j=k then x else ws j):Mx (w.setCell (zm b k)<|Al x) b Ia hs n m:=by
 obtain⟨vs,hb,Oa,h8,hh,Qc,Qa⟩:=h;refine⟨_,hb.set k _,by simp[Oa],fun j hj=>?_,fun j hj=>?_,?_,?_⟩
 .rw[Dy,hg j hj];by_cases hjk:j=k
  .subst hjk;rw[xj rfl,xj zx,xj rfl]
  .rw[xd fun z=>hjk z.symm,xd hjk,h8 j hj]
 .rw[Dy,xd zx,hh j hj]
 .rw[Dy,xd zx,Qc]
 .rw[Dy,xd zx,Qa]
def Yjx (x0 x1 x2 x3 x4 x5 x6 x7:Int)(k:Nat)(hk:k<8): ∃ x,(∀ X:Nat->Int,X 0=x0->X 1=x1->X 2=x2->X 3=x3->X 4=x4->X 5=x5->X 6=x6->X 7=x7->X k=x)/\ ∀ w,(Instr.index 273 (.agg #[Al x0,Al x1,Al x2,Al x3,Al x4,Al x5,Al x6,Al x7])<|zo (k:Int)).run prog w= .ok (Al x) w:=by
 have g:k=0\/k=1\/k=2\/k=3\/k=4\/k=5\/k=6\/k=7:=zx
 rcases g with rfl | rfl | rfl | rfl | rfl | rfl | rfl | rfl
 .exact⟨x0,fun X h0 h1 h2 h3 h4 h5 h6 h7=>h0,fun _=>zt⟩
 .exact⟨x1,fun X h0 h1 h2 h3 h4 h5 h6 h7=>h1,fun _=>zt⟩
 .exact⟨x2,fun X h0 h1 h2 h3 h4 h5 h6 h7=>h2,fun _=>zt⟩
 .exact⟨x3,fun X h0 h1 h2 h3 h4 h5 h6 h7=>h3,fun _=>zt⟩
 .exact⟨x4,fun X h0 h1 h2 h3 h4 h5 h6 h7=>h4,fun _=>zt⟩
 .exact⟨x5,fun X h0 h1 h2 h3 h4 h5 h6 h7=>h5,fun _=>zt⟩
 .exact⟨x6,fun X h0 h1 h2 h3 h4 h5 h6 h7=>h6,fun _=>zt⟩
 .exact⟨x7,fun X h0 h1 h2 h3 h4 h5 h6 h7=>h7,fun _=>zt⟩
def Yka (X:Nat->Int)(k:Nat)(hk:k<8)(w:Bb):(Instr.index 273 (.agg #[.int .u32<|X 0,.int .u32<|X 1,.int .u32<|X 2,.int .u32<|X 3,.int .u32<|X 4,.int .u32<|X 5,.int .u32<|X 6,.int .u32<|X 7])<|zo (k:Int)).run prog w= .ok (.int .u32<|X k) w:=by
 obtain⟨x,hx,h⟩:=Yjx (X 0) (X 1) (X 2) (X 3) (X 4) (X 5) (X 6) (X 7) k hk;rw[hx X rfl rfl rfl rfl rfl rfl rfl rfl];exact h w
def Xo (hs ws:Nat->Int) (k:Nat):Int:=(ws k+Cf (Be hs 48) 64 ws k) % 4294967296
def Yhc (b:Nat) (w:Bb) (ws hs:Nat->Int) (n:Nat) (m:Int) (iv:Value) (wr:Bb):Prop:= ∃ k:Nat,k<=8/\iv= zo (k:Int)/\Mx wr b (fun j=>if j<k then Xo hs ws j else ws j) hs n m/\Ad b w wr
def Z0z (Z:AZ a w)(h:Mx w b ws hs n m):Calls prog 208 #[zq b 0] w fun e w'=>e=uY (.tuple #[])/\Ad b w w'/\Mx w' b (Xo hs ws) hs n m:=by
 have HH:=h.held;have HM:=AC h;have hlen:(prog.info? 193).map (·.size)=some (gV hs).length:=zt
 have CP:=AC fun u=>Z06 (gV hs).toArray hs u (by simp[gV]) (fun k hk=>by simp[gV,hk]);obtain⟨vs,hb,Oa,V3,-,Qc,Qa⟩:=h;have w0:=(hb.cell 0).trans<|V3 0 zu;have w1:=(hb.cell 1).trans<|V3 1 zu;have w2:=(hb.cell 2).trans<|V3 2 zu;have w3:=(hb.cell 3).trans<|V3 3 zu;have w4:=(hb.cell 4).trans<|V3 4 zu;have w5:=(hb.cell 5).trans<|V3 5 zu;have w6:=(hb.cell 6).trans<|V3 6 zu;have w7:=(hb.cell 7).trans<|V3 7 zu;go_in
 have HB:=AC hb;have ZZ:=AC Z;clear V3 hb Z;go_wp2_with (refine wpList_load_mid rfl 193 (.tmp 20) rfl b 8 rfl (gV hs) _ HH underlying193 rfl hlen ?_)
 apply(CP.o _).mono;rintro e u1 ⟨RX,ps,rfl,dQ,VH⟩;clear HH hlen;have E9:=HB.o.lt;have hsu:=RX.size;obtain⟨W,hW⟩:=fu ((u1.alloc<|.cells Oi 391).setRow u1.heap.size ps);have YV:(prog.info? 391).map (·.size)=some ps.size:=by rw[dQ];kernel_rfl
 have Bw:ps.all (·.oneCell')=true:=by
  rw[Array.all_eq_true];intro q hq
  have:=VH q zx
  rw[Array.getElem?_eq_getElem hq,Option.some.injEq]at this;rw[this];rfl
 have LP:AF (AO W u1.heap.size ps 391):=⟨hW▸GM _ _ _ _ _ _ (AO.new u1 Oi _)⟩;have W0:W.cell? (zm b 0)=some (.int .u32<|ws 0):=hW▸(bP _ _ _ (zm b 0) (by show b≠_;omega)).trans (Cb (Cb w0 RX)<|(AR _ u1).alloc lr _);have W1:W.cell? (zm b 1)=some (.int .u32<|ws 1):=hW▸(bP _ _ _ (zm b 1) (by show b≠_;omega)).trans (Cb (Cb w1 RX)<|(AR _ u1).alloc lr _);have W2:W.cell? (zm b 2)=some (.int .u32<|ws 2):=hW▸(bP _ _ _ (zm b 2) (by show b≠_;omega)).trans (Cb (Cb w2 RX)<|(AR _ u1).alloc lr _);have W3:W.cell? (zm b 3)=some (.int .u32<|ws 3):=hW▸(bP _ _ _ (zm b 3) (by show b≠_;omega)).trans (Cb (Cb w3 RX)<|(AR _ u1).alloc lr _);have W4:W.cell? (zm b 4)=some (.int .u32<|ws 4):=hW▸(bP _ _ _ (zm b 4) (by show b≠_;omega)).trans (Cb (Cb w4 RX)<|(AR _ u1).alloc lr _);have W5:W.cell? (zm b 5)=some (.int .u32<|ws 5):=hW▸(bP _ _ _ (zm b 5) (by show b≠_;omega)).trans (Cb (Cb w5 RX)<|(AR _ u1).alloc lr _);have W6:W.cell? (zm b 6)=some (.int .u32<|ws 6):=hW▸(bP _ _ _ (zm b 6) (by show b≠_;omega)).trans (Cb (Cb w6 RX)<|(AR _ u1).alloc lr _);have W7:W.cell? (zm b 7)=some (.int .u32<|ws 7):=hW▸(bP _ _ _ (zm b 7) (by show b≠_;omega)).trans (Cb (Cb w7 RX)<|(AR _ u1).alloc lr _);have BW:AF (Bl w W):=⟨by
  have b1:=RX.trans<|((AR _ u1).alloc lr<|.cells Oi 391).mono hsu;rw[<- hW];exact⟨b1.os,b1.tape,b1.output,by rw[Ef];exact b1.size,fun j hj=>(Db _ _ j ps zx).trans (b1.block j hj)⟩⟩
 clear w0 w1 w2 w3 w4 w5 w6 w7;have HW:=AC hW;clear hW;go_wp2_with (refine Ij rfl 391 (.tmp 2) (.tmp 22) rfl u1.heap.size ps rfl rfl 391 Oi (AO.new u1 Oi _) YV dQ.symm Bw ?_;show wpList _ _ _ _ _ ((u1.alloc<|.cells Oi 391).setRow u1.heap.size ps);rw[HW.o])
 try simp only[Act.put]
 go_quiet (fail)
 go_wp2
 go_loopw [3,4,5,6,7,8,9,10,63] (fun va vb vc vd ve vf vg vh iv wr=>Yht W (Be hs 48) ws va vb vc vd ve vf vg vh iv wr) (fun _ _ _ _ _ _ _ _ iv _=>64-(intOf iv).toNat)
 .exact⟨0,zx,rfl,⟨_,rfl⟩,rfl,rfl,rfl,rfl,rfl,rfl,rfl,rfl⟩
 .obtain⟨i,hi,rfl,⟨q,rfl⟩,rfl,rfl,rfl,rfl,rfl,rfl,rfl,rfl⟩:=hrel;by_cases hlt:i<64
  .have g:(i:Int)<64:=zx
   have cs:=(ZZ.o.be BW.o).steps i hlt;have cp:=(LP.o.cell i).trans<|VH i hlt;have R:=AC fun(x:Int) u=>AJ (Xr x (-6) 26 zu zu zu u) (AJ (Xr x (-11) 21 zu zu zu u)<|AJ (Xr x (-25) 7 zu zu zu u)<|AJ (Xr x (-2) 30 zu zu zu u)<|AJ (Xr x (-13) 19 zu zu zu u)<|Xr x (-22) 10 zu zu zu u);have N0:AF (Cf (Be hs 48) (i+1) ws 0=((Cf (Be hs 48) i ws 7+bits .xor .u32 (bits .xor .u32 (Nc 26<|Cf (Be hs 48) i ws 4)<|Nc 21<|Cf (Be hs 48) i ws 4) (Nc 7<|Cf (Be hs 48) i ws 4)+bits .xor .u32 (bits .and .u32 (Cf (Be hs 48) i ws 4)<|Cf (Be hs 48) i ws 5) (bits .and .u32 (bits .xor .u32 IntKind.u32.max<|Cf (Be hs 48) i ws 4)<|Cf (Be hs 48) i ws 6)+((ZK.getD i 0:Nat):Int)+Be hs 48 i+bits .xor .u32 (bits .xor .u32 (Nc 30<|Cf (Be hs 48) i ws 0)<|Nc 19<|Cf (Be hs 48) i ws 0) (Nc 10<|Cf (Be hs 48) i ws 0)) % 4294967296+bits .xor .u32 (bits .xor .u32 (bits .and .u32 (Cf (Be hs 48) i ws 0)<|Cf (Be hs 48) i ws 1)<|bits .and .u32 (Cf (Be hs 48) i ws 0)<|Cf (Be hs 48) i ws 2) (bits .and .u32 (Cf (Be hs 48) i ws 1)<|Cf (Be hs 48) i ws 2)) % 4294967296):=⟨rfl⟩;have N4:AF (Cf (Be hs 48) (i+1) ws 4=(Cf (Be hs 48) i ws 3+(Cf (Be hs 48) i ws 7+bits .xor .u32 (bits .xor .u32 (Nc 26<|Cf (Be hs 48) i ws 4)<|Nc 21<|Cf (Be hs 48) i ws 4) (Nc 7<|Cf (Be hs 48) i ws 4)+bits .xor .u32 (bits .and .u32 (Cf (Be hs 48) i ws 4)<|Cf (Be hs 48) i ws 5) (bits .and .u32 (bits .xor .u32 IntKind.u32.max<|Cf (Be hs 48) i ws 4)<|Cf (Be hs 48) i ws 6)+((ZK.getD i 0:Nat):Int)+Be hs 48 i) % 4294967296) % 4294967296):=⟨rfl⟩;have NN:AF (Cf (Be hs 48) (i+1) ws 1=Cf (Be hs 48) i ws 0/\Cf (Be hs 48) (i+1) ws 2=Cf (Be hs 48) i ws 1/\Cf (Be hs 48) (i+1) ws 3=Cf (Be hs 48) i ws 2/\Cf (Be hs 48) (i+1) ws 5=Cf (Be hs 48) i ws 4/\Cf (Be hs 48) (i+1) ws 6=Cf (Be hs 48) i ws 5/\Cf (Be hs 48) (i+1) ws 7=Cf (Be hs 48) i ws 6):=⟨rfl,rfl,rfl,rfl,rfl,rfl⟩;generalize Cf (Be hs 48) i ws 0=sa at*;generalize Cf (Be hs 48) i ws 1=sb at*;generalize Cf (Be hs 48) i ws 2=sc at*;generalize Cf (Be hs 48) i ws 3=sd at*;generalize Cf (Be hs 48) i ws 4=se at*;generalize Cf (Be hs 48) i ws 5=sx at*;generalize Cf (Be hs 48) i ws 6=sg at*;generalize Cf (Be hs 48) i ws 7=sh at*;generalize Be hs 48 i=pl at*;generalize ((ZK.getD i 0:Nat):Int)=kk at*;clear VH W0 W1 W2 W3 W4 W5 W6 W7;go_wp2_with fail
   apply(R.o _ _).1.mono;rintro e w' ⟨rfl,rfl⟩;go_wp2_with fail
   apply(R.o _ _).2.1.mono;rintro e w' ⟨rfl,rfl⟩;go_wp2_with fail
   apply(R.o _ _).2.2.1.mono;rintro e w' ⟨rfl,rfl⟩;go_wp2
   go_quiet (fail)
   go_wp2_with fail
   apply(R.o _ _).2.2.2.1.mono;rintro e w' ⟨rfl,rfl⟩;go_wp2_with fail
   apply(R.o _ _).2.2.2.2.1.mono;rintro e w' ⟨rfl,rfl⟩;go_wp2_with fail
   apply(R.o _ _).2.2.2.2.2.mono;rintro e w' ⟨rfl,rfl⟩;go_wp2
   exact⟨⟨i+1,zx,zw,⟨_,rfl⟩,by rw[N0.o],by rw[NN.o.1],by rw[NN.o.2.1],by rw[NN.o.2.2.1],by rw[N4.o],by rw[NN.o.2.2.2.1],by rw[NN.o.2.2.2.2.1],by rw[NN.o.2.2.2.2.2]⟩,zd⟩
  .obtain rfl:i=64:=zx
   have M0:AF (Mx (W.drewN q) b ws hs n m):=⟨HM.o.of<|BW.o.block b E9⟩;have K0:AF (Ad b w<|W.drewN q):=⟨((Ad.refl b w).AU BW.o).dr q⟩;have IX:=fun k hk u=>Yka (Cf (Be hs 48) 64 ws) k hk u;have XM:AF (∀ k,Xo hs ws k=(ws k+Cf (Be hs 48) 64 ws k) % 4294967296):=⟨fun _=>rfl⟩;clear VH W0 W1 W2 W3 W4 W5 W6 W7 CP LP HW;generalize Cf (Be hs 48) 64 ws=X at*;go_wp2
   go_loopw [138] (fun iv wr=>Yhc b w ws hs n m iv wr) (fun iv _=>8-(intOf iv).toNat)
   .exact⟨0,zx,rfl,by simpa using M0.o,K0.o⟩
   .obtain⟨k,hk,rfl,hM,hK⟩:=hrel;by_cases hlk:k<8
    .have g:(k:Int)<8:=zx
     have ck:=hM.word hlk;rw[xd zx]at ck;have sf:=hM.soft;have ix:=IX k hlk;have HM1:=AC hM;have IY:=AC hK;have xm:=XM.o k;clear hM hK IX;go_wp2
     go_region
     all_goals go_wp2_with fail
     all_goals
      refine⟨⟨k+1,zx,zw,?_,?_⟩,zd⟩
      .refine Mx.YN (w:=wr.drewN 1) HM1.o hlk fun j hj=>?_;show(if j<k+1 then Xo hs ws j else ws j)=if j=k then _ else(if j<k then Xo hs ws j else ws j);by_cases hjk:j=k
       .subst hjk;rw[xj zx,xj rfl,xm]
       .rw[xd hjk];by_cases Am:j<k
        .rw[xj zx,xj Am]
        .rw[xd zx,xd Am]
      .exact IY.o.drew.set _ _
    .obtain rfl:k=8:=zx
     have HM1:=AC hM;have IY:=AC hK;clear hM hK;go_wp2_with fail
     refine⟨rfl,_,(by simp[results,results208,go_sem];try rfl),rfl,IY.o,?_⟩;obtain⟨vs,hb,Oa,h8,r⟩:=HM1.o;exact⟨vs,hb,Oa,fun j hj=>by rw[h8 j hj];simp[hj],r⟩
structure Ms where
 ws:Nat->Int
 hs:Nat->Int
 n:Nat
def xK (s:Ms):Ms:=⟨fun k=>(s.ws k+Cf (Be s.hs 48) 64 s.ws k) % 4294967296,s.hs,0⟩
def gW (s:Ms) (c:UInt8):Ms:=
 if s.n+1=64 then xK ⟨s.ws,fun j=>if j=s.n then(c.toNat:Int)else s.hs j,64⟩else⟨s.ws,fun j=>if j=s.n then(c.toNat:Int)else s.hs j,s.n+1⟩
def Nl (s:Ms) (l:List UInt8):Ms:=l.foldl gW s
def Nq (hs:Nat->Int) (n:Nat) (l:List UInt8) (j:Nat):Int:=if n<=j/\j<n+l.length then((l.getD (j-n) 0).toNat:Int)else hs j
def Zq7 (hs:Nat->Int)(n:Nat)(c:UInt8)(l:List UInt8):Nq (fun j=>if j=n then(c.toNat:Int)else hs j) (n+1) l=Nq hs n (c::l):=by
 funext j
 unfold Nq;by_cases h1:n+1<=j/\j<n+1+l.length
 .rw[xj h1,xj zc,show j-n=(j-(n+1))+1 by omega,List.getD_cons_succ]
 .rw[xd h1];show(if j=n then(c.toNat:Int)else hs j)=_;by_cases hj:j=n
  .subst hj;rw[xj rfl,xj zw,Nat.sub_self,List.getD_cons_zero]
  .rw[xd hj,xd zc]
def Z7p: ∀ (l:List UInt8) (s:Ms),s.n+l.length<64->Nl s l=⟨s.ws,Nq s.hs s.n l,s.n+l.length⟩
 | [],s,_=>by
  have e:Nq s.hs s.n []=s.hs:=by
   funext j
   unfold Nq;exact xd (by simp;try omega)
  show s=_;rw[e];rfl
 | c::l,s,h=>by
  simp at h;show Nl (gW s c) l=_;unfold gW;rw[xd zx,Z7p l _ (by show s.n+1+l.length<64;omega)];simp only[Zq7,DU];rw[show s.n+1+l.length=s.n+(l.length+1)by omega]
def Z15: ∀ (l:List UInt8) (s:Ms),l≠[]->s.n+l.length=64->Nl s l=xK ⟨s.ws,Nq s.hs s.n l,64⟩
 | [],_,h,_=>absurd rfl h
 | [c],s,_,h=>by
  simp at h;show gW s c=_;unfold gW;rw[xj zx];have e:Nq s.hs s.n [c]=fun j=>if j=s.n then(c.toNat:Int)else s.hs j:=by
   rw[<- Zq7];funext j
   unfold Nq;exact xd (by simp;try omega)
  rw[e]
 | c::d::l,s,_,h=>by
  simp at h;show Nl (gW s c) (d::l)=_;unfold gW;rw[xd zx,Z15 (d::l) _ zw zc];simp only[Zq7]
def Zn2 (s:Ms)(l r:List UInt8):Nl s (l++r)=Nl (Nl s l) r:=by unfold Nl;rw[List.foldl_append]
def Z2h {P:Program}(w:Bb)(dT sT ty elem:TypeId)(g o IJ Ob n:Nat)(s:Ay)(cur:Ca)(t:TypeId)(hu:P.underlying dT=some (.slice elem))(hs:(P.info? elem).map (·.size)=some 1)(hg:w.heap[g]?=some (.cells cur t (0,0)))(hn:Nat.min s.size IJ=n)(Fj:o+n<=cur.size):
  (Builtin.copy_ #[dT,sT] ty #[sP (Qb g o) IJ Ob,um s]).run P w= .ok (goInt n) (w.setRow g (cur.toList.take o++Lib.byteCells (s.data.toList.take n)++cur.toList.drop (o+n)).toArray):=by
 have hle:n<=s.data.toList.length:=by
  have:n<=s.size:=hn▸Nat.min_le_left _ _
  simpa using this
 have hlen:(Lib.byteCells<|s.data.toList.take n).length=n:=by rw[xl,wt];omega
 have hst:=run_storeCells_at P g o t (Lib.byteCells<|s.data.toList.take n) 0 cur w hg (by rw[hlen];simpa using Fj)<|Lib.byteCells_one _;have Kv:List.take n (List.map (fun b:UInt8=>Value.int IntKind.u8 (b.toNat:Int)) s.data.toList)=Lib.byteCells (s.data.toList.take n):=by
  unfold Lib.byteCells;rw[List.map_take]
 rw[hlen]at hst;simp only[Qs]at hst;cases hq:P.info? elem with
 | none=>simp[hq]at hs
 | some i=>
  simp[Builtin.copy_,J5 hu,Builtin.lenOf,Builtin.firstCells,sizeOf,typeInfo,hq,hn];rw[Kv,hst];simp[Result.andThen]
def Z6k {α:Type}(l mid:List α)(o k j:Nat)(hm:mid.length=k)(hf:o+k<=l.length):(l.take o++mid++l.drop (o+k))[j]?=if o<=j/\j<o+k then mid[j-o]? else l[j]?:=by
 have h1:(l.take o).length=o:=by rw[wt];omega
 have h2:(l.take o++mid).length=o+k:=by rw[JS,h1,hm]
 by_cases hj:j<o+k
 .rw[PK zx];by_cases Am:j<o
  .rw[PK zx,xd zx,List.getElem?_take,xj Am]
  .rw[PL zx,h1,xj zx]
 .rw[PL zx,h2,xd zx,List.getElem?_drop,show o+k+(j-(o+k))=j by omega]
def Zwd {P:Program}{ops:Array Oper}{o:Oper}{a:Act}{w:Bb}{K:Act->Bb->Prop}{Q:Exit->Act->Bb->Prop}{E:Prop}(hgd:o.guard=none)(d x:Operand)(dT sT:TypeId)(hop:o.op=Op.call {callee:=Callee.builtin Builtin.copy,args:=#[d,x],argTypes:=#[dT,sT]})
  (elem:TypeId) (g off IJ Ob n:Nat) (s:Ay) (cur:Ca) (t:TypeId) (hu:P.underlying dT=some (.slice elem)) (hs:(P.info? elem).map (·.size)=some 1) (hd:a.eval d= sP (Qb g off) IJ Ob) (hx:a.eval x= um s) (hg:w.heap[g]?=some (.cells cur t (0,0))) (hn:Nat.min s.size IJ=n) (Fj:off+n<=cur.size) (nv:Ca) (RH:(cur.toList.take off++Lib.byteCells (s.data.toList.take n)++cur.toList.drop (off+n)).toArray=nv)
  (hK:K (a.put o.dst<|goInt n) (w.setRow g nv)):if Region.wanted o (yielded ops a.tmps)=true then Oper.wp P o a w K Q else E:=by
 have hw:Region.wanted o (yielded ops a.tmps)=true:=by simp[Region.wanted,hgd]
 rw[xj hw];have hrun:=Z2h (P:=P) w dT sT o.type elem g off IJ Ob n s cur t hu hs hg hn Fj;rw[RH]at hrun;unfold Oper.wp;simp[execOp,hop,resolve,invoke,builtin,hd,hx,hrun,Result.andThen];exact hK
def Mx.nums (h:Mx w b ws hs n m):w.cell? (zm b 72)=some (zo (n:Int))/\w.cell? (zm b 73)=some (.int .u64 m):=by
 obtain⟨vs,hb,_,_,_,Qc,Qa⟩:=h;exact⟨(hb.cell 72).trans Qc,(hb.cell 73).trans Qa⟩
def Mx.bg (h:Mx w b ws hs n m)(x:Int):Mx (w.setCell (zm b 73)<|.int .u64 x) b ws hs n x:=by
 obtain⟨vs,hb,Oa,h8,hh,Qc,Qa⟩:=h;refine⟨_,hb.set 73 _,by simp[Oa],fun j hj=>?_,fun j hj=>?_,?_,?_⟩
 .rw[Dy,xd zx,h8 j hj]
 .rw[Dy,xd zx,hh j hj]
 .rw[Dy,xd zx,Qc]
 .rw[Dy,xj rfl,xj zx]
def Mx.J6 (h:Mx w b ws hs n m)(x:Nat):Mx (w.setCell (zm b 72)<|zo (x:Int)) b ws hs x m:=by
 obtain⟨vs,hb,Oa,h8,hh,Qc,Qa⟩:=h;refine⟨_,hb.set 72 _,by simp[Oa],fun j hj=>?_,fun j hj=>?_,?_,?_⟩
 .rw[Dy,xd zx,h8 j hj]
 .rw[Dy,xd zx,hh j hj]
 .rw[Dy,xj rfl,xj zx]
 .rw[Dy,xd zx,Qa]
def Mx.laid {u:Bb}{p k:Nat}{vs nv:Ca}{l:List UInt8}(hu:AO u b nv 276)(Oa:vs.size=74)(h8: ∀ k,k<8->vs[k]?=some (.int .u32<|ws k))(hh: ∀ k,k<64->vs[8+k]?=some (.int .u8<|hs k))(Qc:vs[72]?=some (zo (n:Int)))(Qa:vs[73]?=some (.int .u64 m))(hl:l.length=k)(hk:p+k<=64)(RH:(vs.toList.take (8+p)++Lib.byteCells l++vs.toList.drop (8+p+k)).toArray=nv):Mx u b ws (Nq hs p l) n m:=by
 have g: ∀ j,nv[j]?=if 8+p<=j/\j<8+p+k then(Lib.byteCells l)[j-(8+p)]? else vs[j]?:=fun j=>by
  rw[<- RH,Tu,Z6k _ _ _ _ _ (by rw[xl,hl]) (by rw[Vp];omega)];simp only[Qq]
 refine⟨nv,hu,?_,fun j hj=>?_,fun j hj=>?_,?_,?_⟩
 .rw[<- RH];simp[xl,hl,Oa];omega
 .rw[g,xd zx,h8 j hj]
 .rw[g];unfold Nq;by_cases hc:p<=j/\j<p+l.length
  .rw[xj hc,xj zx,show 8+j-(8+p)=j-p by omega];have hlt:j-p<l.length:=zx
   simp[Lib.byteCells,List.getD,A8 hlt]
  .rw[xd hc,xd zx,hh j hj]
 .rw[g,xd zx,Qc]
 .rw[g,xd zx,Qa]
def Yi3:Value->Nat | .string s=>s.size | _=>0
def Yex (a:Nat->Addr) (b:Nat) (w:Bb) (s:Ms) (t:Ay) (m:Int) (tv:Value) (wr:Bb):Prop:= ∃ (s1:Ms) (r:Ay),tv= um r/\r.size<=t.size/\Nl s1 r.data.toList=Nl s t.data.toList/\s1.n<64/\Mx wr b s1.ws s1.hs s1.n m/\Ad b w wr/\AZ a wr
def Ycs {a:Nat->Addr}{s:Ms}{t:Ay}(Z:AZ a w)(hgb:24<=b)(h:Mx w b s.ws s.hs s.n m)(hn:s.n<64)(ht:t.size<1000000000):Calls prog 146 #[zq b 0,um t] w fun e w'=>e=uY (.tuple #[])/\Ad b w w'/\Mx w' b (Nl s t.data.toList).ws (Nl s t.data.toList).hs (Nl s t.data.toList).n (IntKind.u64.wrap<|m+(t.size:Int))/\(Nl s t.data.toList).n<64:=by
 obtain⟨c72,Qd⟩:=h.nums;have sf:=h.soft;have E9:=h.lt;have H1:=AC<|h.bg<|IntKind.u64.wrap<|m+(t.size:Int);have K1:=AC<|(Ad.refl b w).set 73<|.int .u64<|IntKind.u64.wrap<|m+(t.size:Int);have Z1:=AC<|Z.keeps K1.o hgb;have ZW:=AC Z;clear h Z;obtain⟨M,hM⟩:=fu (IntKind.u64.wrap (m+(t.size:Int)));rw[hM]at H1 K1 Z1⊢;go_in
 go_wp2
 go_loopw [1] (fun tv wr=>Yex a b w s t M tv wr) (fun tv _=>Yi3 tv)
 .exact⟨s,t,rfl,EO _,rfl,hn,H1.o,K1.o,Z1.o⟩
 .clear H1 K1 Z1 c72 Qd sf;obtain⟨s1,r,rfl,hrt,hE,NM,hM,hK,hZ⟩:=hrel;obtain⟨c72,Qd⟩:=hM.nums;have sf:=hM.soft;by_cases Jo:r.size=0
  .have g0: ¬ (0:Int)<(r.size:Int):=zx
   have e0:r.data.toList=[]:=M9 (by simpa using Jo);rw[e0]at hE;have R:=AC<|AJ hE<|AJ NM<|AJ hM hK;clear hE hM hK hZ;go_wp2_with fail
   refine⟨rfl,_,(by simp[results,results146,go_sem];try rfl),rfl,R.o.2.2.2,?_⟩;rw[<- R.o.1];exact⟨R.o.2.2.1,R.o.2.1⟩
  .have g0:(0:Int)<(r.size:Int):=zx
   obtain⟨vs,hb,Oa,h8,hh,Qc,Qa⟩:=hM;obtain⟨k,hk⟩:=fu (Nat.min r.size (64-s1.n));have hk2:k<=r.size/\k<=64-s1.n/\0<k:=by rw[<- hk];exact⟨Nat.min_le_left _ _,Nat.min_le_right _ _,by rw[Nat.lt_min];omega⟩
   have HB:=AC hb;obtain⟨nv,RH⟩:=fu ((vs.toList.take (8+s1.n)++Lib.byteCells (r.data.toList.take k)++vs.toList.drop (8+s1.n+k)).toArray);have HNV:=AC RH;have gn:(s1.n:Int)<=64:=zx
   have gne: ¬ 64=s1.n:=zx
   clear RH;go_wp2
   go_region_law (refine Zwd rfl (.tmp 25) (.tmp 26) 149 9 rfl 5 b (8+s1.n) (64-s1.n) (64-s1.n) k r vs 276 underlying149 zt (by simp[Act.eval,Act.put]) (by simp[Act.eval,Act.put]) HB.o hk zx nv HNV.o ?_)
   all_goals
    try simp only[Act.put]
    have RX:AO (wr.drew.setRow b nv) b nv 276:=GM _ _ vs _ _ _ HB.o;have Jq:(r.data.toList.take k).length=k:=by
     rw[wt,Nat.min_eq_left]
     have:=hk2.1
     simpa using this
    have M2:=AC<|Mx.laid RX Oa h8 hh Qc Qa Jq zx HNV.o;have K2:AF (Ad b w<|wr.drew.setRow b nv):=⟨⟨hK.os,hK.tape,hK.output,by rw[Ef];exact hK.size,fun j hj hne=>(Db _ _ j nv hne).trans (hK.block j hj hne)⟩⟩;obtain⟨W2,hW2⟩: ∃ W,wr.drew.setRow b nv=W:=⟨_,rfl⟩;rw[hW2]at M2 K2⊢;clear hW2 RX c72 Qd sf hh h8 Qc Qa;obtain⟨c72,Qd⟩:=M2.o.nums;have sf:=M2.o.soft;have Z2:=AC<|ZW.o.keeps K2.o hgb;have OM:AF (r.data.toList=r.data.toList.take k++(r.extract k r.size).data.toList):=⟨by
     have e:(r.extract k r.size).data.toList=r.data.toList.drop k:=by
      simp[ByteArray.data_extract,Array.toList_extract,U0]
     rw[e,List.take_append_drop]⟩
    have VA:(r.extract k r.size).size=r.size-k:=by rw[YB];omega
    have aS:=AC hE;clear hE hK hZ hM HNV HB;by_cases hfull:s1.n+k=64
    .have g5:((s1.n:Int)+(k:Int)==64)=true:=by rw[DR];omega
     have NE:AF (Nl (xK ⟨s1.ws,Nq s1.hs s1.n<|r.data.toList.take k,64⟩) (r.extract k r.size).data.toList=Nl s t.data.toList):=⟨by
      rw[<- aS.o,OM.o,Zn2,<- OM.o,Z15 _ s1 (fun z=>by rw[z]at Jq;simp at Jq;omega) zx]⟩
     have M3:=M2.o.J6<|s1.n+k;rw[Int.natCast_add]at M3;have K3:=K2.o.set 72<|.int .i64<|(s1.n:Int)+(k:Int);have CM:=AC<|Z0z (ZW.o.keeps K3 hgb) M3;have K3':=AC K3;clear M3 K3;go_wp2_with fail
     apply mq CM.o;rintro w5 ⟨NS,tY⟩;have R5:=AC<|AJ (tY.J6 0)<|(K3'.o.trans NS).set 72<|zo 0;have sf5:=tY.soft;have c725:=tY.nums.1;clear NS tY CM c72 Qd sf;go_wp2
     exact⟨⟨xK ⟨s1.ws,Nq s1.hs s1.n<|r.data.toList.take k,64⟩,r.extract k r.size,rfl,zx,NE.o,by show(0:Nat)<64;decide,R5.o.1,R5.o.2,ZW.o.keeps R5.o.2 hgb⟩,by show(r.extract k r.size).size<r.size;omega⟩
    .have g5:((s1.n:Int)+(k:Int)==64)=false:=zj
     have NE:AF (Nl ⟨s1.ws,Nq s1.hs s1.n<|r.data.toList.take k,s1.n+k⟩ (r.extract k r.size).data.toList=Nl s t.data.toList):=⟨by
      rw[<- aS.o,OM.o,Zn2,<- OM.o,Z7p _ s1 zx,Jq]⟩
     have M3:=M2.o.J6<|s1.n+k;rw[Int.natCast_add]at M3;have K3:=K2.o.set 72<|.int .i64<|(s1.n:Int)+(k:Int);have R3:=AC<|AJ M3 K3;clear M3 K3;go_wp2
     exact⟨⟨⟨s1.ws,Nq s1.hs s1.n<|r.data.toList.take k,s1.n+k⟩,r.extract k r.size,rfl,zx,NE.o,by show s1.n+k<64;omega,R3.o.1,R3.o.2,ZW.o.keeps R3.o.2 hgb⟩,by show(r.extract k r.size).size<r.size;omega⟩
end Go.W
