import Derived.Test.YtghnjdpgbldlkaaGreatDoorW20
import Derived.Test.YtghnjdpgbldlkaaGreatDoorW26
set_option linter.defProp false
set_option maxRecDepth 100000
set_option maxHeartbeats 8000000
set_option linter.unusedSimpArgs false
open Go.Proofs Go.RowKit Go.W Tryz
namespace Go.W
variable {w:World}{vs:List Value}{F:List Nat}
def Po (W0:World) (D:Nat):D9 Bk:=fun _ vs x F=>F=[]/\DW W0.heap.size W0 D vs x
def Po.stable (W0:World)(D:Nat):IB (Po W0 D):=fun _ _ _ _ _ h _=>h
def Po.one {W0:World}{D:Nat}{x:Bk}(h:Po W0 D w vs x F): ∀ u,u∈vs->u.oneCell'=true:=by
 obtain⟨_,p,c,p',c',p2,c2,rfl,_⟩:=h;intro u hu;simp at hu;rcases hu with rfl | rfl | rfl <;> rfl
def Ydp (W0:World) (b o:Nat) (y:ByteArray×Bk):Prop:=b<W0.heap.size/\y.1.size<1000000000/\ ∃ p c p' c' p2 c2,W0.cell? ⟨b,o,none⟩=some (.string y.1)/\W0.cell? ⟨b,o+1,none⟩=some (.slice p y.2.facts.length c)/\W0.cell? ⟨b,o+2,none⟩=some (.slice p' y.2.rules.length c')/\W0.cell? ⟨b,o+3,none⟩=some (.slice p2 y.2.checks.length c2)/\DW W0.heap.size W0 3 [.slice p y.2.facts.length c,.slice p' y.2.rules.length c',.slice p2 y.2.checks.length c2] y.2
def GL:D9 ByteArray:=fun _ vs x F=>F=[]/\vs=[.string x]
def GL.stable:IB GL:=fun _ _ _ _ _ h _=>h
def GL.one {x:ByteArray}(h:GL w vs x F): ∀ u,u∈vs->u.oneCell'=true:=by
 obtain⟨_,rfl⟩:=h;intro u hu;simp at hu;subst hu;rfl
end Go.W
namespace Go.P
variable {e:TypeId}{w:World}{v:Value}{xs:List (ByteArray×Bk)}{F:List Nat}
def Z86 (h:AO e 4 (Hf AY 4) w v xs F)(hF: ∀ k,k∈F->k<w.heap.size):PK 4 (Ydp w) v xs:=h.rowOf hF fun b o vs x G hc hb hG hq=>by
 obtain⟨vb,rfl,hx,ko⟩:=hq;have hS:=Dq.toS ko hG;obtain⟨p,c,p',c',p2,c2,rfl⟩:=Dq.vals ko;exact⟨hb,hx,p,c,p',c',p2,c2,hc 0 zx,hc 1 zx,hc 2 zx,hc 3 zx,hS⟩
def Z2q {u:World}{p:Option Addr}(h:Ap 4 (Ydp w) p xs)(hb:Bl w u):Ap 4 (Qp w.heap.size u) p (xs.map (·.1)):=⟨by simpa using h.len,fun i x hx=>by
 rw[Jq]at hx;obtain⟨y,hy,rfl⟩:=SE.1 hx;obtain⟨b,o,hp,hl,hs,p1,c1,p2,c2,p3,c3,k0,k1,k2,k3,_⟩:=h.at_ i y hy;have cc:=fun o=>hb.cell (p:=⟨b,o,none⟩) hl;exact⟨b,o,hp,hl,hs,p1,_,c1,p2,_,c2,p3,_,c3,(cc _).trans k0,(cc _).trans k1,(cc _).trans k2,(cc _).trans k3⟩⟩
def Z3v (T0:List UInt8)(ts:List ByteArray):(T0::Nb T0 ts)[ts.length]?=some (MH T0 ts):=by
 cases ts with
 | nil=>rfl
 | cons z zs=>
  rw[BO,List.getElem?_cons_succ,um _ _ _ zw];rw[Rx zw]
def Yc3 {xs:List (List UInt8)}(h:AO e 32 Pn w v xs F)(hF: ∀ k,k∈F->k<w.heap.size):PK 32 (fun b o x=>b<w.heap.size/\x.length=32/\w.rangeAt b o (Lib.byteCells x)) v xs:=h.rowOf hF fun b o vs x G hc hb hG hq=>by
 obtain⟨_,hx,rfl⟩:=hq;refine⟨hb,hx,fun j u hj=>?_⟩;have hl:j<32:=by have:=(Gl.1 hj).1;rw[Lib.byteCells_length,hx]at this;exact this
 exact(hc j hl).trans hj
def Z82:(prog.info? 38).map (fun i=>(i.zero,i.size,i.bytes))=some (some<|.agg #[.slice none 0 0,.slice none 0 0,.slice none 0 0],3,72):=zt
def Z0f:Jk prog 27 38 3 72:=by
 obtain⟨i0,hi,hz0,hz1,hz2⟩:=info_parts Z82;exact⟨i0,_,underlying27,hi,hz0,hz1,hz2,rfl,zu,zu⟩
def uU:Jk prog 29 9 1 16:=by
 obtain⟨i0,hi,hz0,hz1,hz2⟩:=info_parts uQ;exact⟨i0,_,underlying29,hi,hz0,hz1,hz2,rfl,zu,zu⟩
def Zje {L off:Nat}{xs:List UInt8}(h:w.rangeAt L off (Lib.byteCells xs))(n:Nat)(hn:n=xs.length){cap:Nat}:
  (convert 74 9<|.slice (Qb L off) n cap).run prog w= .ok (.string ⟨xs.toArray⟩) w:=by
 subst hn;refine oM (P:=prog) w 74 9 5 ⟨L,off,none⟩ cap xs underlying74 underlying5 underlying9 fun j hj=>?_;have e1:(⟨L,off,none⟩:Addr).add j=⟨L,off+j,none⟩:=Addr.add_lit _ _ _;rw[e1];exact h j _ (by simp[Lib.byteCells,DK hj])
def Ydx (w2 w5:World) (xs:List Bk) (ids:List ByteArray) (iv bv dv:Value) (wr:World):Prop:= ∃ (k:Nat) (F1 F2:List Nat),k<=xs.length/\iv= .int .i64 (k:Int)/\AO 38 3 (Po w2 3) wr bv (xs.take k) F1/\AO 9 1 GL wr dv (ids.take k) F2/\Af w5.heap.size wr F1/\Af w5.heap.size wr F2/\(∀ j,j∈F1->j∉F2)/\Bl w5 wr
def Z7v (V:E8)(CL:Ig){a:Nat->Addr}{key:ByteArray}{l:By}{ch:Ch}{y0:ByteArray×Bk}{ys:List (ByteArray×Bk)}(Z:Aa a w)(hk:Vt key=true)(hl:l.length<1000000000)(hch:JK KO l= .ok ch)(hs:ch.sealed=false)(zf:ch.links=y0::ys)(hn:ys.length<8)(YG:ch.tag=MH (DV key [y0.1]) (ys.map (·.1))):
  Calls prog 41 #[.string key,.string<|ba l] w fun e w'=> ∃ v1 v2 F1 F2 W0,e= .returned (.tuple #[v1,v2,.nilIface])/\Bl w W0/\Bl W0 w'/\AO 38 3 (Po W0 3) w' v1 ((y0::ys).map (·.2)) F1/\AO 9 1 GL w' v2 ((DV key [y0.1]::Nb (DV key [y0.1]) (ys.map (·.1))).map fun t=>⟨(FZ [⟨t.toArray⟩]).toArray⟩) F2/\Af W0.heap.size w' F1/\Af W0.heap.size w' F2:=by
 obtain⟨T0,Ud⟩: ∃ T0,AC (DV key [y0.1]=T0):=⟨_,⟨rfl⟩⟩;rw[Ud.out]at YG⊢;have kT:key.size<1000000000:=by unfold Vt at hk;simp at hk;omega
 have CK:=AA fun u=>Zwd key kT u;have C:=AA<|Zsg V CL Z hl;have HE:=AA<|AF hch<|AF hs<|AF zf YG;clear hch hs zf YG;have ZZ:=AA Z;clear Z V CL;go_in
 go_wp2_with fail
 refine(CK.out _).mono ?_;rintro e w1 ⟨rfl,rfl⟩;rw[hk];go_wp2_with fail
 refine C.out.mono ?_;rintro e w2 ⟨hb2,⟨m,hy,hm,rfl⟩ | ⟨y,vs,F,hy,rfl,hQ,hN⟩⟩
 ·rw[HE.out.1]at hy;cases hy
 obtain rfl:y=ch:=by rw[HE.out.1]at hy;exact(Except.ok.inj hy).symm
 obtain⟨v,rfl,JV,hrow⟩:=hQ;obtain⟨p1,c1,rfl,Yk,lI⟩:=Z86 hrow fun k hk=>hN.lt k hk;have hlen:(Lib.byteCells y.tag).length=32:=by rw[Lib.byteCells_length,JV]
 have Yb:y.links.length=ys.length+1:=by rw[HE.out.2.2.1];rfl
 rw[Yb]at Yk⊢;have pE:AC ((Value.bool y.sealed::Value.slice p1 (ys.length+1) c1::Lib.byteCells y.tag).toArray=C8 false (.slice p1 (ys.length+1) c1) (Lib.byteCells y.tag)):=⟨by rw[HE.out.2.1];rfl⟩;rw[pE.out];have S1:=AJ.new w2 DR 114;have DN:=U0 false (.slice p1 (ys.length+1) c1) hlen;have C9:=bY false p1 (ys.length+1) c1 y.tag;have hsz:=Uz false (.slice p1 (ys.length+1) c1) hlen;obtain⟨CV,Ei⟩: ∃ CV,AC (C8 false (.slice p1 (ys.length+1) c1) (Lib.byteCells y.tag)=CV):=⟨_,⟨rfl⟩⟩;rw[Ei.out]at DN C9 hsz⊢;have S2:=Gj _ _ _ CV _ _ S1;have B3:Bl w2 ((w2.alloc<|.cells DR 114).setRow w2.heap.size CV):=((AQ _ w2).alloc lr _).Br _ lr;rw[HE.out.2.2.1]at lI;have CT:=AA<|Z97 (S:=false) (tag:=y.tag) (c:=c1) (key:=key) (t0:=y0.1) (ts:=ys.map (·.1)) ((ZZ.out.below hb2).below B3) kT B3.size (Z2q lI B3) (by simp;omega) (by simpa using Yk);rw[Nw,Ei.out,Ud.out]at CT;have om:=AA JV;clear C CK hy hrow hN hlen hsz Yb pE JV;go_wp2_with (first
  | (refine Jp rfl 114 (.tmp 7) (.tmp 21) rfl w2.heap.size CV rfl rfl 114 DR S1 DN (by rw[<- Ei.out,Uz _ _ (by rw[Lib.byteCells_length,om.out])];rfl) C9 ?_)
  | (refine QK rfl 114 (.tmp 7) rfl w2.heap.size rfl 114 CV (0,0) _ S2 underlying114 rfl DN ?_))
 refine CT.out.mono ?_;rintro e w4 ⟨v4,F4,rfl,rP,hN4,hb4⟩;obtain⟨TL,hTL⟩: ∃ TL,AC (T0::Nb T0 (ys.map (·.1))=TL):=⟨_,⟨rfl⟩⟩;have Yp:TL.length=ys.length+1:=by rw[<- hTL.out,BO,wU,Nw]
 have TA:TL[ys.length]?=some y.tag:=by
  have:=Z3v T0<|ys.map (·.1)
  rw[hTL.out,Nw,<- HE.out.2.2.2]at this;exact this
 rw[hTL.out]at rP;obtain⟨p4,c4,rfl,TJ,rJ⟩:=Yc3 rP fun k hk=>hN4.lt k hk;obtain⟨R,o4,rfl,hRl,_,hrg⟩:=rJ.at_ ys.length _ TA;rw[Yp]at TJ⊢;have B4:=AA<|B3.trans<|hb4.mono B3.size;have C4:=AJ.of S2<|hb4.block _<|AJ.lt S2;have CE:=AA<|Z5a (w:=w4) (v:= .slice p1 (ys.length+1) c1) om.out;rw[Ei.out]at CE;unfold Ha at CE;obtain⟨n,hnn⟩: ∃ n,AC (ys.length=n):=⟨_,⟨rfl⟩⟩;rw[hnn.out]at TJ hrg⊢;obtain⟨YT,hYT⟩: ∃ YT,AC (Lib.byteCells y.tag=YT):=⟨_,⟨rfl⟩⟩;have hYl:YT.length=32:=by rw[<- hYT.out,Lib.byteCells_length,om.out]
 rw[hYT.out]at hrg CE;have HSR:=AA rJ;have HLB:=AA lI;have Xo:=AA<|AF Yp TA;clear lI Yp TA Yk;clear S1 S2 B3 hb4 CT rJ rP;go_wp2_with fail
 have ek:n<8:=by have:=hnn.out;omega
 have hw4:IntKind.i64.wrap (n:Int)=(n:Int):=by rw[IntKind.wrap_i64];omega
 have Ag:wrap64 ((n:Int)+1-1)=(n:Int):=by unfold wrap64;omega
 have hw2:wrap64 (n:Int)=(n:Int):=by unfold wrap64;omega
 have hw3:(n:Int)<(n:Int)+1:=zx
 refine U7 (S:=fun u=>AJ u w2.heap.size CV 114/\u.rangeAt R (o4+n*32) (YT)) zt ?_;change wpAnyH _ _ _ _ _ _ _ _ (World.drew _);have AV:AJ w4.drew w2.heap.size CV 114/\w4.drew.rangeAt R (o4+n*32) (YT):=⟨C4,hrg⟩;refine wpAnyH_take (i:=0) (oi:={dst:=some 29,op:= .load 114<|.tmp 7,type:=114,pos:= "warrant.go:226",after:=#[],guard:=none}) (v:= .agg CV) rfl zt zt zt (fun _ _ _ h=>h) (wW rfl 114 (.tmp 7) rfl ⟨w2.heap.size,0,none⟩ rfl fun u hS=>WK u w2.heap.size 114 114 _ _ _ hS.1 underlying114 rfl DN) AV ?_;simp only[zz];refine tk 1 (.slice (Qb R o4) (n+1) c4) AV ?_;simp only[zz];refine tk 2 (.slice (Qb R o4) (n+1) c4) AV ?_;simp only[zz];refine tk 3 (.int .i64<|(n:Int)+1) AV ?_;simp only[zz];refine tk 4 (.int .i64 (n:Int)) AV ?_;simp only[zz];refine tk 5 (.pointer<|Qb R<|o4+n*32) AV ?_;simp only[zz];refine wpAnyH_take (i:=6) (oi:={dst:=some 35,op:= .load 111<|.tmp 34,type:=111,pos:= "warrant.go:226",after:=#[{on:=5,ground:=Ground.data}],guard:=none}) (v:= .agg (YT).toArray) rfl zt zt zt (fun _ _ _ h=>h) (yieldsIf_load_mid (by simp[Region.wanted]) 111 (.tmp 34) rfl R (o4+n*32) rfl (YT) _ (fun u hS=>hS.2) underlying111 rfl (by rw[hYl];kernel_rfl)) AV ?_;simp only[zz];refine Eg (rs:=[7]) zt zw<|EG rfl (fun K' hK'=>?_) Eh;go_simp;have jm:=Z5a (w:=w4.drew) (v:= .slice p1 (ys.length+1) c1) om.out;rw[Ei.out]at jm;unfold Ha at jm;rw[hYT.out]at jm;refine mq jm ?_;rintro w5 Bf;have B5:=AA<|B4.out.trans<|Below.mono (B:=w4.drew.heap.size) ⟨Bf.os,Bf.tape,Bf.output,Bf.size,Bf.block⟩ B4.out.size;have jq:AC (Bl w4 w5):=⟨⟨Bf.os,Bf.tape,Bf.output,Bf.size,Bf.block⟩⟩;refine hK'.out _ _ ⟨C4.of<|Bf.block _<|AJ.lt C4,fun j u hj=>(Bf.cell (p:=⟨R,o4+n*32+j,none⟩) hRl).trans (hrg j u hj)⟩ fun EJ=>?_;clear hK' K' jm CE AV;refine tk 8 (.bool false) EJ ?_;simp only[zz];refine Lp zt ?_ _;have v1:CV[1]?=some (.slice p1 (n+1) c1):=by rw[<- Ei.out,hnn.out];rfl
 have cl:w5.cell? ⟨w2.heap.size,1,none⟩=some (.slice p1 (n+1) c1):=(EJ.1.cell 1).trans v1;clear EJ C4;go_wp2_with fail
 obtain⟨xs,UV⟩: ∃ xs,AC ((y0::ys).map (·.2)=xs):=⟨_,⟨rfl⟩⟩;obtain⟨ids,hids⟩: ∃ ids,AC (TL.map (fun t=>(⟨(FZ [⟨t.toArray⟩]).toArray⟩:ByteArray))=ids):=⟨_,⟨rfl⟩⟩;have Gx:AC (xs.length=n+1):=⟨by rw[<- UV.out];simp[hnn.out]⟩;clear cl;clear Ag hw2 hw3 hw4 DN C9 hrg hYl hYT Ei hn TJ;go_loopw [42,10,11] (fun iv bv dv wr=>Ydx w2 w5 xs ids iv bv dv wr) (fun iv _ _ _=>xs.length-(intOf iv).toNat)
 case atStart=>exact⟨0,[],[],Ii _,rfl,AO.nil,AO.nil,Af.nil _ _,Af.nil _ _,(fun _ h=>by cases h),AQ _ _⟩
 case round=>
  obtain⟨k,F1,F2,hk,rfl,Wu,Wt,Wx,BI,hD,DT⟩:=hrel;by_cases hlt:k<n+1
  ·have g:(k:Int)<(n:Int)+1:=zx
   obtain⟨yk,YA⟩: ∃ yk,(y0::ys)[k]?=some yk:=⟨(y0::ys)[k]'(by have:=hnn.out;simp;omega),DK _⟩;obtain⟨b0,o0,rfl,hx⟩:=HLB.out.at_ k yk YA;have OG:xs[k]?=some yk.2:=by rw[<- UV.out,Jq,YA];rfl
   obtain⟨hbl,zM,q1,k1,q2,k2,q3,k3,z0,z1,z2,z3,hSk⟩:=hx;have ccw: ∀ o,wr.cell? ⟨b0,o,none⟩=w2.cell? ⟨b0,o,none⟩:=fun o=>(DT.cell (p:=⟨b0,o,none⟩)<|Ba hbl B5.out.size).trans (B5.out.cell (p:=⟨b0,o,none⟩) hbl);rw[<- ccw]at z0 z1 z2 z3;have hbwr:b0<wr.heap.size:=Ba hbl<|AU B5.out.size DT.size;obtain⟨tk,L9⟩: ∃ tk,TL[k]?=some tk:=⟨TL[k]'(by have:=hnn.out;have:=Xo.out.1;omega),DK _⟩;obtain⟨R',o',hRo,hRl',dn,eX⟩:=HSR.out.at_ k tk L9;obtain⟨rfl,rfl⟩:R=R'/\o4=o':=by injection hRo with h;injection h with h1 h2;exact⟨h1,h2⟩
   have HK:=AA<|AF YA<|AF OG<|AF L9<|AF dn<|AF eX hSk;clear YA OG L9 dn eX hSk ccw;have QZ:=AA DT.size;have HH:=AA<|AF Wu<|AF Wt<|AF Wx<|AF BI<|AF hD DT;clear Wu Wt Wx BI hD DT;have hk32:wr.heap.size<wr.heap.size+1:=zx
   have lG:=AA<|AU QZ.out<|JB wr.heap.size;have LB:AC (AJ ((wr.alloc<|.cells #[.string yk.1,.slice q1 yk.2.facts.length k1,.slice q2 yk.2.rules.length k2,.slice q3 yk.2.checks.length k3] 108).alloc<|.cells #[.slice q1 yk.2.facts.length k1,.slice q2 yk.2.rules.length k2,.slice q3 yk.2.checks.length k3] 38) (wr.heap.size+1) #[.slice q1 yk.2.facts.length k1,.slice q2 yk.2.rules.length k2,.slice q3 yk.2.checks.length k3] 38):=⟨by
    have:=AJ.new (wr.alloc<|.cells #[.string yk.1,.slice q1 yk.2.facts.length k1,.slice q2 yk.2.rules.length k2,.slice q3 yk.2.checks.length k3] 108) #[.slice q1 yk.2.facts.length k1,.slice q2 yk.2.rules.length k2,.slice q3 yk.2.checks.length k3] 38
    simpa using this⟩
   have ha2:AC (∀ j,j<wr.heap.size-> ∀ o1 o2,((wr.alloc o1).alloc o2).heap[j]?=wr.heap[j]?):=⟨fun j hj o1 o2=>(Ah _ _ _ (by simp;omega)).trans (Ah _ _ _ hj)⟩;have hlx:(xs.take k).length<100000000:=by rw[List.length_take];have:=Gx.out;omega
   go_wp2_with (at_builtin;go_must (refine MW Z0f rfl (.tmp 47) (.tmp 50) rfl (Po.stable w2 3) (fun _ _ _ _ h=>Po.one h) w5.heap.size u10 (xs.take k) F1 rfl (AO.stable (Po.stable w2 3) _ _ _ _ _ HH.out.1 fun j hj=>ha2.out j (HH.out.2.2.1.lt j hj) _ _) (wr.heap.size+1) #[.slice q1 yk.2.facts.length k1,.slice q2 yk.2.rules.length k2,.slice q3 yk.2.checks.length k3] 38 (0,0) yk.2 [] rfl LB.out rfl ⟨rfl,HK.out.2.2.2.2.2⟩ hlx (by have:=lG.out;simp;omega) (HH.out.2.2.1.later lr (by simp;omega)) (Af.nil _ _) (fun _ _ h=>by cases h) ?_);intro g6 Bt w6 F6 AM;have qx:(convert 74 9<|.slice (Qb R<|o4+k*32) 32 32).run prog w6= .ok (.string ⟨tk.toArray⟩) w6:=Zje (fun j u hj=>(Am (a:=⟨R,o4+k*32+j,none⟩)<|(AM.same R (by have:=QZ.out;have:=jq.out.size;simp;omega) (fun h=>by have:=HH.out.2.2.1.ge R h;have:=jq.out.size;omega)).trans<|ha2.out R (by have:=QZ.out;have:=jq.out.size;omega) _ _).trans ((HH.out.2.2.2.2.2.cell (p:=⟨R,o4+k*32+j,none⟩) (by have:=jq.out.size;show R<_;omega)).trans<|(jq.out.cell (p:=⟨R,o4+k*32+j,none⟩) hRl).trans<|HK.out.2.2.2.2.1 j u hj)) 32 HK.out.2.2.2.1.symm)
   have zS:wr.heap.size+2<=w6.heap.size:=by have:=AM.size;simpa using this
   have yU:AC (∀ j,j<wr.heap.size->j∉F1->w6.heap[j]?=wr.heap[j]?):=⟨fun j hj hF=>(AM.same j (by simp;omega) hF).trans (ha2.out j hj _ _)⟩;have B56:AC (Bl w5 w6):=⟨⟨AM.os.trans HH.out.2.2.2.2.2.os,AM.tape.trans HH.out.2.2.2.2.2.tape,AM.output.trans HH.out.2.2.2.2.2.output,by have:=QZ.out;omega,fun j hj=>(yU.out j (by have:=QZ.out;omega) (fun h=>by have:=HH.out.2.2.1.ge j h;omega)).trans (HH.out.2.2.2.2.2.block j hj)⟩⟩;have Z6:=((ZZ.out.below hb2).below B5.out).below B56.out;have CS:=AA<|Yc2 (t:=⟨tk.toArray⟩) Z6 (by have:=HK.out.2.2.2.1;simp[ByteArray.size,this]);have R6:=AA<|AF AM.row<|AF AM.new AM.sub;clear Z6 AM;clear qx;refine mq CS.out ?_;rintro w7 Eu;have MC:=Eu.size;obtain⟨S7,G9⟩: ∃ S7:ByteArray,AC ((⟨(FZ [⟨tk.toArray⟩]).toArray⟩:ByteArray)=S7):=⟨_,⟨rfl⟩⟩;rw[G9.out];have st7:AC (∀ j,j<wr.heap.size->j∉F1-> ∀ o,(w7.alloc o).heap[j]?=wr.heap[j]?):=⟨fun j hj hF o=>(Ah _ _ _ zx).trans ((Eu.block j zx).trans<|yU.out j hj hF)⟩;have hli:(ids.take k).length<100000000:=by rw[List.length_take,<- hids.out,Nw];have:=Xo.out.1;have:=hnn.out;omega
   have jo:=tr B56 Eu;have R7:AC (AO 38 3 (Po w2 3) w7 (.slice (Qb g6 0) ((xs.take k).length+1) Bt) (xs.take k++[yk.2]) F6):=⟨AO.stable (Po.stable w2 3) _ _ _ _ _ R6.out.1 fun j hj=>Eu.block j (R6.out.2.1.lt j hj)⟩;clear Eu CS;go_wp2_with (at_builtin;go_must (refine MW uU rfl (.tmp 52) (.tmp 59) rfl GL.stable (fun _ _ _ _ h=>GL.one h) w5.heap.size u11 (ids.take k) F2 rfl (AO.stable GL.stable _ _ _ _ _ HH.out.2.1 fun j hj=>st7.out j (HH.out.2.2.2.1.lt j hj) (fun h=>HH.out.2.2.2.2.1 j h hj) _) w7.heap.size #[.string S7] 9 (0,0) S7 [] rfl (IC _ _) rfl ⟨rfl,rfl⟩ hli (by have:=QZ.out;simp;omega) (HH.out.2.2.2.1.later lr (by simp;omega)) (Af.nil _ _) (fun _ _ h=>by cases h) ?_);intro g8 TW w8 F8 AM)
   have hlk:(xs.take k).length=k:=by rw[List.length_take];have:=Gx.out;omega
   have RN:=AM.size;simp only[EH]at RN;have hw58:=jo.out.size;have d62: ∀ j,j∈F6->j∉F2:=fun j hj h2=>by
    rcases R6.out.2.2 j hj with h | h | h
    ·exact HH.out.2.2.2.2.1 j h h2
    ·cases h
    ·have:=HH.out.2.2.2.1.lt j h2
     simp at h;omega
   have tk1:xs.take (k+1)=xs.take k++[yk.2]:=by rw[PR,HK.out.2.1];rfl
   have tk2:ids.take (k+1)=ids.take k++[S7]:=by
    have:ids[k]?=some S7:=by rw[<- hids.out,Jq,HK.out.2.2.1,<- G9.out];rfl
    rw[PR,this];rfl
   go_roundw
   case rel=>
    refine⟨k+1,F6,F8,by have:=Gx.out;omega,by go_num,?_,?_,R6.out.2.1.later lr zx,AM.new,fun j hj h8=>?_,?_⟩
    ·rw[tk1]
     have:=AO.stable (Po.stable w2 3) _ w8 _ _ _ R7.out fun j hj=>(AM.same j (by have:=R6.out.2.1.lt j hj;simp;omega)<|d62 j hj).trans (Ah _ _ _ (by have:=R6.out.2.1.lt j hj;omega))
     rw[hlk]at this;exact this
    ·rw[tk2]
     have:=AM.row
     rw[List.length_take]at this;exact this
    ·rcases AM.sub j h8 with h | h | h
     ·exact d62 j hj h
     ·cases h
     ·have:=R6.out.2.1.lt j hj
      simp at h;omega
    ·exact⟨AM.os.trans jo.out.os,AM.tape.trans jo.out.tape,AM.output.trans jo.out.output,zx,fun j hj=>(AM.same j (by simp;omega) (fun h=>by have:=HH.out.2.2.2.1.ge j h;omega)).trans ((Ah _ _ _ zx).trans<|jo.out.block j hj)⟩
   case measure=>simp[intOf];have:=Gx.out;omega
  ·obtain rfl:k=n+1:=by have:=Gx.out;omega
   have e1:xs.take (n+1)=xs:=Rx (by have:=Gx.out;omega);have e2:ids.take (n+1)=ids:=Rx (by rw[<- hids.out,Nw];have:=Xo.out.1;have:=hnn.out;omega);rw[e1]at Wu;rw[e2]at Wt;have HH:=AA<|AF Wu<|AF Wt<|AF Wx<|AF BI DT;clear e1 e2 Wu Wt Wx BI hD DT;go_wp2
   go_ret3
   rw[UV.out,hTL.out,hids.out];exact⟨u10,u11,F1,F2,w2,rfl,hb2,B5.out.trans<|HH.out.2.2.2.2.mono B5.out.size,HH.out.1,HH.out.2.1,HH.out.2.2.1.later B5.out.size lr,HH.out.2.2.2.1.later B5.out.size lr⟩
end Go.P
namespace Go.W
variable {w:World}{F:List Nat}
def QN:D9 (Int×Int×ByteArray):=fun _ vs x F=>F=[]/\vs=[.int .i64 x.1,.int .i64 x.2.1,.string x.2.2]
def QN.stable:IB QN:=fun _ _ _ _ _ h _=>h
def QN.one {vs:List Value}{x:Int×Int×ByteArray}(h:QN w vs x F): ∀ u,u∈vs->u.oneCell'=true:=by
 obtain⟨_,rfl⟩:=h;intro u hu;simp at hu;rcases hu with rfl | rfl | rfl <;> rfl
def MJ.put {α:Type}{e:TypeId}{s:Nat}{Q:D9 α}(hQ:IB Q){L:Nat}(j:Nat){u w1:World}{cs:Array Value}{t:TypeId}{xs:List α}{G F':List Nat}{y:α}{g cap:Nat}{O:List Nat}(AM:MJ e s Q (L+1) w w1 xs F G y g cap F')(hL:AJ u L cs t)(hb:Bl u w)(hF: ∀ k,k∈F->L<k)(hG: ∀ k,k∈G->u.heap.size<=k)(hO: ∀ k,k∈O->L<k/\k<u.heap.size/\k∉F):
  AO e s Q (w1.setCell ⟨L,j,none⟩<|.slice (Qb g 0) (xs.length+1) cap) (.slice (Qb g 0) (xs.length+1) cap) (xs++[y]) F'/\Af (L+1) (w1.setCell ⟨L,j,none⟩<|.slice (Qb g 0) (xs.length+1) cap) F'/\(∀ k,k∈O->k∉F')/\(∀ k,k∈O->(w1.setCell ⟨L,j,none⟩<|.slice (Qb g 0) (xs.length+1) cap).heap[k]?=u.heap[k]?)/\AJ (w1.setCell ⟨L,j,none⟩<|.slice (Qb g 0) (xs.length+1) cap) L (cs.setIfInBounds j<|.slice (Qb g 0) (xs.length+1) cap) t/\Below L u (w1.setCell ⟨L,j,none⟩<|.slice (Qb g 0) (xs.length+1) cap):=by
 have hl:=hL.lt;have hs:=hb.size;have Il: ∀ k,k<u.heap.size->k∉F->w1.heap[k]?=u.heap[k]?:=fun k hk hf=>(AM.same k zx hf).trans (hb.block k hk);have Ew:Below L u w1:=⟨AM.os.trans hb.os,AM.tape.trans hb.tape,AM.output.trans hb.output,AU hs AM.size,fun k hk=>Il k zx fun hf=>by have:=hF k hf;omega⟩;have hne: ∀ k,L<k-> ∀ v:Value,(w1.setCell ⟨L,j,none⟩ v).heap[k]?=w1.heap[k]?:=fun k hk v=>Au w1 ⟨L,j,none⟩ v k (by show k≠L;omega);have MF:=Ew.setCell (p:=⟨L,j,none⟩) (JB L)<|.slice (Qb g 0) (xs.length+1) cap;refine⟨AO.stable hQ _ _ _ _ _ AM.row fun k hk=>hne k (AM.new.ge k hk) _,AM.new.later lr zw,fun k hk hf=>?_,fun k hk=>(hne k (hO k hk).1 _).trans (Il k (hO k hk).2.1 (hO k hk).2.2),(hL.of (Il L hl fun hf=>by have:=hF L hf;omega)).set j _,MF⟩;have h1:=hO k hk;rcases AM.sub k hf with h | h | h
 ·exact h1.2.2 h
 ·have:=hG k h;omega
 ·omega
end Go.W
namespace Go.P
variable {x:ByteArray}
structure Iu (L:Nat) (u:World) (vb vp vk vc vy vr vd:Value) (bs:List Bk) (ys rs:List ByteArray) (ds:List (Int×Int×ByteArray)) (Fb Fy Fr Fd:List Nat):Prop where
 blk:AJ u L #[vb,vp,vk,vc,vy,vr,vd] 31
 rb:AO 38 3 (Dq AY 4) u vb bs Fb
 ry:AO 9 1 GL u vy ys Fy
 rr:AO 9 1 GL u vr rs Fr
 rd:AO 46 3 QN u vd ds Fd
 nb:Af (L+1) u Fb
 ny:Af (L+1) u Fy
 nr:Af (L+1) u Fr
 nd:Af (L+1) u Fd
 ib: ∀ k,k∈Fb->k∉Fy/\k∉Fr/\k∉Fd
 iy: ∀ k,k∈Fy->k∉Fr/\k∉Fd
 ir: ∀ k,k∈Fr->k∉Fd
section
variable {L:Nat} {u w:World} {vb vp vk vc vy vr vd:Value} {bs:List Bk} {ys rs:List ByteArray} {ds:List (Int×Int×ByteArray)} {Fb Fy Fr Fd:List Nat}
def Iu.later (h:Iu L u vb vp vk vc vy vr vd bs ys rs ds Fb Fy Fr Fd)(hb:Bl u w):Iu L w vb vp vk vc vy vr vd bs ys rs ds Fb Fy Fr Fd:=
 ⟨h.blk.of<|hb.block _ h.blk.lt,AO.stable (Dq.stable (ty:=AY) 4) _ _ _ _ _ h.rb fun k hk=>hb.block k (h.nb.lt k hk),AO.stable GL.stable _ _ _ _ _ h.ry fun k hk=>hb.block k (h.ny.lt k hk),AO.stable GL.stable _ _ _ _ _ h.rr fun k hk=>hb.block k (h.nr.lt k hk),AO.stable QN.stable _ _ _ _ _ h.rd fun k hk=>hb.block k (h.nd.lt k hk),h.nb.later lr hb.size,h.ny.later lr hb.size,h.nr.later lr hb.size,h.nd.later lr hb.size,h.ib,h.iy,h.ir⟩
def Iu.set (h:Iu L u vb vp vk vc vy vr vd bs ys rs ds Fb Fy Fr Fd)(j:Nat)(v:Value){yP yQ yR:Value}(he:(#[vb,vp,vk,vc,vy,vr,vd]:Array Value).setIfInBounds j v=#[vb,yP,yQ,yR,vy,vr,vd]):Iu L (u.setCell ⟨L,j,none⟩ v) vb yP yQ yR vy vr vd bs ys rs ds Fb Fy Fr Fd:=by
 have hne: ∀ k,L<k->(u.setCell ⟨L,j,none⟩ v).heap[k]?=u.heap[k]?:=fun k hk=>Au u ⟨L,j,none⟩ v k (by show k≠L;omega);have hs:u.heap.size<=(u.setCell ⟨L,j,none⟩ v).heap.size:=zw
 exact⟨he▸h.blk.set j v,AO.stable (Dq.stable (ty:=AY) 4) _ _ _ _ _ h.rb fun k hk=>hne k (h.nb.ge k hk),AO.stable GL.stable _ _ _ _ _ h.ry fun k hk=>hne k (h.ny.ge k hk),AO.stable GL.stable _ _ _ _ _ h.rr fun k hk=>hne k (h.nr.ge k hk),AO.stable QN.stable _ _ _ _ _ h.rd fun k hk=>hne k (h.nd.ge k hk),h.nb.later lr hs,h.ny.later lr hs,h.nr.later lr hs,h.nd.later lr hs,h.ib,h.iy,h.ir⟩
variable {w1:World} {G F':List Nat} {g cap:Nat}
def Iu.tN (h:Iu L u vb vp vk vc vy vr vd bs ys rs ds Fb Fy Fr Fd){x:Bk}(hb:Bl u w)(hG: ∀ k,k∈G->u.heap.size<=k)(AM:MJ 38 3 (Dq AY 4) (L+1) w w1 bs Fb G x g cap F'):Iu L (w1.setCell ⟨L,0,none⟩<|.slice (Qb g 0) (bs.length+1) cap) (.slice (Qb g 0) (bs.length+1) cap) vp vk vc vy vr vd (bs++[x]) ys rs ds F' Fy Fr Fd/\Below L u (w1.setCell ⟨L,0,none⟩<|.slice (Qb g 0) (bs.length+1) cap):=by
 obtain⟨h1,h2,h3,h4,h5,h6⟩:=MJ.put (Dq.stable (ty:=AY) 4) 0 (O:=Fy++(Fr++Fd)) AM h.blk hb (fun k hk=>h.nb.ge k hk) hG fun k hk=>by
  simp only[CY]at hk;rcases hk with hk | hk | hk
  ·exact⟨h.ny.ge k hk,h.ny.lt k hk,fun hf=>(h.ib k hf).1 hk⟩
  ·exact⟨h.nr.ge k hk,h.nr.lt k hk,fun hf=>(h.ib k hf).2.1 hk⟩
  ·exact⟨h.nd.ge k hk,h.nd.lt k hk,fun hf=>(h.ib k hf).2.2 hk⟩
 have hs:=h6.size;exact⟨⟨h5,h1,AO.stable GL.stable _ _ _ _ _ h.ry fun k hk=>h4 k (by simp[hk]),AO.stable GL.stable _ _ _ _ _ h.rr fun k hk=>h4 k (by simp[hk]),AO.stable QN.stable _ _ _ _ _ h.rd fun k hk=>h4 k (by simp[hk]),h2,h.ny.later lr hs,h.nr.later lr hs,h.nd.later lr hs,fun k hk=>⟨fun q=>h3 k (by simp[q]) hk,fun q=>h3 k (by simp[q]) hk,fun q=>h3 k (by simp[q]) hk⟩,h.iy,h.ir⟩,h6⟩
def Iu.tF (h:Iu L u vb vp vk vc vy vr vd bs ys rs ds Fb Fy Fr Fd)(hb:Bl u w)(hG: ∀ k,k∈G->u.heap.size<=k)(AM:MJ 9 1 GL (L+1) w w1 ys Fy G x g cap F'):Iu L (w1.setCell ⟨L,4,none⟩<|.slice (Qb g 0) (ys.length+1) cap) vb vp vk vc (.slice (Qb g 0) (ys.length+1) cap) vr vd bs (ys++[x]) rs ds Fb F' Fr Fd/\Below L u (w1.setCell ⟨L,4,none⟩<|.slice (Qb g 0) (ys.length+1) cap):=by
 obtain⟨h1,h2,h3,h4,h5,h6⟩:=MJ.put GL.stable 4 (O:=Fb++(Fr++Fd)) AM h.blk hb (fun k hk=>h.ny.ge k hk) hG fun k hk=>by
  simp only[CY]at hk;rcases hk with hk | hk | hk
  ·exact⟨h.nb.ge k hk,h.nb.lt k hk,(h.ib k hk).1⟩
  ·exact⟨h.nr.ge k hk,h.nr.lt k hk,fun hf=>(h.iy k hf).1 hk⟩
  ·exact⟨h.nd.ge k hk,h.nd.lt k hk,fun hf=>(h.iy k hf).2 hk⟩
 have hs:=h6.size;exact⟨⟨h5,AO.stable (Dq.stable (ty:=AY) 4) _ _ _ _ _ h.rb fun k hk=>h4 k (by simp[hk]),h1,AO.stable GL.stable _ _ _ _ _ h.rr fun k hk=>h4 k (by simp[hk]),AO.stable QN.stable _ _ _ _ _ h.rd fun k hk=>h4 k (by simp[hk]),h.nb.later lr hs,h2,h.nr.later lr hs,h.nd.later lr hs,fun k hk=>⟨h3 k (by simp[hk]),(h.ib k hk).2⟩,fun k hk=>⟨fun q=>h3 k (by simp[q]) hk,fun q=>h3 k (by simp[q]) hk⟩,h.ir⟩,h6⟩
def Iu.tJ (h:Iu L u vb vp vk vc vy vr vd bs ys rs ds Fb Fy Fr Fd)(hb:Bl u w)(hG: ∀ k,k∈G->u.heap.size<=k)(AM:MJ 9 1 GL (L+1) w w1 rs Fr G x g cap F'):Iu L (w1.setCell ⟨L,5,none⟩<|.slice (Qb g 0) (rs.length+1) cap) vb vp vk vc vy (.slice (Qb g 0) (rs.length+1) cap) vd bs ys (rs++[x]) ds Fb Fy F' Fd/\Below L u (w1.setCell ⟨L,5,none⟩<|.slice (Qb g 0) (rs.length+1) cap):=by
 obtain⟨h1,h2,h3,h4,h5,h6⟩:=MJ.put GL.stable 5 (O:=Fb++(Fy++Fd)) AM h.blk hb (fun k hk=>h.nr.ge k hk) hG fun k hk=>by
  simp only[CY]at hk;rcases hk with hk | hk | hk
  ·exact⟨h.nb.ge k hk,h.nb.lt k hk,(h.ib k hk).2.1⟩
  ·exact⟨h.ny.ge k hk,h.ny.lt k hk,(h.iy k hk).1⟩
  ·exact⟨h.nd.ge k hk,h.nd.lt k hk,fun hf=>h.ir k hf hk⟩
 have hs:=h6.size;exact⟨⟨h5,AO.stable (Dq.stable (ty:=AY) 4) _ _ _ _ _ h.rb fun k hk=>h4 k (by simp[hk]),AO.stable GL.stable _ _ _ _ _ h.ry fun k hk=>h4 k (by simp[hk]),h1,AO.stable QN.stable _ _ _ _ _ h.rd fun k hk=>h4 k (by simp[hk]),h.nb.later lr hs,h.ny.later lr hs,h2,h.nd.later lr hs,fun k hk=>⟨(h.ib k hk).1,h3 k (by simp[hk]),(h.ib k hk).2.2⟩,fun k hk=>⟨h3 k (by simp[hk]),(h.iy k hk).2⟩,fun k hk q=>h3 k (by simp[q]) hk⟩,h6⟩
def Iu.tL (h:Iu L u vb vp vk vc vy vr vd bs ys rs ds Fb Fy Fr Fd){x:Int×Int×ByteArray}(hb:Bl u w)(hG: ∀ k,k∈G->u.heap.size<=k)(AM:MJ 46 3 QN (L+1) w w1 ds Fd G x g cap F'):Iu L (w1.setCell ⟨L,6,none⟩<|.slice (Qb g 0) (ds.length+1) cap) vb vp vk vc vy vr (.slice (Qb g 0) (ds.length+1) cap) bs ys rs (ds++[x]) Fb Fy Fr F'/\Below L u (w1.setCell ⟨L,6,none⟩<|.slice (Qb g 0) (ds.length+1) cap):=by
 obtain⟨h1,h2,h3,h4,h5,h6⟩:=MJ.put QN.stable 6 (O:=Fb++(Fy++Fr)) AM h.blk hb (fun k hk=>h.nd.ge k hk) hG fun k hk=>by
  simp only[CY]at hk;rcases hk with hk | hk | hk
  ·exact⟨h.nb.ge k hk,h.nb.lt k hk,(h.ib k hk).2.2⟩
  ·exact⟨h.ny.ge k hk,h.ny.lt k hk,(h.iy k hk).2⟩
  ·exact⟨h.nr.ge k hk,h.nr.lt k hk,h.ir k hk⟩
 have hs:=h6.size;exact⟨⟨h5,AO.stable (Dq.stable (ty:=AY) 4) _ _ _ _ _ h.rb fun k hk=>h4 k (by simp[hk]),AO.stable GL.stable _ _ _ _ _ h.ry fun k hk=>h4 k (by simp[hk]),AO.stable GL.stable _ _ _ _ _ h.rr fun k hk=>h4 k (by simp[hk]),h1,h.nb.later lr hs,h.ny.later lr hs,h.nr.later lr hs,h2,fun k hk=>⟨(h.ib k hk).1,(h.ib k hk).2.1,h3 k (by simp[hk])⟩,fun k hk=>⟨(h.iy k hk).1,h3 k (by simp[hk])⟩,fun k hk=>h3 k (by simp[hk])⟩,h6⟩
end
end Go.P
namespace Go.P
variable {L:Nat}{u:World}{vb vp vk vc vy vr vd:Value}{bs:List Bk}{ys rs:List ByteArray}{ds:List (Int×Int×ByteArray)}{Fb Fy Fd:List Nat}
def oh (i:Int):Prop:= -9223372036854775808<=i/\i<9223372036854775808
def Yeo:Value->Nat
 | .string t=>t.size
 | _=>0
def KpR (vk:Value) (ys:List ByteArray) (ds:List (Int×Int×ByteArray)):Prop:=(∀ y,y∈ys->y.size<=65536)/\Yeo vk<=65536/\ ∀ d,d∈ds->oh d.2.1
def Kp (L:Nat) (u:World) (n:Nat):Prop:= ∃ vb vp vk vc vy vr vd bs ys rs ds Fb Fy Fr Fd,Iu L u vb vp vk vc vy vr vd bs ys rs ds Fb Fy Fr Fd/\(∃ p m c,vp= .slice p m c)/\(∃ t,vk= .string t)/\(∃ i,vc= .int .i64 i)/\bs.length<=n/\ys.length<=n/\rs.length<=n/\ds.length<=n/\(∀ x,x∈bs-> ∃ t,Et t (Jj t)= .ok x)/\KpR vk ys ds
def Uw (L n:Nat) (u:World) (e:Ending) (w':World):Prop:=e= .returned (.tuple #[])/\Kp L w' (n+1)/\Below L u w'
def Kp.mk {w:World}{n:Nat}{Fr:List Nat}(h:Iu L w vb vp vk vc vy vr vd bs ys rs ds Fb Fy Fr Fd)(hb:Below L u w)(h1: ∃ p m c,vp= .slice p m c)(h2: ∃ t,vk= .string t)(h3: ∃ i,vc= .int .i64 i)(h4:bs.length<=n+1)(h5:ys.length<=n+1)(h6:rs.length<=n+1)(h7:ds.length<=n+1)(h8: ∀ x,x∈bs-> ∃ t,Et t (Jj t)= .ok x)(h9:KpR vk ys ds):Uw L n u (.returned<|.tuple #[]) w:=⟨rfl,⟨vb,vp,vk,vc,vy,vr,vd,bs,ys,rs,ds,Fb,Fy,Fr,Fd,h,h1,h2,h3,h4,h5,h6,h7,h8,h9⟩,hb⟩
def Iu.up {Fr:List Nat}(h:Iu L u vb vp vk vc vy vr vd bs ys rs ds Fb Fy Fr Fd)(o:Obj):Iu L (u.alloc o) vb vp vk vc vy vr vd bs ys rs ds Fb Fy Fr Fd:=h.later<|(AQ _ u).alloc lr o
def Yb5:(prog.info? 46).map (fun i=>(i.zero,i.size,i.bytes))=some (some<|.agg #[.int .i64 0,.int .i64 0,.string ⟨#[]⟩],3,32):=zt
def Ybt:Jk prog 22 46 3 32:=by
 obtain⟨i0,hi,hz0,hz1,hz2⟩:=info_parts Yb5;exact⟨i0,_,underlying22,hi,hz0,hz1,hz2,rfl,zu,zu⟩
section
variable {L n:Nat} {u:World} {A:Int} {s:ByteArray}
def Z3t (h:Kp L u n):Calls prog 10 #[.pointer<|Qb L 0,.agg #[.int .i64 4,.int .i64 A,.string s]] u (Uw L n u):=by
 obtain⟨vb,vp,vk,vc,vy,vr,vd,bs,ys,rs,ds,Fb,Fy,Fr,Fd,H,⟨pp,mp,cp,rfl⟩,⟨tk,rfl⟩,⟨ik,rfl⟩,hl⟩:=h;have HK:=AA H;have HL:=AA hl;have hL:=H.blk.lt;have hc:=(H.blk.alloc<|.cells #[.int .i64 4,.int .i64 A,.string s] 46).cell 3;have hs:=(H.blk.alloc<|.cells #[.int .i64 4,.int .i64 A,.string s] 46).soft;clear H hl;go_in
 go_wp2_with fail
 refine⟨rfl,_,(by simp[results,results10,go_sem];try rfl),?_⟩;obtain⟨l1,l2,l3,l4,l5,l6⟩:=HL.out;exact Kp.mk ((HK.out.set 3 _ rfl).up _) (((AQ L u).setCell lr _).alloc (by simp;omega) _) ⟨_,_,_,rfl⟩ ⟨_,rfl⟩ ⟨_,rfl⟩ zx zx zx zx l5 l6
def Z96 (h:Kp L u n)(RJ:s.size<=65536):Calls prog 10 #[.pointer<|Qb L 0,.agg #[.int .i64 3,.int .i64 A,.string s]] u (Uw L n u):=by
 obtain⟨vb,vp,vk,vc,vy,vr,vd,bs,ys,rs,ds,Fb,Fy,Fr,Fd,H,⟨pp,mp,cp,rfl⟩,⟨tk,rfl⟩,⟨ik,rfl⟩,hl⟩:=h;have HK:=AA H;have HL:=AA hl;have hL:=H.blk.lt;have hc:=(H.blk.alloc<|.cells #[.int .i64 3,.int .i64 A,.string s] 46).cell 2;have hs:=(H.blk.alloc<|.cells #[.int .i64 3,.int .i64 A,.string s] 46).soft;clear H hl;go_in
 go_wp2_with fail
 all_goals
  refine⟨rfl,_,(by simp[results,results10,go_sem];try rfl),?_⟩;obtain⟨l1,l2,l3,l4,l5,l6⟩:=HL.out;first
  | exact Kp.mk (HK.out.up _) ((AQ L u).alloc zx _) ⟨_,_,_,rfl⟩ ⟨_,rfl⟩ ⟨_,rfl⟩ zx zx zx zx l5 l6
  | exact Kp.mk ((HK.out.set 2 _ rfl).up _) (((AQ L u).setCell lr _).alloc (by simp;omega) _) ⟨_,_,_,rfl⟩ ⟨_,rfl⟩ ⟨_,rfl⟩ zx zx zx zx l5 ⟨l6.1,RJ,l6.2.2⟩
def Z3u (h:Kp L u n){k:Int}(h1:k≠1)(h2:k≠2)(h3:k≠3)(h4:k≠4)(h5:k≠5)(h6:k≠6)(h7:k≠7):Calls prog 10 #[.pointer<|Qb L 0,.agg #[.int .i64 k,.int .i64 A,.string s]] u (Uw L n u):=by
 obtain⟨vb,vp,vk,vc,vy,vr,vd,bs,ys,rs,ds,Fb,Fy,Fr,Fd,H,⟨pp,mp,cp,rfl⟩,⟨tk,rfl⟩,⟨ik,rfl⟩,hl⟩:=h;have HK:=AA H;have HL:=AA hl;have hL:=H.blk.lt;clear H hl;go_in
 go_wp2_with fail
 refine⟨rfl,_,(by simp[results,results10,go_sem];try rfl),?_⟩;obtain⟨l1,l2,l3,l4,l5,l6⟩:=HL.out;exact Kp.mk (HK.out.up _) ((AQ L u).alloc zx _) ⟨_,_,_,rfl⟩ ⟨_,rfl⟩ ⟨_,rfl⟩ zx zx zx zx l5 l6
def Z3r (h:Kp L u n)(hn:n<65536)(RJ:s.size<=65536):Calls prog 10 #[.pointer<|Qb L 0,.agg #[.int .i64 5,.int .i64 A,.string s]] u (Uw L n u):=by
 obtain⟨vb,vp,vk,vc,vy,vr,vd,bs,ys,rs,ds,Fb,Fy,Fr,Fd,H,⟨pp,mp,cp,rfl⟩,⟨tk,rfl⟩,⟨ik,rfl⟩,hl⟩:=h;obtain⟨pr,cr,rfl⟩:=H.ry.form;have HK:=AA H;have HL:=AA hl;have hL:=H.blk.lt;obtain⟨U,hU⟩: ∃ U,AC (u.alloc (.cells #[.int .i64 5,.int .i64 A,.string s] 46)=U):=⟨_,⟨rfl⟩⟩;have hN:=AJ.new u #[.int .i64 5,.int .i64 A,.string s] 46;have J9:AC (Bl u U):=⟨hU.out▸(AQ _ u).alloc lr _⟩;have Sj:AC (U.heap.size=u.heap.size+1):=⟨by rw[<- hU.out];simp⟩;rw[hU.out]at hN;have KU:=AA<|H.later J9.out;have AV:U.drew.cell? ⟨L,4,none⟩=some (.slice pr ys.length cr)/\U.drew.cell? ⟨u.heap.size,0,none⟩=some (.int .i64 5)/\U.drew.cell? ⟨u.heap.size,1,none⟩=some (.int .i64 A)/\U.drew.cell? ⟨u.heap.size,2,none⟩=some (.string s):=⟨KU.out.blk.cell 4,hN.three.1,hN.three.2.1,hN.three.2.2.1⟩;have HN:=AA hN;clear H hl hN;go_in
 go_wp2_with fail
 rw[hU.out];refine Nv 11 (fun v=>v.cell? ⟨L,4,none⟩=some (.slice pr ys.length cr)/\v.cell? ⟨u.heap.size,0,none⟩=some (.int .i64 5)/\v.cell? ⟨u.heap.size,1,none⟩=some (.int .i64 A)/\v.cell? ⟨u.heap.size,2,none⟩=some (.string s)) zt ?_;refine tz 0 (.pointer<|Qb L 0) AV ?_;try simp only[zz]
 refine tz 1 (.pointer<|Qb L 0) AV ?_;try simp only[zz]
 refine tz 2 (.pointer<|Qb L 0) AV ?_;try simp only[zz]
 refine tz 3 (.pointer<|Qb L 4) AV ?_;try simp only[zz]
 refine tz 4 (.slice pr ys.length cr) AV (hy:=fun _ ⟨s0,s1,s2,s3⟩=>by go_simp) ?_;try simp only[zz]
 refine tz 5 (.pointer<|Qb u.heap.size 2) AV ?_;try simp only[zz]
 refine tz 6 (.string s) AV (hy:=fun _ ⟨s0,s1,s2,s3⟩=>by go_simp) ?_;try simp only[zz]
 refine rz 7 (h:=fun K' hK'=>?_);go_simp;obtain⟨W,hW⟩: ∃ W,AC (U.alloc (.cells #[.string s] 9)=W):=⟨_,⟨rfl⟩⟩;rw[hW.out];have Kv:Bl U W:=hW.out▸(AQ _ U).alloc lr _;have RL:AC (W.heap.size=U.heap.size+1):=⟨by rw[<- hW.out];simp⟩;have NW:W.heap[U.heap.size]?=some (.cells #[.string s] 9):=hW.out▸IC _ _;have KW:=AA<|KU.out.later Kv;have HW:=AA<|HN.out.of<|Kv.block _ HN.out.lt;refine hK'.out _ _ ⟨KW.out.blk.cell 4,HW.out.three.1,HW.out.three.2.1,HW.out.three.2.2.1⟩ ?_;try simp only[zz]
 refine rz 8 (h:=fun K' hK'=>?_);refine Ux uU rfl (.tmp 78) (.tmp 81) rfl GL.stable (fun _ _ _ _ h=>GL.one h) (L+1) (.slice pr ys.length cr) ys Fy rfl (KW.out.ry:AO _ _ _ W.drew _ _ _) U.heap.size #[.string s] 9 (0,0) s [] rfl NW rfl ⟨rfl,rfl⟩ (by have:=HL.out;omega) (by show L+1<=W.heap.size;have:=Sj.out;have:=RL.out;omega) (KW.out.ny.later lr lr) (Af.nil _ _) (fun _ _ h=>by cases h) ?_;intro g cap w1 F' AM;have MB:=AM.size;have hsm:=fun k (h:k<W.heap.size) hf=>AM.same k h hf;have KL:=AA<|KW.out.blk.of (w':=w1) (hsm L KW.out.blk.lt fun hf=>by have:=KW.out.ny.ge L hf;omega);have HX:=AA<|HW.out.of (w':=w1) (hsm _ HW.out.lt fun hf=>by have:=HK.out.ny.lt _ hf;omega);have hS1:w1.cell? ⟨L,4,none⟩=some (.slice pr ys.length cr)/\w1.cell? ⟨u.heap.size,0,none⟩=some (.int .i64 5)/\w1.cell? ⟨u.heap.size,1,none⟩=some (.int .i64 A)/\w1.cell? ⟨u.heap.size,2,none⟩=some (.string s):=⟨KL.out.cell 4,HX.out.three.1,HX.out.three.2.1,HX.out.three.2.2.1⟩;have ks:=KL.out.soft;have Do:=AA<|HK.out.tF (J9.out.trans<|Kv.mono J9.out.size).drew (fun _ h=>by cases h) AM;refine hK'.out _ _ hS1 ?_;try simp only[zz]
 refine rz 9 (h:=fun K' hK'=>?_);go_simp;refine hK'.out _ _ hS1 ?_;try simp only[zz]
 refine rz 10 (h:=fun K' hK'=>?_);go_simp;refine hK'.out _ _ hS1 ?_;try simp only[zz]
 have c1:=hS1.1;refine J6 (h:=fun K' hK'=>?_);go_simp;refine hK'.out _ _ ?_;try simp only[zz]
 refine dz (h:=?_);clear AM ks c1 AV hS1;go_wp2_with fail
 refine⟨rfl,_,(by simp[results,results10,go_sem];try rfl),?_⟩;obtain⟨l1,l2,l3,l4,l5,l6⟩:=HL.out;exact Kp.mk Do.out.1 Do.out.2 ⟨_,_,_,rfl⟩ ⟨_,rfl⟩ ⟨_,rfl⟩ zx (by simp;omega) zx zx l5 ⟨fun y hy=>by
  rcases CY.1 hy with hy | hy
  ·exact l6.1 y hy
  ·obtain rfl:=MX.1 hy;exact RJ,l6.2⟩
end
end Go.P
namespace Go.P
section
variable {L n:Nat} {u:World} {A:Int} {s:ByteArray}
def Zzh (h:Kp L u n)(hn:n<65536):Calls prog 10 #[.pointer<|Qb L 0,.agg #[.int .i64 6,.int .i64 A,.string s]] u (Uw L n u):=by
 obtain⟨vb,vp,vk,vc,vy,vr,vd,bs,ys,rs,ds,Fb,Fy,Fr,Fd,H,⟨pp,mp,cp,rfl⟩,⟨tk,rfl⟩,⟨ik,rfl⟩,hl⟩:=h;obtain⟨pr,cr,rfl⟩:=H.rr.form;have HK:=AA H;have HL:=AA hl;have hL:=H.blk.lt;obtain⟨U,hU⟩: ∃ U,AC (u.alloc (.cells #[.int .i64 6,.int .i64 A,.string s] 46)=U):=⟨_,⟨rfl⟩⟩;have hN:=AJ.new u #[.int .i64 6,.int .i64 A,.string s] 46;have J9:AC (Bl u U):=⟨hU.out▸(AQ _ u).alloc lr _⟩;have Sj:AC (U.heap.size=u.heap.size+1):=⟨by rw[<- hU.out];simp⟩;rw[hU.out]at hN;have KU:=AA<|H.later J9.out;have AV:U.drew.cell? ⟨L,5,none⟩=some (.slice pr rs.length cr)/\U.drew.cell? ⟨u.heap.size,0,none⟩=some (.int .i64 6)/\U.drew.cell? ⟨u.heap.size,1,none⟩=some (.int .i64 A)/\U.drew.cell? ⟨u.heap.size,2,none⟩=some (.string s):=⟨KU.out.blk.cell 5,hN.three.1,hN.three.2.1,hN.three.2.2.1⟩;have HN:=AA hN;clear H hl hN;go_in
 go_wp2_with fail
 rw[hU.out];refine Nv 11 (fun v=>v.cell? ⟨L,5,none⟩=some (.slice pr rs.length cr)/\v.cell? ⟨u.heap.size,0,none⟩=some (.int .i64 6)/\v.cell? ⟨u.heap.size,1,none⟩=some (.int .i64 A)/\v.cell? ⟨u.heap.size,2,none⟩=some (.string s)) zt ?_;refine tz 0 (.pointer<|Qb L 0) AV ?_;try simp only[zz]
 refine tz 1 (.pointer<|Qb L 0) AV ?_;try simp only[zz]
 refine tz 2 (.pointer<|Qb L 0) AV ?_;try simp only[zz]
 refine tz 3 (.pointer<|Qb L 5) AV ?_;try simp only[zz]
 refine tz 4 (.slice pr rs.length cr) AV (hy:=fun _ ⟨s0,s1,s2,s3⟩=>by go_simp) ?_;try simp only[zz]
 refine tz 5 (.pointer<|Qb u.heap.size 2) AV ?_;try simp only[zz]
 refine tz 6 (.string s) AV (hy:=fun _ ⟨s0,s1,s2,s3⟩=>by go_simp) ?_;try simp only[zz]
 refine rz 7 (h:=fun K' hK'=>?_);go_simp;obtain⟨W,hW⟩: ∃ W,AC (U.alloc (.cells #[.string s] 9)=W):=⟨_,⟨rfl⟩⟩;rw[hW.out];have Kv:Bl U W:=hW.out▸(AQ _ U).alloc lr _;have RL:AC (W.heap.size=U.heap.size+1):=⟨by rw[<- hW.out];simp⟩;have NW:W.heap[U.heap.size]?=some (.cells #[.string s] 9):=hW.out▸IC _ _;have KW:=AA<|KU.out.later Kv;have HW:=AA<|HN.out.of<|Kv.block _ HN.out.lt;refine hK'.out _ _ ⟨KW.out.blk.cell 5,HW.out.three.1,HW.out.three.2.1,HW.out.three.2.2.1⟩ ?_;try simp only[zz]
 refine rz 8 (h:=fun K' hK'=>?_);refine Ux uU rfl (.tmp 91) (.tmp 94) rfl GL.stable (fun _ _ _ _ h=>GL.one h) (L+1) (.slice pr rs.length cr) rs Fr rfl (KW.out.rr:AO _ _ _ W.drew _ _ _) U.heap.size #[.string s] 9 (0,0) s [] rfl NW rfl ⟨rfl,rfl⟩ (by have:=HL.out;omega) (by show L+1<=W.heap.size;have:=Sj.out;have:=RL.out;omega) (KW.out.nr.later lr lr) (Af.nil _ _) (fun _ _ h=>by cases h) ?_;intro g cap w1 F' AM;have MB:=AM.size;have hsm:=fun k (h:k<W.heap.size) hf=>AM.same k h hf;have KL:=AA<|KW.out.blk.of (w':=w1) (hsm L KW.out.blk.lt fun hf=>by have:=KW.out.nr.ge L hf;omega);have HX:=AA<|HW.out.of (w':=w1) (hsm _ HW.out.lt fun hf=>by have:=HK.out.nr.lt _ hf;omega);have hS1:w1.cell? ⟨L,5,none⟩=some (.slice pr rs.length cr)/\w1.cell? ⟨u.heap.size,0,none⟩=some (.int .i64 6)/\w1.cell? ⟨u.heap.size,1,none⟩=some (.int .i64 A)/\w1.cell? ⟨u.heap.size,2,none⟩=some (.string s):=⟨KL.out.cell 5,HX.out.three.1,HX.out.three.2.1,HX.out.three.2.2.1⟩;have ks:=KL.out.soft;have Do:=AA<|HK.out.tJ (J9.out.trans<|Kv.mono J9.out.size).drew (fun _ h=>by cases h) AM;refine hK'.out _ _ hS1 ?_;try simp only[zz]
 refine rz 9 (h:=fun K' hK'=>?_);go_simp;refine hK'.out _ _ hS1 ?_;try simp only[zz]
 refine rz 10 (h:=fun K' hK'=>?_);go_simp;refine hK'.out _ _ hS1 ?_;try simp only[zz]
 have c1:=hS1.1;refine J6 (h:=fun K' hK'=>?_);go_simp;refine hK'.out _ _ ?_;try simp only[zz]
 refine dz (h:=?_);clear AM ks c1 AV hS1;go_wp2_with fail
 refine⟨rfl,_,(by simp[results,results10,go_sem];try rfl),?_⟩;obtain⟨l1,l2,l3,l4,l5,l6⟩:=HL.out;exact Kp.mk Do.out.1 Do.out.2 ⟨_,_,_,rfl⟩ ⟨_,rfl⟩ ⟨_,rfl⟩ zx zx (by simp;omega) zx l5 l6
def Z7h (h:Kp L u n)(hn:n<65536)(hA:oh A):Calls prog 10 #[.pointer<|Qb L 0,.agg #[.int .i64 7,.int .i64 A,.string s]] u (Uw L n u):=by
 obtain⟨vb,vp,vk,vc,vy,vr,vd,bs,ys,rs,ds,Fb,Fy,Fr,Fd,H,⟨pp,mp,cp,rfl⟩,⟨tk,rfl⟩,⟨ik,rfl⟩,hl⟩:=h;obtain⟨pr,cr,rfl⟩:=H.rd.form;have HK:=AA H;have HL:=AA hl;have hL:=H.blk.lt;obtain⟨U,hU⟩: ∃ U,AC (u.alloc (.cells #[.int .i64 7,.int .i64 A,.string s] 46)=U):=⟨_,⟨rfl⟩⟩;have hN:=AJ.new u #[.int .i64 7,.int .i64 A,.string s] 46;have J9:AC (Bl u U):=⟨hU.out▸(AQ _ u).alloc lr _⟩;have Sj:AC (U.heap.size=u.heap.size+1):=⟨by rw[<- hU.out];simp⟩;rw[hU.out]at hN;have KU:=AA<|H.later J9.out;have AV:U.drew.cell? ⟨L,6,none⟩=some (.slice pr ds.length cr)/\U.drew.cell? ⟨u.heap.size,0,none⟩=some (.int .i64 7)/\U.drew.cell? ⟨u.heap.size,1,none⟩=some (.int .i64 A)/\U.drew.cell? ⟨u.heap.size,2,none⟩=some (.string s):=⟨KU.out.blk.cell 6,hN.three.1,hN.three.2.1,hN.three.2.2.1⟩;have HN:=AA hN;clear H hl hN;go_in
 go_wp2_with fail
 rw[hU.out];refine Nv 10 (fun v=>v.cell? ⟨L,6,none⟩=some (.slice pr ds.length cr)/\v.cell? ⟨u.heap.size,0,none⟩=some (.int .i64 7)/\v.cell? ⟨u.heap.size,1,none⟩=some (.int .i64 A)/\v.cell? ⟨u.heap.size,2,none⟩=some (.string s)) zt ?_;refine tz 0 (.pointer<|Qb L 0) AV ?_;try simp only[zz]
 refine tz 1 (.pointer<|Qb L 0) AV ?_;try simp only[zz]
 refine tz 2 (.pointer<|Qb L 0) AV ?_;try simp only[zz]
 refine tz 3 (.pointer<|Qb L 6) AV ?_;try simp only[zz]
 refine tz 4 (.slice pr ds.length cr) AV (hy:=fun _ ⟨s0,s1,s2,s3⟩=>by go_simp) ?_;try simp only[zz]
 refine tz 5 (.agg #[.int .i64 7,.int .i64 A,.string s]) AV (hy:=fun _ ⟨s0,s1,s2,s3⟩=>by go_simp) ?_;try simp only[zz]
 refine rz 6 (h:=fun K' hK'=>?_);go_simp;obtain⟨W,hW⟩: ∃ W,AC (U.alloc (.cells #[.int .i64 7,.int .i64 A,.string s] 46)=W):=⟨_,⟨rfl⟩⟩;rw[hW.out];have Kv:Bl U W:=hW.out▸(AQ _ U).alloc lr _;have RL:AC (W.heap.size=U.heap.size+1):=⟨by rw[<- hW.out];simp⟩;have NW:W.heap[U.heap.size]?=some (.cells #[.int .i64 7,.int .i64 A,.string s] 46):=hW.out▸IC _ _;have KW:=AA<|KU.out.later Kv;have HW:=AA<|HN.out.of<|Kv.block _ HN.out.lt;refine hK'.out _ _ ⟨KW.out.blk.cell 6,HW.out.three.1,HW.out.three.2.1,HW.out.three.2.2.1⟩ ?_;try simp only[zz]
 refine rz 7 (h:=fun K' hK'=>?_);refine Ux Ybt rfl (.tmp 104) (.tmp 106) rfl QN.stable (fun _ _ _ _ h=>QN.one h) (L+1) (.slice pr ds.length cr) ds Fd rfl (KW.out.rd:AO _ _ _ W.drew _ _ _) U.heap.size #[.int .i64 7,.int .i64 A,.string s] 46 (0,0) ((7:Int),A,s) [] rfl NW rfl ⟨rfl,rfl⟩ (by have:=HL.out;omega) (by show L+1<=W.heap.size;have:=Sj.out;have:=RL.out;omega) (KW.out.nd.later lr lr) (Af.nil _ _) (fun _ _ h=>by cases h) ?_;intro g cap w1 F' AM;have MB:=AM.size;have hsm:=fun k (h:k<W.heap.size) hf=>AM.same k h hf;have KL:=AA<|KW.out.blk.of (w':=w1) (hsm L KW.out.blk.lt fun hf=>by have:=KW.out.nd.ge L hf;omega);have HX:=AA<|HW.out.of (w':=w1) (hsm _ HW.out.lt fun hf=>by have:=HK.out.nd.lt _ hf;omega);have hS1:w1.cell? ⟨L,6,none⟩=some (.slice pr ds.length cr)/\w1.cell? ⟨u.heap.size,0,none⟩=some (.int .i64 7)/\w1.cell? ⟨u.heap.size,1,none⟩=some (.int .i64 A)/\w1.cell? ⟨u.heap.size,2,none⟩=some (.string s):=⟨KL.out.cell 6,HX.out.three.1,HX.out.three.2.1,HX.out.three.2.2.1⟩;have ks:=KL.out.soft;have Do:=AA<|HK.out.tL (J9.out.trans<|Kv.mono J9.out.size).drew (fun _ h=>by cases h) AM;refine hK'.out _ _ hS1 ?_;try simp only[zz]
 refine rz 8 (h:=fun K' hK'=>?_);go_simp;refine hK'.out _ _ hS1 ?_;try simp only[zz]
 refine rz 9 (h:=fun K' hK'=>?_);go_simp;refine hK'.out _ _ hS1 ?_;try simp only[zz]
 have c1:=hS1.1;refine J6 (h:=fun K' hK'=>?_);go_simp;refine hK'.out _ _ ?_;try simp only[zz]
 refine dz (h:=?_);clear AM ks c1 AV hS1;go_wp2_with fail
 refine⟨rfl,_,(by simp[results,results10,go_sem];try rfl),?_⟩;obtain⟨l1,l2,l3,l4,l5,l6⟩:=HL.out;exact Kp.mk Do.out.1 Do.out.2 ⟨_,_,_,rfl⟩ ⟨_,rfl⟩ ⟨_,rfl⟩ zx zx zx (by simp;omega) l5 ⟨l6.1,l6.2.1,fun d hd=>by
  rcases CY.1 hd with hd | hd
  ·exact l6.2.2 d hd
  ·obtain rfl:=MX.1 hd;exact hA⟩
end
end Go.P
namespace Go.W
variable {t:ByteArray}
def VD (n:Int):Prop:=1<=n/\n<=7
def FR {α:Type} (m:Except (Int×Nat) α):Prop:= ∀ e,m= .error e->VD e.1
def FY {α:Type}{x:α}:FR (.ok x):=fun _ h=>by cases h
def FJ {α:Type}{n:Int}{p:Nat}(h:VD n):FR (α:=α) (.error (n,p)):=fun _ h'=>by cases h';exact h
def r1:VD 1:=⟨zu,zu⟩
def r2:VD 2:=⟨zu,zu⟩
def r3:VD 3:=⟨zu,zu⟩
def r4:VD 4:=⟨zu,zu⟩
def r5:VD 5:=⟨zu,zu⟩
def r6:VD 6:=⟨zu,zu⟩
def r7:VD 7:=⟨zu,zu⟩
def FP {α β:Type}{m:Re α}{f:α->Tk->Nat->Re β}(h:FR m)(hf: ∀ y x p,FR<|f y x p):FR (BU m f):=by
 unfold BU;split
 ·rename_i e;exact fun e' h'=>by cases h';exact h _ rfl
 ·exact hf _ _ _
def Da {α:Type}{c:Prop}[Decidable c]{x y:Except (Int×Nat) α}(hx:FR x)(hy:FR y):FR (if c then x else y):=by split <;> assumption
def Zvj (bs:List Nat)(q:Nat): ∀ f v p,FR (LM bs q f v p)
 | 0,_,_=>FY
 | f+1,_,_=>Da (Zvj bs q f _ _) (FJ r1)
def Z41 (t:ByteArray)(x:Tk)(p:Nat):FR (PI t x p):=by
 unfold PI;split
 ·rename_i e h;exact fun e' h'=>by cases h';exact Zvj _ _ _ _ _ _ h
 ·exact Da FY<|FJ r1
def Z8w (t:ByteArray)(x:Tk)(p:Nat):FR (NU t x p):=by
 unfold NU;split
 ·exact FY
 ·exact Da (Z41 _ _ _)<|FJ r1
def vH (t:ByteArray)(x:Tk): ∀ f p acc,FR (Es t x f p acc)
 | 0,_,_=>FJ r1
 | f+1,p,acc=>by
  rw[Es];refine Da FY<|Da (FJ r1)<|Da ?_<|Da (FJ r1)<|vH t x f _ _;split
  ·rename_i e h;exact fun e' h'=>by cases h';exact Z8w _ _ _ _ h
  ·exact vH t x f _ _
def Z1t (t:ByteArray)(x:Tk)(p:Nat):FR (P4 t x p):=Da (FJ r1)<|Da (FJ r4) FY
def Z0w (t:ByteArray)(q k:Int)(x:Tk)(p:Nat):FR (NS t q k x p):=by
 unfold NS;split
 ·rename_i e h;refine fun e' h'=>?_;cases h';unfold OO at h;dsimp only at h;generalize (if(Ab t).getD p 0=45 then p+1 else p)=p1 at h;split at h
  ·cases h;exact r1
  ·split at h
   ·cases h
   ·cases h;exact r1
 ·exact FY
def Zw1 (t:ByteArray)(p:Nat):FR (BD t p):=by
 unfold BD;refine Da FY ?_;unfold Nl;refine Da (Da (FJ r4)<|Da (Z1t _ _ _) FY)<|Da (Da (FJ r4)<|Da (FJ r1) FY)<|Da ?_<|Da (Z0w _ _ _ _ _)<|Da (Z0w _ _ _ _ _) ?_
 ·unfold KF;split
  ·rename_i e h;exact fun e' h'=>by cases h';exact vH _ _ _ _ _ _ h
  ·exact Da (FJ r4) FY
 ·unfold TX;split
  ·exact FJ r1
  ·exact FY
def Qr (t:ByteArray)(x:Tk)(p:Nat):FR (EP t x p):=by
 unfold EP;split
 ·rename_i e h;exact fun e' h'=>by cases h';exact Zw1 _ _ _ h
 ·exact FY
def jD (t:ByteArray)(s:List UInt8)(x:Tk)(p:Nat):FR (JH t s x p):=Da (FP (Qr _ _ _) fun _ _ _=>FY)<|FJ r2
def uO {α:Type}{read:Tk->Nat->Re α}(hr: ∀ x p,FR<|read x p){s:List UInt8}{most:Nat}: ∀ n xs x p,FR (Gg t read s most n xs x p)
 | 0,_,_,_=>FJ r4
 | n+1,_,_,_=>FP (hr _ _) fun _ _ _=>Da (FJ r4) (Da (FP (Qr _ _ _) fun _ _ _=>uO hr n _ _ _) FY)
def Zss {read:Tk->Nat->Re T}(hr: ∀ x p,FR<|read x p)(s:List UInt8)(x:Tk)(p:Nat):FR (Oe t read s x p):=FP (Da FY<|uO hr _ _ _ _) fun _ _ _=>FP (jD _ _ _ _) fun _ _ _=>FY
def mX (t:ByteArray): ∀ d x p,FR (EO t d x p)
 | 0,_,_=>Da (FP (Qr _ _ _) fun _ _ _=>FY) (Da (FJ r3)<|Da (FJ r2) (FP (Qr _ _ _) fun _ _ _=>FY))
 | d+1,_,_=>Da (FP (Qr _ _ _) fun _ _ _=>FY) (Da (FP (Qr _ _ _) fun _ _ _=>FP (Zss (mX t d) _ _ _) fun _ _ _=>FY)<|Da (FJ r2) (FP (Qr _ _ _) fun _ _ _=>FY))
def Zu2 (t:ByteArray)(x:Tk)(p:Nat):FR (OZ t x p):=Da (FP (Qr _ _ _) fun _ _ _=>FP (jD _ _ _ _) fun _ _ _=>FP (Zss (mX t 3) _ _ _) fun _ _ _=>FY)<|FJ r2
def Z2i (t:ByteArray)(x:Tk)(p:Nat):FR (Vx t x p):=FP (mX t 3 _ _) fun _ _ _=>Da (FJ r2) (FP (Qr _ _ _) fun _ _ _=>FP (mX t 3 _ _) fun _ _ _=>FY)
def Z6l (t:ByteArray)(r:R)(x:Tk)(p:Nat):FR (Qi t r x p):=Da (FP (Zu2 _ _ _) fun _ _ _=>Da (FJ r4) FY) (FP (Z2i _ _ _) fun _ _ _=>Da (FJ r4) FY)
def Zsh (t:ByteArray): ∀ n r x p,FR (Iw t n r x p)
 | 0,_,_,_=>FJ r4
 | n+1,_,_,_=>FP (Z6l _ _ _ _) fun _ _ _=>Da (FP (Qr _ _ _) fun _ _ _=>Zsh t n _ _ _) FY
def Zu8 (t:ByteArray)(x:Tk)(p:Nat):FR (MN t x p):=FP (Zsh _ _ _ _ _) fun _ _ _=>Da FY (FJ r5)
def Zow (t:ByteArray)(x:Tk)(p:Nat):FR (Ti t x p):=FP (jD _ _ _ _) fun _ _ _=>uO (Zu8 t) _ _ _ _
def Zou (t:ByteArray): ∀ n b x p,FR (Le t n b x p)
 | 0,_,_,_=>FJ r4
 | n+1,_,_,_=>Da FY (FP (Da (FP (Qr _ _ _) fun _ _ _=>FP (Zow _ _ _) fun _ _ _=>Da (FJ r4) FY) (FP (Zu2 _ _ _) fun _ _ _=>Da (FP (Qr _ _ _) fun _ _ _=>FP (Zu8 _ _ _) fun _ _ _=>Da (FJ r5) (Da (FJ r4) FY)) (Da (FJ r5)<|Da (FJ r4) FY))) fun _ _ _=>FP (jD _ _ _ _) fun _ _ _=>Zou t n _ _ _)
def Zkc (t:ByteArray): ∀ n l x p,FR (Tv t n l x p)
 | 0,_,_,_=>FJ r4
 | n+1,_,_,_=>Da FY (Da (FP (Qr _ _ _) fun _ _ _=>FP (Zow _ _ _) fun _ _ _=>Da (FJ r4) (FP (jD _ _ _ _) fun _ _ _=>Zkc t n _ _ _))<|FJ r2)
def Zsv {α:Type}(t:ByteArray){read:Tk->Nat->Re α}(hr: ∀ x p,FR<|read x p):FR (Et t read):=by
 unfold Et;refine Da (FJ r4) ?_;split
 ·rename_i e h;exact fun e' h'=>by cases h';exact FP (Zw1 _ _) (fun _ _ _=>hr _ _) _ h
 ·exact FY
def Z6k (t:ByteArray):FR (Et t<|Jj t):=Zsv t fun _ _=>Zou t 73 _ _ _
def Z9m (t:ByteArray):FR (Et t<|T9 t):=Zsv t fun _ _=>Zkc t 25 _ _ _
end Go.W
namespace Go.W
variable {B d b o:Nat}{w:World}{vs:List Value}{x:A}
def Ap.mem {α:Type}{s:Nat}{Q:Nat->Nat->α->Prop}{p:Option Addr}{xs:List α}(h:Ap s Q p xs){y:α}(hy:y∈xs): ∃ b o,Q b o y:=by
 obtain⟨i,hi⟩:=List.mem_iff_getElem?.mp hy;obtain⟨b,o,_,q⟩:=h.at_ i y hi;exact⟨_,_,q⟩
def D6.inT: ∀ {k d b o:Nat} {x:T},k<d->D6 B w d b o x->InT k x
 | 0,d+1,b,o,x,_,h=>by
  obtain⟨_,p,c,_,_,_,_,_,_,_,_,_,hi,_⟩:=h.vals;exact hi
 | k+1,d+1,b,o,x,hk,h=>by
  obtain⟨_,p,c,_,_,_,_,_,_,_,_,_,hi,_,hr⟩:=h.vals;exact⟨hi,fun y hy=>by obtain⟨_,_,q⟩:=hr.mem hy;exact D6.inT zx q⟩
def Dn.inT {x:T}(hd:2<d)(h:Dn B w d vs x):InT 3 x:=by
 obtain⟨_,_,_,_,_,hi,_,hr⟩:=h;exact⟨hi,fun y hy=>by obtain⟨_,_,q⟩:=hr.mem hy;exact D6.inT hd q⟩
def FM.dh (hd:2<d)(h:FM B w d vs x):UN x:=by
 obtain⟨_,_,_,_,_,hr⟩:=h;exact fun y hy=>by obtain⟨_,_,q⟩:=hr.mem hy;exact D6.inT zx q
def DX.dh (hd:3<d)(h:DX B w d b o x):UN x:=by
 obtain⟨d,rfl⟩: ∃ e,d=e+1:=⟨d-1,zx⟩;obtain⟨_,_,_,_,_,s⟩:=h.vals;exact s.dh zx
def JN.aH {x:G}(hd:3<d)(h:JN B w d b o x):Zr x:=by
 obtain⟨d,rfl⟩: ∃ e,d=e+1:=⟨d-1,zx⟩;obtain⟨_,_,_,_,_,_,_,_,_,_,_,_,_,_,s⟩:=h.vals;obtain⟨_,_,_,_,h1,h2⟩:=s;exact⟨h1.inT zx,h2.inT zx⟩
def E5.zJ {x:R}(hd:3<d)(h:E5 B w d b o x):UM x:=by
 obtain⟨d,rfl⟩: ∃ e,d=e+1:=⟨d-1,zx⟩;obtain⟨_,_,_,_,_,_,_,_,_,_,_,s⟩:=h.vals;obtain⟨_,_,_,_,_,_,h1,_,h2,_,h3⟩:=s;exact⟨h1.dh zx,fun y hy=>by obtain⟨_,_,q⟩:=h2.mem hy;exact q.dh zx,fun y hy=>by obtain⟨_,_,q⟩:=h3.mem hy;exact q.aH zx⟩
def DW.VL {x:Bk}(hd:2<d)(h:DW B w d vs x):Na x:=by
 obtain⟨_,_,_,_,_,_,_,_,h1,_,h2,_,h3⟩:=h;refine⟨fun y hy=>by obtain⟨_,_,q⟩:=h1.mem hy;exact q.dh zx,fun y hy=>by obtain⟨_,_,q⟩:=h2.mem hy;exact q.zJ zx,fun y hy=>?_⟩;obtain⟨_,_,q⟩:=h3.mem hy;obtain⟨_,_,_,_,s⟩:=q.vals;obtain⟨_,_,_,_,h4⟩:=s;exact fun r hr=>by obtain⟨_,_,q⟩:=h4.mem hr;exact q.zJ zx
end Go.W
namespace Go.W
def EA.vals {ty:Q8}{d:Nat}{w:World}{vs:List Value}{F:List Nat}{x:IV}(h:EA ty d w vs x F): ∃ p c,vs=[.bool x.allow,.slice p x.either.length c]:=by
 obtain⟨v,rfl,h⟩:=h;obtain⟨p,c,rfl⟩:=AO.form h;exact⟨p,c,rfl⟩
structure U5 {α:Type} (e:TypeId) (s:Nat) (Q:D9 α) (B:Nat) (w w1:World) (F G:List Nat) (v:Value) (ys:List α) (F':List Nat):Prop where
 row:AO e s Q w1 v ys F'
 new:Af B w1 F'
 sub: ∀ k,k∈F'->k∈F\/k∈G\/w.heap.size<=k
 os:w1.os=w.os
 tape:w1.tape=w.tape
 output:w1.output=w.output
 size:w.heap.size<=w1.heap.size
 same: ∀ k,k<w.heap.size->k∉F->w1.heap[k]?=w.heap[k]?
end Go.W
namespace Go.P
variable {d B m k c:Nat}{a:Nat->Addr}{w:World}{p:Option Addr}{vs:List Value}{F F2:List Nat}
def Zyo {xs:List T}{x:T}(Z:Aa a w)(hR:AO 100 4 (BH AY<|d+1) w (.slice p xs.length c) xs F)(hQ:BH AY (d+1) w vs x F2)(hB:B<=w.heap.size)(hN:Af B w F)(BI:Af B w F2)(hD: ∀ j,j∈F->j∉F2)(hm:m<1000)(hl:xs.length<=m):
  Calls prog 243 #[.slice p xs.length c,.agg vs.toArray,.int .i64 (m:Int),.int .i64 (k:Int)] w fun e w'=>(xs.length=m/\Tm a 4 k w.heap.size e w'/\Bl w w')\/(xs.length≠m/\ ∃ p' c' F',e= .returned (.slice p' (xs.length+1) c')/\U5 100 4 (BH AY<|d+1) B w w' F F2 (.slice p' (xs.length+1) c') (xs++[x]) F'):=by
 obtain⟨p1,c1,rfl⟩:=BH.vals hQ;have H:=AA<|AF hR<|AF hQ<|AF hN BI;have HD:=AA hD;have z4:=fun o=>Aq Z.c4 ((AQ _ w).alloc lr o);have CS:=AA fun u=>Ut a (n:=4) zu k u;obtain⟨n,hn⟩: ∃ n,xs.length=n:=⟨_,rfl⟩;have HX:=AA hn;rw[hn];clear hR hQ hN BI hD Z;go_in
 by_cases EV:n=m
 ·have g1:((n:Int)==(m:Int))=true:=by rw[DJ];omega
  have E:=AA EV;clear EV hn;go_wp2_with fail
  refine(CS.out _).mono ?_;rintro e w2 ⟨⟨L,hL,rfl,MF⟩,hb⟩;exact⟨rfl,Or.inl ⟨E.out,⟨L,by simp at hL;omega,rfl,MF⟩,((AQ _ w).alloc lr _).trans<|hb.mono zw⟩⟩
 ·have g1:((n:Int)==(m:Int))=false:=by rw[BK];omega
  have E:=AA EV;have Fp:xs.length<100000000:=zx
  clear EV hn CS z4;go_wp2_with (at_builtin;go_must (refine MW vF rfl (.tmp 16) (.tmp 18) rfl (BH.stable (ty:=AY)<|d+1) (fun _ _ _ _ h=>BH.one h) B (.slice p n c) xs F rfl (AO.stable (BH.stable (ty:=AY)<|d+1) _ _ _ _ _ (HX.out▸H.out.1) fun j hj=>(Ah _ _ _ (by have:=H.out.2.2.1.lt j hj;simp;omega)).trans (Ah _ _ _<|H.out.2.2.1.lt j hj)) (w.heap.size+1) #[.int .i64 x.k,.int .i64 x.i,.string x.t,.slice p1 x.l.length c1] 100 (0,0) x F2 rfl (by have:=IC (w.alloc<|.cells #[.int .i64 x.k,.int .i64 x.i,.string x.t,.slice p1 x.l.length c1] 100)<|.cells #[.int .i64 x.k,.int .i64 x.i,.string x.t,.slice p1 x.l.length c1] 100;simpa using this) rfl (BH.stable (ty:=AY) (d+1) _ _ _ _ _ H.out.2.1 fun j hj=>(Ah _ _ _ (by have:=H.out.2.2.2.lt j hj;simp;omega)).trans (Ah _ _ _<|H.out.2.2.2.lt j hj)) Fp (by simp;omega) (H.out.2.2.1.later lr (by simp;omega)) (H.out.2.2.2.later lr (by simp;omega)) HD.out ?_);intro g3 cap3 w4 F3 AM)
  have R4:=AM.row;rw[HX.out]at R4;try rw[HX.out]
  go_ret
  exact Or.inr ⟨E.out,_,_,F3,rfl,⟨R4,AM.new,fun j hj=>(AM.sub j hj).imp_right fun h=>h.imp_right fun h=>by simp at h;omega,AM.os,AM.tape,AM.output,by have:=AM.size;simp at this;omega,fun j hj hF=>(AM.same j (by simp;omega) hF).trans ((Ah _ _ _ (by simp;omega)).trans<|Ah _ _ _ hj)⟩⟩
def Zpp {xs:List A}{x:A}(Z:Aa a w)(hR:AO 95 2 (Bo AY<|d) w (.slice p xs.length c) xs F)(hQ:Bo AY (d) w vs x F2)(hB:B<=w.heap.size)(hN:Af B w F)(BI:Af B w F2)(hD: ∀ j,j∈F->j∉F2)(hm:m<1000)(hl:xs.length<=m):
  Calls prog 120 #[.slice p xs.length c,.agg vs.toArray,.int .i64 (m:Int),.int .i64 (k:Int)] w fun e w'=>(xs.length=m/\Tm a 4 k w.heap.size e w'/\Bl w w')\/(xs.length≠m/\ ∃ p' c' F',e= .returned (.slice p' (xs.length+1) c')/\U5 95 2 (Bo AY<|d) B w w' F F2 (.slice p' (xs.length+1) c') (xs++[x]) F'):=by
 obtain⟨p1,c1,rfl⟩:=Bo.vals hQ;have H:=AA<|AF hR<|AF hQ<|AF hN BI;have HD:=AA hD;have z4:=fun o=>Aq Z.c4 ((AQ _ w).alloc lr o);have CS:=AA fun u=>Ut a (n:=4) zu k u;obtain⟨n,hn⟩: ∃ n,xs.length=n:=⟨_,rfl⟩;have HX:=AA hn;rw[hn];clear hR hQ hN BI hD Z;go_in
 by_cases EV:n=m
 ·have g1:((n:Int)==(m:Int))=true:=by rw[DJ];omega
  have E:=AA EV;clear EV hn;go_wp2_with fail
  refine(CS.out _).mono ?_;rintro e w2 ⟨⟨L,hL,rfl,MF⟩,hb⟩;exact⟨rfl,Or.inl ⟨E.out,⟨L,by simp at hL;omega,rfl,MF⟩,((AQ _ w).alloc lr _).trans<|hb.mono zw⟩⟩
 ·have g1:((n:Int)==(m:Int))=false:=by rw[BK];omega
  have E:=AA EV;have Fp:xs.length<100000000:=zx
  clear EV hn CS z4;go_wp2_with (at_builtin;go_must (refine MW Zvp rfl (.tmp 16) (.tmp 18) rfl (Bo.stable (ty:=AY)<|d) (fun _ _ _ _ h=>Bo.one h) B (.slice p n c) xs F rfl (AO.stable (Bo.stable (ty:=AY)<|d) _ _ _ _ _ (HX.out▸H.out.1) fun j hj=>(Ah _ _ _ (by have:=H.out.2.2.1.lt j hj;simp;omega)).trans (Ah _ _ _<|H.out.2.2.1.lt j hj)) (w.heap.size+1) #[.string x.name,.slice p1 x.terms.length c1] 95 (0,0) x F2 rfl (by have:=IC (w.alloc<|.cells #[.string x.name,.slice p1 x.terms.length c1] 95)<|.cells #[.string x.name,.slice p1 x.terms.length c1] 95;simpa using this) rfl (Bo.stable (ty:=AY) (d) _ _ _ _ _ H.out.2.1 fun j hj=>(Ah _ _ _ (by have:=H.out.2.2.2.lt j hj;simp;omega)).trans (Ah _ _ _<|H.out.2.2.2.lt j hj)) Fp (by simp;omega) (H.out.2.2.1.later lr (by simp;omega)) (H.out.2.2.2.later lr (by simp;omega)) HD.out ?_);intro g3 cap3 w4 F3 AM)
  have R4:=AM.row;rw[HX.out]at R4;try rw[HX.out]
  go_ret
  exact Or.inr ⟨E.out,_,_,F3,rfl,⟨R4,AM.new,fun j hj=>(AM.sub j hj).imp_right fun h=>h.imp_right fun h=>by simp at h;omega,AM.os,AM.tape,AM.output,by have:=AM.size;simp at this;omega,fun j hj hF=>(AM.same j (by simp;omega) hF).trans ((Ah _ _ _ (by simp;omega)).trans<|Ah _ _ _ hj)⟩⟩
def Zwg {xs:List G}{x:G}(Z:Aa a w)(hR:AO 102 9 (Ee AY<|d+1) w (.slice p xs.length c) xs F)(hQ:Ee AY (d+1) w vs x F2)(hB:B<=w.heap.size)(hN:Af B w F)(BI:Af B w F2)(hD: ∀ j,j∈F->j∉F2)(hm:m<1000)(hl:xs.length<=m):
  Calls prog 176 #[.slice p xs.length c,.agg vs.toArray,.int .i64 (m:Int),.int .i64 (k:Int)] w fun e w'=>(xs.length=m/\Tm a 4 k w.heap.size e w'/\Bl w w')\/(xs.length≠m/\ ∃ p' c' F',e= .returned (.slice p' (xs.length+1) c')/\U5 102 9 (Ee AY<|d+1) B w w' F F2 (.slice p' (xs.length+1) c') (xs++[x]) F'):=by
 obtain⟨p1,c1,p2,c2,rfl⟩:=Ee.vals hQ;have H:=AA<|AF hR<|AF hQ<|AF hN BI;have HD:=AA hD;have z4:=fun o=>Aq Z.c4 ((AQ _ w).alloc lr o);have CS:=AA fun u=>Ut a (n:=4) zu k u;obtain⟨n,hn⟩: ∃ n,xs.length=n:=⟨_,rfl⟩;have HX:=AA hn;rw[hn];clear hR hQ hN BI hD Z;go_in
 by_cases EV:n=m
 ·have g1:((n:Int)==(m:Int))=true:=by rw[DJ];omega
  have E:=AA EV;clear EV hn;go_wp2_with fail
  refine(CS.out _).mono ?_;rintro e w2 ⟨⟨L,hL,rfl,MF⟩,hb⟩;exact⟨rfl,Or.inl ⟨E.out,⟨L,by simp at hL;omega,rfl,MF⟩,((AQ _ w).alloc lr _).trans<|hb.mono zw⟩⟩
 ·have g1:((n:Int)==(m:Int))=false:=by rw[BK];omega
  have E:=AA EV;have Fp:xs.length<100000000:=zx
  clear EV hn CS z4;go_wp2_with (at_builtin;go_must (refine MW Zrz rfl (.tmp 16) (.tmp 18) rfl (Ee.stable (ty:=AY)<|d+1) (fun _ _ _ _ h=>Ee.one h) B (.slice p n c) xs F rfl (AO.stable (Ee.stable (ty:=AY)<|d+1) _ _ _ _ _ (HX.out▸H.out.1) fun j hj=>(Ah _ _ _ (by have:=H.out.2.2.1.lt j hj;simp;omega)).trans (Ah _ _ _<|H.out.2.2.1.lt j hj)) (w.heap.size+1) #[.int .i64 x.op,.int .i64 x.a.k,.int .i64 x.a.i,.string x.a.t,.slice p1 x.a.l.length c1,.int .i64 x.b.k,.int .i64 x.b.i,.string x.b.t,.slice p2 x.b.l.length c2] 102 (0,0) x F2 rfl (by have:=IC (w.alloc<|.cells #[.int .i64 x.op,.int .i64 x.a.k,.int .i64 x.a.i,.string x.a.t,.slice p1 x.a.l.length c1,.int .i64 x.b.k,.int .i64 x.b.i,.string x.b.t,.slice p2 x.b.l.length c2] 102)<|.cells #[.int .i64 x.op,.int .i64 x.a.k,.int .i64 x.a.i,.string x.a.t,.slice p1 x.a.l.length c1,.int .i64 x.b.k,.int .i64 x.b.i,.string x.b.t,.slice p2 x.b.l.length c2] 102;simpa using this) rfl (Ee.stable (ty:=AY) (d+1) _ _ _ _ _ H.out.2.1 fun j hj=>(Ah _ _ _ (by have:=H.out.2.2.2.lt j hj;simp;omega)).trans (Ah _ _ _<|H.out.2.2.2.lt j hj)) Fp (by simp;omega) (H.out.2.2.1.later lr (by simp;omega)) (H.out.2.2.2.later lr (by simp;omega)) HD.out ?_);intro g3 cap3 w4 F3 AM)
  have R4:=AM.row;rw[HX.out]at R4;try rw[HX.out]
  go_ret
  exact Or.inr ⟨E.out,_,_,F3,rfl,⟨R4,AM.new,fun j hj=>(AM.sub j hj).imp_right fun h=>h.imp_right fun h=>by simp at h;omega,AM.os,AM.tape,AM.output,by have:=AM.size;simp at this;omega,fun j hj hF=>(AM.same j (by simp;omega) hF).trans ((Ah _ _ _ (by simp;omega)).trans<|Ah _ _ _ hj)⟩⟩
def Zpq {xs:List R}{x:R}(Z:Aa a w)(hR:AO 98 4 (Cj AY<|d) w (.slice p xs.length c) xs F)(hQ:Cj AY (d) w vs x F2)(hB:B<=w.heap.size)(hN:Af B w F)(BI:Af B w F2)(hD: ∀ j,j∈F->j∉F2)(hm:m<1000)(hl:xs.length<=m):
  Calls prog 122 #[.slice p xs.length c,.agg vs.toArray,.int .i64 (m:Int),.int .i64 (k:Int)] w fun e w'=>(xs.length=m/\Tm a 4 k w.heap.size e w'/\Bl w w')\/(xs.length≠m/\ ∃ p' c' F',e= .returned (.slice p' (xs.length+1) c')/\U5 98 4 (Cj AY<|d) B w w' F F2 (.slice p' (xs.length+1) c') (xs++[x]) F'):=by
 obtain⟨p1,c1,p2,c2,p3,c3,rfl⟩:=Cj.vals hQ;have H:=AA<|AF hR<|AF hQ<|AF hN BI;have HD:=AA hD;have z4:=fun o=>Aq Z.c4 ((AQ _ w).alloc lr o);have CS:=AA fun u=>Ut a (n:=4) zu k u;obtain⟨n,hn⟩: ∃ n,xs.length=n:=⟨_,rfl⟩;have HX:=AA hn;rw[hn];clear hR hQ hN BI hD Z;go_in
 by_cases EV:n=m
 ·have g1:((n:Int)==(m:Int))=true:=by rw[DJ];omega
  have E:=AA EV;clear EV hn;go_wp2_with fail
  refine(CS.out _).mono ?_;rintro e w2 ⟨⟨L,hL,rfl,MF⟩,hb⟩;exact⟨rfl,Or.inl ⟨E.out,⟨L,by simp at hL;omega,rfl,MF⟩,((AQ _ w).alloc lr _).trans<|hb.mono zw⟩⟩
 ·have g1:((n:Int)==(m:Int))=false:=by rw[BK];omega
  have E:=AA EV;have Fp:xs.length<100000000:=zx
  clear EV hn CS z4;go_wp2_with (at_builtin;go_must (refine MW Zvr rfl (.tmp 16) (.tmp 18) rfl (Cj.stable (ty:=AY)<|d) (fun _ _ _ _ h=>Cj.one h) B (.slice p n c) xs F rfl (AO.stable (Cj.stable (ty:=AY)<|d) _ _ _ _ _ (HX.out▸H.out.1) fun j hj=>(Ah _ _ _ (by have:=H.out.2.2.1.lt j hj;simp;omega)).trans (Ah _ _ _<|H.out.2.2.1.lt j hj)) (w.heap.size+1) #[.string x.head.name,.slice p1 x.head.terms.length c1,.slice p2 x.body.length c2,.slice p3 x.guards.length c3] 98 (0,0) x F2 rfl (by have:=IC (w.alloc<|.cells #[.string x.head.name,.slice p1 x.head.terms.length c1,.slice p2 x.body.length c2,.slice p3 x.guards.length c3] 98)<|.cells #[.string x.head.name,.slice p1 x.head.terms.length c1,.slice p2 x.body.length c2,.slice p3 x.guards.length c3] 98;simpa using this) rfl (Cj.stable (ty:=AY) (d) _ _ _ _ _ H.out.2.1 fun j hj=>(Ah _ _ _ (by have:=H.out.2.2.2.lt j hj;simp;omega)).trans (Ah _ _ _<|H.out.2.2.2.lt j hj)) Fp (by simp;omega) (H.out.2.2.1.later lr (by simp;omega)) (H.out.2.2.2.later lr (by simp;omega)) HD.out ?_);intro g3 cap3 w4 F3 AM)
  have R4:=AM.row;rw[HX.out]at R4;try rw[HX.out]
  go_ret
  exact Or.inr ⟨E.out,_,_,F3,rfl,⟨R4,AM.new,fun j hj=>(AM.sub j hj).imp_right fun h=>h.imp_right fun h=>by simp at h;omega,AM.os,AM.tape,AM.output,by have:=AM.size;simp at this;omega,fun j hj hF=>(AM.same j (by simp;omega) hF).trans ((Ah _ _ _ (by simp;omega)).trans<|Ah _ _ _ hj)⟩⟩
def Zwf {xs:List (List R)}{x:(List R)}(Z:Aa a w)(hR:AO 65 1 (Eo AY<|d) w (.slice p xs.length c) xs F)(hQ:Eo AY (d) w vs x F2)(hB:B<=w.heap.size)(hN:Af B w F)(BI:Af B w F2)(hD: ∀ j,j∈F->j∉F2)(hm:m<1000)(hl:xs.length<=m):
  Calls prog 117 #[.slice p xs.length c,.agg vs.toArray,.int .i64 (m:Int),.int .i64 (k:Int)] w fun e w'=>(xs.length=m/\Tm a 4 k w.heap.size e w'/\Bl w w')\/(xs.length≠m/\ ∃ p' c' F',e= .returned (.slice p' (xs.length+1) c')/\U5 65 1 (Eo AY<|d) B w w' F F2 (.slice p' (xs.length+1) c') (xs++[x]) F'):=by
 obtain⟨p1,c1,rfl⟩:=Eo.vals hQ;have H:=AA<|AF hR<|AF hQ<|AF hN BI;have HD:=AA hD;have z4:=fun o=>Aq Z.c4 ((AQ _ w).alloc lr o);have CS:=AA fun u=>Ut a (n:=4) zu k u;obtain⟨n,hn⟩: ∃ n,xs.length=n:=⟨_,rfl⟩;have HX:=AA hn;rw[hn];clear hR hQ hN BI hD Z;go_in
 by_cases EV:n=m
 ·have g1:((n:Int)==(m:Int))=true:=by rw[DJ];omega
  have E:=AA EV;clear EV hn;go_wp2_with fail
  refine(CS.out _).mono ?_;rintro e w2 ⟨⟨L,hL,rfl,MF⟩,hb⟩;exact⟨rfl,Or.inl ⟨E.out,⟨L,by simp at hL;omega,rfl,MF⟩,((AQ _ w).alloc lr _).trans<|hb.mono zw⟩⟩
 ·have g1:((n:Int)==(m:Int))=false:=by rw[BK];omega
  have E:=AA EV;have Fp:xs.length<100000000:=zx
  clear EV hn CS z4;go_wp2_with (at_builtin;go_must (refine MW Zry rfl (.tmp 16) (.tmp 18) rfl (Eo.stable (ty:=AY)<|d) (fun _ _ _ _ h=>Eo.one h) B (.slice p n c) xs F rfl (AO.stable (Eo.stable (ty:=AY)<|d) _ _ _ _ _ (HX.out▸H.out.1) fun j hj=>(Ah _ _ _ (by have:=H.out.2.2.1.lt j hj;simp;omega)).trans (Ah _ _ _<|H.out.2.2.1.lt j hj)) (w.heap.size+1) #[.slice p1 x.length c1] 65 (0,0) x F2 rfl (by have:=IC (w.alloc<|.cells #[.slice p1 x.length c1] 65)<|.cells #[.slice p1 x.length c1] 65;simpa using this) rfl (Eo.stable (ty:=AY) (d) _ _ _ _ _ H.out.2.1 fun j hj=>(Ah _ _ _ (by have:=H.out.2.2.2.lt j hj;simp;omega)).trans (Ah _ _ _<|H.out.2.2.2.lt j hj)) Fp (by simp;omega) (H.out.2.2.1.later lr (by simp;omega)) (H.out.2.2.2.later lr (by simp;omega)) HD.out ?_);intro g3 cap3 w4 F3 AM)
  have R4:=AM.row;rw[HX.out]at R4;try rw[HX.out]
  go_ret
  exact Or.inr ⟨E.out,_,_,F3,rfl,⟨R4,AM.new,fun j hj=>(AM.sub j hj).imp_right fun h=>h.imp_right fun h=>by simp at h;omega,AM.os,AM.tape,AM.output,by have:=AM.size;simp at this;omega,fun j hj hF=>(AM.same j (by simp;omega) hF).trans ((Ah _ _ _ (by simp;omega)).trans<|Ah _ _ _ hj)⟩⟩
def nW {xs:List IV}{x:IV}(Z:Aa a w)(hR:AO 162 2 (EA AY<|d) w (.slice p xs.length c) xs F)(hQ:EA AY (d) w vs x F2)(hB:B<=w.heap.size)(hN:Af B w F)(BI:Af B w F2)(hD: ∀ j,j∈F->j∉F2)(hm:m<1000)(hl:xs.length<=m):
  Calls prog 72 #[.slice p xs.length c,.agg vs.toArray,.int .i64 (m:Int),.int .i64 (k:Int)] w fun e w'=>(xs.length=m/\Tm a 4 k w.heap.size e w'/\Bl w w')\/(xs.length≠m/\ ∃ p' c' F',e= .returned (.slice p' (xs.length+1) c')/\U5 162 2 (EA AY<|d) B w w' F F2 (.slice p' (xs.length+1) c') (xs++[x]) F'):=by
 obtain⟨p1,c1,rfl⟩:=EA.vals hQ;have H:=AA<|AF hR<|AF hQ<|AF hN BI;have HD:=AA hD;have z4:=fun o=>Aq Z.c4 ((AQ _ w).alloc lr o);have CS:=AA fun u=>Ut a (n:=4) zu k u;obtain⟨n,hn⟩: ∃ n,xs.length=n:=⟨_,rfl⟩;have HX:=AA hn;rw[hn];clear hR hQ hN BI hD Z;go_in
 by_cases EV:n=m
 ·have g1:((n:Int)==(m:Int))=true:=by rw[DJ];omega
  have E:=AA EV;clear EV hn;go_wp2_with fail
  refine(CS.out _).mono ?_;rintro e w2 ⟨⟨L,hL,rfl,MF⟩,hb⟩;exact⟨rfl,Or.inl ⟨E.out,⟨L,by simp at hL;omega,rfl,MF⟩,((AQ _ w).alloc lr _).trans<|hb.mono zw⟩⟩
 ·have g1:((n:Int)==(m:Int))=false:=by rw[BK];omega
  have E:=AA EV;have Fp:xs.length<100000000:=zx
  clear EV hn CS z4;go_wp2_with (at_builtin;go_must (refine MW Z8r rfl (.tmp 16) (.tmp 18) rfl (EA.stable (ty:=AY)<|d) (fun _ _ _ _ h=>EA.one h) B (.slice p n c) xs F rfl (AO.stable (EA.stable (ty:=AY)<|d) _ _ _ _ _ (HX.out▸H.out.1) fun j hj=>(Ah _ _ _ (by have:=H.out.2.2.1.lt j hj;simp;omega)).trans (Ah _ _ _<|H.out.2.2.1.lt j hj)) (w.heap.size+1) #[.bool x.allow,.slice p1 x.either.length c1] 162 (0,0) x F2 rfl (by have:=IC (w.alloc<|.cells #[.bool x.allow,.slice p1 x.either.length c1] 162)<|.cells #[.bool x.allow,.slice p1 x.either.length c1] 162;simpa using this) rfl (EA.stable (ty:=AY) (d) _ _ _ _ _ H.out.2.1 fun j hj=>(Ah _ _ _ (by have:=H.out.2.2.2.lt j hj;simp;omega)).trans (Ah _ _ _<|H.out.2.2.2.lt j hj)) Fp (by simp;omega) (H.out.2.2.1.later lr (by simp;omega)) (H.out.2.2.2.later lr (by simp;omega)) HD.out ?_);intro g3 cap3 w4 F3 AM)
  have R4:=AM.row;rw[HX.out]at R4;try rw[HX.out]
  go_ret
  exact Or.inr ⟨E.out,_,_,F3,rfl,⟨R4,AM.new,fun j hj=>(AM.sub j hj).imp_right fun h=>h.imp_right fun h=>by simp at h;omega,AM.os,AM.tape,AM.output,by have:=AM.size;simp at this;omega,fun j hj hF=>(AM.same j (by simp;omega) hF).trans ((Ah _ _ _ (by simp;omega)).trans<|Ah _ _ _ hj)⟩⟩
end Go.P
namespace Go.W
variable {t:ByteArray}{x y:Tk}{p q:Nat}{u:Unit}
def Ic (x:Tk):Prop:=x.text.size<1000000000/\x.s.size<1000000000/\Ey x.k/\Ey x.i
def bS:Ey 0:=⟨zu,zu⟩
def Z0t (q:Nat):Ic (ED q):=⟨by show(0:Nat)<_;decide,by show(0:Nat)<_;decide,bS,bS⟩
def Z20 {l:List UInt8}{v:Int}(h:Lib.parseIntB 64 l= .ok v):Ey v:=by
 unfold Lib.parseIntB at h;split at h
 ·cases h
 ·rename_i c r;simp only at h;split at h
  ·cases h
  ·cases h
  ·rename_i u _;split at h
   ·cases h
   ·rename_i h1;split at h
    ·cases h
    ·rename_i h2;cases h;unfold Ey;by_cases hn:c.toNat=45
     ·rw[if_pos hn]
      have: ¬ 2 ^ (64-1)<u:=fun z=>h2 ⟨hn,z⟩
      have e:(2:Nat) ^ (64-1)=9223372036854775808:=zu
      omega
     ·rw[if_neg hn]
      have: ¬ 2 ^ (64-1)<=u:=fun z=>h1 ⟨hn,z⟩
      have e:(2:Nat) ^ (64-1)=9223372036854775808:=zu
      omega
def Z0j (ht:t.size<=8000)(p q:Nat):(t.extract p q).size<1000000000:=by
 rw[U9];omega
def Z4v (hx:Ic x)(h:P4 t x p= .ok (u,y,q)):Ic y:=by
 unfold P4 at h;dsimp only at h;split at h
 ·cases h
 ·split at h
  ·cases h
  ·rename_i Ej;cases h;refine⟨hx.1,?_,⟨by show(-9223372036854775808:Int)<=4;decide,by show(4:Int)<=9223372036854775807;decide⟩,bS⟩;show(Qg _ _ _).toArray.size<_;rw[E9,jR];omega
def Yb6 {n:Int}(h:OO t x p= .ok (n,y,q)):Ey n:=by
 unfold OO at h;dsimp only at h;generalize (if(Ab t).getD p 0=45 then p+1 else p)=p1 at h;split at h
 ·cases h
 ·split at h
  ·rename_i hp;cases h;exact Z20 hp
  ·cases h
def Z6c {qq k:Int}(hx:Ic x)(hk:Ey k)(h:NS t qq k x p= .ok (u,y,q)):Ic y:=by
 unfold NS at h;split at h
 ·cases h
 ·rename_i hi;cases h;exact⟨hx.1,hx.2.1,hk,Yb6 hi⟩
def Z7s (ht:t.size<=8000){c:Nat}(h:Nl t c p= .ok (u,y,q)):Ic y:=by
 have hx:=Z0t p;unfold Nl at h;split at h
 ·unfold Qj at h;dsimp only at h;split at h
  ·cases h
  ·split at h
   ·exact Z4v hx h
   ·cases h;exact⟨Z0j ht _ _,hx.2⟩
 split at h
 ·unfold Tz at h;dsimp only at h;split at h
  ·cases h
  ·split at h
   ·cases h
   ·cases h;exact⟨hx.1,Z0j ht _ _,⟨by show(-9223372036854775808:Int)<=1;decide,by show(1:Int)<=9223372036854775807;decide⟩,bS⟩
 split at h
 ·unfold KF at h;split at h
  ·cases h
  ·split at h
   ·cases h
   ·rename_i Ej;cases h;refine⟨hx.1,?_,⟨by show(-9223372036854775808:Int)<=3;decide,by show(3:Int)<=9223372036854775807;decide⟩,bS⟩;show(List.toArray _).size<_;rw[E9];omega
 split at h
 ·exact Z6c hx ⟨zu,zu⟩ h
 split at h
 ·exact Z6c hx ⟨zu,zu⟩ h
 ·unfold TX at h;split at h
  ·cases h
  ·rename_i m hm;cases h;refine⟨?_,hx.2⟩;have YX:=List.mem_of_find?_eq_some hm;have hall: ∀ m∈PM,m.size<1000000000:=zu
   exact hall m YX
def uX (ht:t.size<=8000)(h:BD t p= .ok (u,y,q)):Ic y:=by
 unfold BD at h;split at h
 ·cases h;exact Z0t _
 ·exact Z7s ht h
def Tt (ht:t.size<=8000){z:Tk}(h:EP t x p= .ok (z,y,q)):Ic y/\z=x:=by
 unfold EP at h;split at h
 ·cases h
 ·rename_i hr;cases h;exact⟨uX ht hr,rfl⟩
def iq (ht:t.size<=8000){s:List UInt8}{z:Unit}(h:JH t s x p= .ok (z,y,q)):Ic y:=by
 unfold JH at h;split at h
 ·unfold BU at h;split at h
  ·cases h
  ·rename_i hr;cases h;exact(Tt ht hr).1
 ·cases h
end Go.W
namespace Go.P
def Jc (a:Nat->Addr) (b:Nat) (w:World) (t:ByteArray) (u:World) (p:Nat) (x:Tk):Prop:=Rd u b t p x/\Ac b w u/\Aa a u/\Ic x
def Zwb (x:Tk)(w:World):Calls prog 64 #[IK x] w fun e w'=>e= .returned (.bool<|Go.W.JA x)/\Bl w w':=by
 have B:=AA<|(AQ _ w).alloc lr<|.cells #[.int .i64 (x.at_:Int),.string x.text,.int .i64 x.k,.int .i64 x.i,.string x.s,.slice none 0 0] 153;have e0:Go.W.JA x=((x.text.toList==[]) && (x.k==0)):=by
  unfold Go.W.JA;rw[Xd,Z5w]
 rw[e0];unfold IK;go_in
 cases h1:(x.text.toList==[]);all_goals
  go_wp2_with fail
  all_goals go_ret
  all_goals exact⟨zw,B.out⟩
def Zr8 (x:Tk)(hx:x.text.size<1000000000)(w:World):Calls prog 172 #[IK x] w fun e w'=>e= .returned (.bool<|GM x.text)/\Bl w w':=by
 have B:=AA<|(AQ _ w).alloc lr<|.cells #[.int .i64 (x.at_:Int),.string x.text,.int .i64 x.k,.int .i64 x.i,.string x.s,.slice none 0 0] 153;have C:=AA<|wL<|(Ab x.text).getD 0 0;unfold IK;by_cases h0:x.text.size=0
 ·have e0:GM x.text=false:=by unfold GM;rw[Oi zx];rfl
  have e1:(x.text.toList==[])=true:=by rw[Xd];exact QJ h0
  rw[e0];clear C;go_in
  go_wp2_with fail
  all_goals go_ret
  all_goals exact⟨rfl,B.out⟩
 ·have e0:GM x.text=Jm ((Ab x.text).getD 0 0):=by unfold GM;rw[QJ h0];rfl
  have e1:(x.text.toList==[])=false:=by rw[Xd];exact Oi h0
  have hp:0<x.text.size:=zx
  have hb:=V5 x.text 0 hp;rw[e0];generalize (Ab x.text).getD 0 0=c at*;generalize Jm c=z at*;clear e0;go_in
  go_wp2_with (go_at_call 110;refine(C.out _).mono ?_;rintro e w' ⟨rfl,rfl⟩)
  all_goals go_ret
  all_goals exact⟨zw,B.out⟩
def bL {a:Nat->Addr}{w:World}{b:Nat}{t:ByteArray}{p:Nat}{x:Tk}(s:ByteArray)(Z:Aa a w)(h:Rd w b t p x):
  Calls prog 67 #[.pointer<|Qb b 0,.string s] w (IA a b t VU w<|JH t s.toList x p):=by
 obtain⟨c0,c1,c2,c3,c4,c5,c6,c7,sf⟩:=h.1.eight;have CR:=AA<|Nr a (n:=2) zu h;have CT:=AA<|Ro Z h;have z2:=Z.c2;have H:=AA h;clear Z h;go_in
 by_cases hs:x.text.toList=s.toList
 ·have g:(x.text.toList==s.toList)=true:=by rw[DJ];exact hs
  have Y:=AA (show JH t s.toList x p=BU (EP t x p) fun _ x' p'=> .ok ((),x',p')from if_pos hs);clear CR z2 hs;go_wp2_with fail
  refine CT.out.mono ?_;rintro e w1 ⟨hk4,⟨n,r,hy,hn,L,hL,rfl,hB⟩ | ⟨v,y,x2,r,hy,rfl,hv,hr4⟩⟩
  ·exact⟨rfl,hk4,Or.inl ⟨n,r,Y.out.trans<|Ef hy,hn,L,hL,rfl,hB⟩⟩
  ·obtain rfl:v=IK y:=hv;have R:=AA<|AF hk4<|AF (Y.out.trans<|Cc hy) hr4;clear hk4 hy hr4;go_wp2_with fail
   exact⟨rfl,_,(by simp[results,results67,go_sem];try rfl),R.out.1,Or.inr ⟨_,_,_,_,R.out.2.1,rfl,rfl,R.out.2.2⟩⟩
 ·have g:(x.text.toList==s.toList)=false:=by rw[BK];exact hs
  have Y:=AA (show JH t s.toList x p= .error (2,x.at_)from if_neg hs);clear CT hs;go_wp2_with fail
  refine CR.out.mono ?_;rintro e w2 ⟨⟨L,hL,rfl,hB⟩,hb⟩;exact⟨rfl,(Ac.refl b w).AR hb,Or.inl ⟨2,_,Y.out,zu,L,hL,rfl,hB⟩⟩
end Go.P
namespace Go.W
variable {x2:Tk}{r:Nat}
section
variable {α:Type} {t:ByteArray} {f:Tk->Nat->Re α} {l:List UInt8} {m k:Nat} {xs:List α} {x:Tk} {p:Nat}
def Zw2 {e:Int×Nat}(h:f x p= .error e):Gg t f l m (k+1) xs x p= .error e:=by rw[Gg];exact Ef h
def Z1a {z:α}(h:f x p= .ok (z,x2,r))(hm:xs.length=m):Gg t f l m (k+1) xs x p= .error (4,x.at_):=by rw[Gg,Cc h,if_pos hm]
def Z7a {z:α}(h:f x p= .ok (z,x2,r))(hm:xs.length≠m)(hl:x2.text.toList≠l):Gg t f l m (k+1) xs x p= .ok (xs++[z],x2,r):=by rw[Gg,Cc h,if_neg hm,if_neg hl]
def Z1b {z:α}(h:f x p= .ok (z,x2,r))(hm:xs.length≠m)(hl:x2.text.toList=l):(∀ e,EP t x2 r= .error e->Gg t f l m (k+1) xs x p= .error e)/\ ∀ y x3 r3,EP t x2 r= .ok (y,x3,r3)->Gg t f l m (k+1) xs x p=Gg t f l m k (xs++[z]) x3 r3:=by
 rw[Gg,Cc h,if_neg hm,if_pos hl];exact⟨fun e he=>Ef he,fun y x3 r3 he=>Cc he⟩
def Ac.NK {e:TypeId}{s:Nat}{Q:D9 α}{B:Nat}{w w1:World}{F G:List Nat}{v:Value}{ys:List α}{F':List Nat}(h:U5 e s Q B w w1 F G v ys F'){b:Nat}{w0:World}(k:Ac b w0 w)(hF: ∀ i,i∈F->w0.heap.size<=i):Ac b w0 w1:=
 ⟨h.os.trans k.os,h.tape.trans k.tape,h.output.trans k.output,AU k.size h.size,fun j hj hb=>(h.same j (Ba hj k.size) (fun qh=>by have:=hF j qh;omega)).trans (k.block j hj hb)⟩
end
end Go.W
namespace Go.P
variable {K d b m p:Nat}{first cap:Array Value}{a:Nat->Addr}{w:World}{t:ByteArray}{x:Tk}
def Yar {α:Type} (e:TypeId) (s:Nat) (Q:D9 α) (a:Nat->Addr) (b:Nat) (t:ByteArray) (f:Tk->Nat->Re α) (l:List UInt8) (m:Nat) (Y:Re (List α)) (w:World) (tv:Value) (wr:World):Prop:=
 ∃ (xs:List α) (F:List Nat) (pp:Option Addr) (c:Nat) (x:Tk) (p:Nat),tv= .slice pp xs.length c/\xs.length<=m/\AO e s Q wr tv xs F/\Af w.heap.size wr F/\Jc a b w t wr p x/\Gg t f l m (m+1-xs.length) xs x p=Y
def XU:Value->Nat | .slice _ n _=>n | _=>0
def Zrk (hen:Bj K){f:Tk->Nat->Re T}(s:ByteArray)(Z:Aa a w)(h:Rd w b t p x)(hx:Ic x)(hm:m<1000)
  (HC: ∀ u p x,Jc a b w t u p x->Calls prog K (first++cap) u (IA a b t (G5 (BH AY<|d+1) u.heap.size) u<|f x p)):
  Calls prog 210 #[.pointer<|Qb b 0,.string s,.int .i64 (m:Int),.func (.func K) first cap] w (IA a b t (Px 100 4 (BH AY<|d+1) w.heap.size) w<|Gg t f s.toList m (m+1) [] x p):=by
 have HH:=AA HC;have Cb: ∀ args w,(callFunc K args).run prog w= .ok (.enter K args) w:=hen;have hg:=h.2.2.2;have ht:=h.2.1;have Ep:=h.1.lt;have D0:AC (Jc a b w t w p x):=⟨h,Ac.refl _ _,Z,hx⟩;have ZW:=AA Z;clear HC hen Z h hx;go_in
 go_wp2
 go_loopw [9] (fun tv wr=>Yar 100 4 (BH AY<|d+1) a b t f s.toList m (Gg t f s.toList m (m+1) [] x p) w tv wr) (fun tv _=>m+1-XU tv)
 case atStart=>exact⟨[],[],none,0,x,p,rfl,zw,AO.nil,Af.nil _ _,D0.out,rfl⟩
 case round=>
  clear D0;obtain⟨xs,F,pp,c,y,q,rfl,YC,hR,hN,hD,hY⟩:=hrel;obtain⟨c0,c1,c2,c3,c4,c5,c6,c7,sf⟩:=hD.1.1.eight;obtain⟨k,hk⟩: ∃ k,m+1-xs.length=k+1:=⟨m-xs.length,zx⟩;rw[hk]at hY;have HR:=AA hR;have HN:=AA hN;have HD:=AA hD;have HY:=AA hY;have CC:=AA<|HH.out _ _ _ hD;have YH:=hD.2.1.size;generalize Gg t f s.toList m (m+1) [] x p=Y at*;clear hR hN hD hY HH;go_wp2_with fail
  refine CC.out.mono ?_;rintro e w2 ⟨hk2,⟨n,r,hy,hn,L,hL,rfl,hB⟩ | ⟨v,z,x2,r,hy,rfl,⟨vs,F2,rfl,hQ,BI⟩,hr2⟩⟩
  ·exact⟨rfl,HD.out.2.1.trans hk2,Or.inl ⟨n,r,HY.out.symm.trans<|Zw2 hy,hn,L,AU YH hL,rfl,hB⟩⟩
  have hs2:=hk2.size;have bF: ∀ j,j∈F->j≠b:=fun j hj=>by have:=HN.out.ge j hj;omega
  have R2:AO 100 4 (BH AY<|d+1) w2 (.slice pp xs.length c) xs F:=AO.stable (BH.stable (ty:=AY)<|d+1) _ _ _ _ _ HR.out fun j hj=>hk2.block j (HN.out.lt j hj) (bF j hj);have Z2:=HD.out.2.2.1.keeps hk2 hg;have CJ:=AA<|Zyo (d:=d) (B:=w.heap.size) (m:=m) (k:=y.at_) Z2 R2 hQ zx (HN.out.later lr hs2) (BI.later zx lr) (fun j hj Ao=>by have:=HN.out.lt j hj;have:=BI.ge j Ao;omega) hm YC;have K2:=AA<|HD.out.2.1.trans hk2;have BF:=AA hr2;have GE:=AA HN.out.ge;have HE:=AA hy;clear hk2 hQ BI hr2 hy CC HR HN HD R2 Z2 c0 c1 c2 c3 c4 c5 c6 c7 sf bF;go_wp2_with fail
  refine CJ.out.mono ?_;rintro e w3 (⟨hE,⟨L,hL,rfl,hB⟩,hb⟩ | ⟨hne,p',c',F',rfl,hG⟩)
  ·exact⟨rfl,K2.out.AR hb,Or.inl ⟨4,_,HY.out.symm.trans<|Z1a HE.out hE,zu,L,zx,rfl,hB⟩⟩
  have K3:=AA<|Ac.NK hG K2.out GE.out;have hr3:Rd w3 b t r x2:=⟨BF.out.1.of<|hG.same b BF.out.1.lt (fun hj=>by have:=GE.out b hj;omega),BF.out.2⟩;have Du:=AA hr3;obtain⟨c0,c1,c2,c3,c4,c5,c6,c7,sf⟩:=hr3.1.eight;have HG:=AA hG;have hs3:=hG.size;have Z3:AC (Aa a w3):=⟨ZW.out.keeps K3.out hg⟩;clear hG hr3 CJ BF;by_cases hl:x2.text.toList=s.toList
  ·have g1:(x2.text.toList==s.toList)=true:=by rw[DJ];exact hl
   have M:=AA<|Z1b (l:=s.toList) (k:=k) (t:=t) HE.out hne hl;have CT:=AA<|Ro Z3.out Du.out;clear hl HE;go_wp2_with fail
   refine CT.out.mono ?_;rintro e w4 ⟨hk4,⟨n,r4,hy,hn,L,hL,rfl,hB⟩ | ⟨v,y4,x4,r4,hy,rfl,hv,hr4⟩⟩
   ·exact⟨rfl,K3.out.trans hk4,Or.inl ⟨n,r4,HY.out.symm.trans<|M.out.1 _ hy,hn,L,zx,rfl,hB⟩⟩
   ·obtain rfl:v=IK y4:=hv;have QW:=hk4.size;have RR:AO 100 4 (BH AY<|d+1) w4 (.slice p' (xs.length+1) c') (xs++[z]) F':=AO.stable (BH.stable (ty:=AY)<|d+1) _ _ _ _ _ HG.out.row fun j hj=>hk4.block j (HG.out.new.lt j hj) (by have:=HG.out.new.ge j hj;omega);have Wy:=HY.out.symm.trans<|M.out.2 _ _ _ hy;have R:=AA<|AF RR<|AF (HG.out.new.later lr QW)<|AF (show Jc a b w t w4 r4 x4 from⟨hr4,K3.out.trans hk4,Z3.out.keeps hk4 hg,(Tt ht hy).1⟩) Wy;clear RR hk4 hy hr4 Wy;go_wp2
    exact⟨⟨xs++[z],F',p',c',x4,r4,zw,by simp;omega,by simpa using R.out.1,R.out.2.1,R.out.2.2.1,by rw[<- R.out.2.2.2.symm];congr 1;simp;omega⟩,by simp[XU];omega⟩
  ·have g1:(x2.text.toList==s.toList)=false:=by rw[BK];exact hl
   have E:=AA<|HY.out.symm.trans<|Z7a (l:=s.toList) (k:=k) (t:=t) HE.out hne hl;clear hl HE;go_wp2
   go_ret
   exact⟨K3.out,Or.inr ⟨_,xs++[z],x2,r,E.out,rfl,⟨F',by simpa using HG.out.row,HG.out.new⟩,Du.out⟩⟩
def Zrj (hen:Bj K){f:Tk->Nat->Re R}(s:ByteArray)(Z:Aa a w)(h:Rd w b t p x)(hx:Ic x)(hm:m<1000)
  (HC: ∀ u p x,Jc a b w t u p x->Calls prog K (first++cap) u (IA a b t (G5 (Cj AY<|d) u.heap.size) u<|f x p)):
  Calls prog 123 #[.pointer<|Qb b 0,.string s,.int .i64 (m:Int),.func (.func K) first cap] w (IA a b t (Px 98 4 (Cj AY<|d) w.heap.size) w<|Gg t f s.toList m (m+1) [] x p):=by
 have HH:=AA HC;have Cb: ∀ args w,(callFunc K args).run prog w= .ok (.enter K args) w:=hen;have hg:=h.2.2.2;have ht:=h.2.1;have Ep:=h.1.lt;have D0:AC (Jc a b w t w p x):=⟨h,Ac.refl _ _,Z,hx⟩;have ZW:=AA Z;clear HC hen Z h hx;go_in
 go_wp2
 go_loopw [9] (fun tv wr=>Yar 98 4 (Cj AY<|d) a b t f s.toList m (Gg t f s.toList m (m+1) [] x p) w tv wr) (fun tv _=>m+1-XU tv)
 case atStart=>exact⟨[],[],none,0,x,p,rfl,zw,AO.nil,Af.nil _ _,D0.out,rfl⟩
 case round=>
  clear D0;obtain⟨xs,F,pp,c,y,q,rfl,YC,hR,hN,hD,hY⟩:=hrel;obtain⟨c0,c1,c2,c3,c4,c5,c6,c7,sf⟩:=hD.1.1.eight;obtain⟨k,hk⟩: ∃ k,m+1-xs.length=k+1:=⟨m-xs.length,zx⟩;rw[hk]at hY;have HR:=AA hR;have HN:=AA hN;have HD:=AA hD;have HY:=AA hY;have CC:=AA<|HH.out _ _ _ hD;have YH:=hD.2.1.size;generalize Gg t f s.toList m (m+1) [] x p=Y at*;clear hR hN hD hY HH;go_wp2_with fail
  refine CC.out.mono ?_;rintro e w2 ⟨hk2,⟨n,r,hy,hn,L,hL,rfl,hB⟩ | ⟨v,z,x2,r,hy,rfl,⟨vs,F2,rfl,hQ,BI⟩,hr2⟩⟩
  ·exact⟨rfl,HD.out.2.1.trans hk2,Or.inl ⟨n,r,HY.out.symm.trans<|Zw2 hy,hn,L,AU YH hL,rfl,hB⟩⟩
  have hs2:=hk2.size;have bF: ∀ j,j∈F->j≠b:=fun j hj=>by have:=HN.out.ge j hj;omega
  have R2:AO 98 4 (Cj AY<|d) w2 (.slice pp xs.length c) xs F:=AO.stable (Cj.stable (ty:=AY)<|d) _ _ _ _ _ HR.out fun j hj=>hk2.block j (HN.out.lt j hj) (bF j hj);have Z2:=HD.out.2.2.1.keeps hk2 hg;have CJ:=AA<|Zpq (d:=d) (B:=w.heap.size) (m:=m) (k:=y.at_) Z2 R2 hQ zx (HN.out.later lr hs2) (BI.later zx lr) (fun j hj Ao=>by have:=HN.out.lt j hj;have:=BI.ge j Ao;omega) hm YC;have K2:=AA<|HD.out.2.1.trans hk2;have BF:=AA hr2;have GE:=AA HN.out.ge;have HE:=AA hy;clear hk2 hQ BI hr2 hy CC HR HN HD R2 Z2 c0 c1 c2 c3 c4 c5 c6 c7 sf bF;go_wp2_with fail
  refine CJ.out.mono ?_;rintro e w3 (⟨hE,⟨L,hL,rfl,hB⟩,hb⟩ | ⟨hne,p',c',F',rfl,hG⟩)
  ·exact⟨rfl,K2.out.AR hb,Or.inl ⟨4,_,HY.out.symm.trans<|Z1a HE.out hE,zu,L,zx,rfl,hB⟩⟩
  have K3:=AA<|Ac.NK hG K2.out GE.out;have hr3:Rd w3 b t r x2:=⟨BF.out.1.of<|hG.same b BF.out.1.lt (fun hj=>by have:=GE.out b hj;omega),BF.out.2⟩;have Du:=AA hr3;obtain⟨c0,c1,c2,c3,c4,c5,c6,c7,sf⟩:=hr3.1.eight;have HG:=AA hG;have hs3:=hG.size;have Z3:AC (Aa a w3):=⟨ZW.out.keeps K3.out hg⟩;clear hG hr3 CJ BF;by_cases hl:x2.text.toList=s.toList
  ·have g1:(x2.text.toList==s.toList)=true:=by rw[DJ];exact hl
   have M:=AA<|Z1b (l:=s.toList) (k:=k) (t:=t) HE.out hne hl;have CT:=AA<|Ro Z3.out Du.out;clear hl HE;go_wp2_with fail
   refine CT.out.mono ?_;rintro e w4 ⟨hk4,⟨n,r4,hy,hn,L,hL,rfl,hB⟩ | ⟨v,y4,x4,r4,hy,rfl,hv,hr4⟩⟩
   ·exact⟨rfl,K3.out.trans hk4,Or.inl ⟨n,r4,HY.out.symm.trans<|M.out.1 _ hy,hn,L,zx,rfl,hB⟩⟩
   ·obtain rfl:v=IK y4:=hv;have QW:=hk4.size;have RR:AO 98 4 (Cj AY<|d) w4 (.slice p' (xs.length+1) c') (xs++[z]) F':=AO.stable (Cj.stable (ty:=AY)<|d) _ _ _ _ _ HG.out.row fun j hj=>hk4.block j (HG.out.new.lt j hj) (by have:=HG.out.new.ge j hj;omega);have Wy:=HY.out.symm.trans<|M.out.2 _ _ _ hy;have R:=AA<|AF RR<|AF (HG.out.new.later lr QW)<|AF (show Jc a b w t w4 r4 x4 from⟨hr4,K3.out.trans hk4,Z3.out.keeps hk4 hg,(Tt ht hy).1⟩) Wy;clear RR hk4 hy hr4 Wy;go_wp2
    exact⟨⟨xs++[z],F',p',c',x4,r4,zw,by simp;omega,by simpa using R.out.1,R.out.2.1,R.out.2.2.1,by rw[<- R.out.2.2.2.symm];congr 1;simp;omega⟩,by simp[XU];omega⟩
  ·have g1:(x2.text.toList==s.toList)=false:=by rw[BK];exact hl
   have E:=AA<|HY.out.symm.trans<|Z7a (l:=s.toList) (k:=k) (t:=t) HE.out hne hl;clear hl HE;go_wp2
   go_ret
   exact⟨K3.out,Or.inr ⟨_,xs++[z],x2,r,E.out,rfl,⟨F',by simpa using HG.out.row,HG.out.new⟩,Du.out⟩⟩
end Go.P
