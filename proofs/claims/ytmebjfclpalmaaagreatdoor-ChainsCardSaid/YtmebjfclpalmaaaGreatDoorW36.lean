import Derived.Test.YtmebjfclpalmaaaGreatDoorW35
set_option maxRecDepth 100000
set_option maxHeartbeats 8000000
set_option linter.unusedSimpArgs false
open Go.Proofs Go.RowKit Go.W Tryz
namespace Go.P
theorem Zo4 (V:Zav)(CL:Zbh){a:Nat->Addr}{w:World}{key:ByteArray}{l:By}{ch:Ch}{y0:ByteArray×Bk}{ys:List (ByteArray×Bk)}(Z:Zao a w)(hk:Zjh key=true)(hl:l.length < 1000000000)(hch:Zb1 Zcf l= .ok ch){S:Bool}(hs:ch.sealed=S)(hls:ch.links=y0::ys)(hn:ys.length < 8)(htag:ch.tag=Zp0 S (Zk2 (Zaj key [y0.1]) (ys.map (·.1)))):
  Calls prog 22 #[.string key,.string (ba l)] w fun e w'=> ∃ v1 v2 F1 F2 W0,e= .returned (.tuple #[v1,v2,.nilIface])/\Below w.heap.size w W0/\Below W0.heap.size W0 w'/\Zag 45 3 (Zvj W0 3) w' v1 ((y0::ys).map (·.2)) F1/\Zag 9 1 Zji w' v2 ((Zaj key [y0.1]::Zf4 (Zaj key [y0.1]) (ys.map (·.1))).map fun t=>⟨(ofB [⟨t.toArray⟩]).toArray⟩) F2/\Za7 W0.heap.size w' F1/\Za7 W0.heap.size w' F2:=by
 obtain⟨T0,hT0⟩: ∃ T0,Box (Zaj key [y0.1]=T0):=⟨_,⟨rfl⟩⟩;rw[hT0.out]at htag⊢;have hks:key.size < 1000000000:=by unfold Zjh at hk;simp at hk;omega
 have CK:=Zaa (fun u=>Ziu key hks u);have C:=Zaa (Zfs V CL Z hl);have HE:=Zaa (Yda hch (Yda hs (Yda hls htag)));clear hch hs hls htag;have ZZ:=Zaa Z;clear Z V CL;go_in
 go_wp2_with fail
 refine(CK.out _).mono ?_;rintro e w1 ⟨rfl,rfl⟩;rw[hk];go_wp2_with fail
 refine C.out.mono ?_;rintro e w2 ⟨hb2,⟨m,hy,hm,rfl⟩ | ⟨y,vs,F,hy,rfl,hQ,hN⟩⟩
 ·rw[HE.out.1]at hy;cases hy
 obtain rfl:y=ch:=by rw[HE.out.1]at hy;exact(Except.ok.inj hy).symm
 obtain⟨v,rfl,htl,hrow⟩:=hQ;obtain⟨p1,c1,rfl,hcap,hLB⟩:=Zyl hrow (fun k hk=>hN.lt k hk);have hlen:(Lib.byteCells y.tag).length=32:=by rw[Lib.byteCells_length,htl]
 have hll:y.links.length=ys.length+1:=by rw[HE.out.2.2.1];rfl
 rw[hll]at hcap⊢;have ECV:Box ((Value.bool y.sealed::Value.slice p1 (ys.length+1) c1::Lib.byteCells y.tag).toArray=Zap S (.slice p1 (ys.length+1) c1) (Lib.byteCells y.tag)):=⟨by rw[HE.out.2.1];rfl⟩;rw[ECV.out];have S1:=Blk.new w2 Zal 91;have hin:=Zb0 S (.slice p1 (ys.length+1) c1) hlen;have hone:=Zd8 S p1 (ys.length+1) c1 y.tag;have hsz:=Zbt S (.slice p1 (ys.length+1) c1) hlen;obtain⟨CV,hCV⟩: ∃ CV,Box (Zap S (.slice p1 (ys.length+1) c1) (Lib.byteCells y.tag)=CV):=⟨_,⟨rfl⟩⟩;rw[hCV.out]at hin hone hsz⊢;have S2:=Yfe _ _ _ CV _ _ S1;have B3:Below w2.heap.size w2 ((w2.alloc (.cells Zal 91)).setRow w2.heap.size CV):=((Ydb _ w2).alloc lr _).setRowAt _ lr;rw[HE.out.2.2.1]at hLB;have CT:=Zaa (Zzc (S:=S) (tag:=y.tag) (c:=c1) (key:=key) (t0:=y0.1) (ts:=ys.map (·.1)) ((ZZ.out.below hb2).below B3) hks B3.size (Zqx hLB B3) (by simp;omega) (by simpa using hcap));rw[Yeo,hCV.out,hT0.out]at CT;have HTL:=Zaa htl;clear C CK hy hrow hN hlen hsz hll ECV htl;go_wp2_with (first
  | (refine Yfa rfl 91 (.tmp 7) (.tmp 21) rfl w2.heap.size CV rfl rfl 91 Zal S1 hin (by rw[<- hCV.out,Zbt _ _ (by rw[Lib.byteCells_length,HTL.out])];rfl) hone ?_)
  | (refine Yfh rfl 91 (.tmp 7) rfl w2.heap.size rfl 91 CV (0,0) _ S2 underlying91 rfl hin ?_))
 refine CT.out.mono ?_;rintro e w4 ⟨v4,F4,rfl,hR4,hN4,hb4⟩;obtain⟨TL,hTL⟩: ∃ TL,Box (T0::Zf4 T0 (ys.map (·.1))=TL):=⟨_,⟨rfl⟩⟩;have hTLl:TL.length=ys.length+1:=by rw[<- hTL.out,Ydp,Zdq,Yeo]
 obtain⟨tgk,htk0⟩: ∃ tgk,Box (Zk2 T0 (ys.map (·.1))=tgk):=⟨_,⟨rfl⟩⟩;have htkl0:tgk.length=32:=by rw[<- htk0.out];exact Zhu (by rw[<- hT0.out];exact Zar _) _
 have HET:Box (y.tag=Zp0 S tgk):=⟨by rw[<- htk0.out];exact HE.out.2.2.2⟩;have hlast:TL[ys.length]?=some tgk:=by
  have:=Zrd T0 (ys.map (·.1))
  rw[hTL.out,Yeo,htk0.out]at this;exact this
 rw[hTL.out]at hR4;obtain⟨p4,c4,rfl,hcap4,hSR⟩:=Z44 hR4 (fun k hk=>hN4.lt k hk);obtain⟨R,o4,rfl,hRl,_,hrg⟩:=hSR.at_ ys.length _ hlast;rw[hTLl]at hcap4⊢;have B4:=Zaa (B3.trans (hb4.mono B3.size));have C4:=Blk.of S2 (hb4.block _ (Blk.lt S2));obtain⟨n,hnn⟩: ∃ n,Box (ys.length=n):=⟨_,⟨rfl⟩⟩;rw[hnn.out]at hcap4 hrg⊢;obtain⟨YT,hYT⟩: ∃ YT,Box (Lib.byteCells tgk=YT):=⟨_,⟨rfl⟩⟩;have hYl:YT.length=32:=by rw[<- hYT.out,Lib.byteCells_length,htkl0]
 rw[hYT.out]at hrg;have HSR:=Zaa hSR;have HLB:=Zaa hLB;have HL2:=Zaa (Yda hTLl hlast);clear hLB hTLl hlast hcap;clear S1 S2 B3 hb4 CT hSR hR4;go_wp2_with fail
 have hn8:n < 8:=by have:=hnn.out;omega
 have hw4:IntKind.i64.wrap (n:Int)=(n:Int):=by rw[IntKind.wrap_i64];omega
 have hw1:wrap64 ((n:Int)+1 - 1)=(n:Int):=by unfold wrap64;omega
 have hw2:wrap64 (n:Int)=(n:Int):=by unfold wrap64;omega
 have hw3:(n:Int) < (n:Int)+1:=by omega
 refine Yfl (S:=fun u=>Blk u w2.heap.size CV 91/\u.rangeAt R (o4+n*32) (YT)) (by kernel_rfl) ?_;change wpAnyH _ _ _ _ _ _ _ _ (World.drew _);have hS0:Blk w4.drew w2.heap.size CV 91/\w4.drew.rangeAt R (o4+n*32) (YT):=⟨C4,hrg⟩;refine wpAnyH_take (i:=0) (oi:={dst:=some 29,op:= .load 91 (.tmp 7),type:=91,pos:= "warrant.go:226",after:=#[],guard:=none}) (v:= .agg CV) rfl (by kernel_rfl) (by kernel_rfl) (by kernel_rfl) (fun _ _ _ h=>h) (Zfr rfl 91 (.tmp 7) rfl ⟨w2.heap.size,0,none⟩ rfl fun u hS=>Yfk u w2.heap.size 91 91 _ _ _ hS.1 underlying91 rfl hin) hS0 ?_;simp only[zz];refine tk 1 (.slice (some ⟨R,o4,none⟩) (n+1) c4) hS0 ?_;simp only[zz];refine tk 2 (.slice (some ⟨R,o4,none⟩) (n+1) c4) hS0 ?_;simp only[zz];refine tk 3 (.int .i64 ((n:Int)+1)) hS0 ?_;simp only[zz];refine tk 4 (.int .i64 (n:Int)) hS0 ?_;simp only[zz];refine tk 5 (.pointer (some ⟨R,o4+n*32,none⟩)) hS0 ?_;simp only[zz];refine wpAnyH_take (i:=6) (oi:={dst:=some 35,op:= .load 89 (.tmp 34),type:=89,pos:= "warrant.go:226",after:=#[{on:=5,ground:=Ground.data}],guard:=none}) (v:= .agg (YT).toArray) rfl (by kernel_rfl) (by kernel_rfl) (by kernel_rfl) (fun _ _ _ h=>h) (yieldsIf_load_mid (by simp[Region.wanted]) 89 (.tmp 34) rfl R (o4+n*32) rfl (YT) _ (fun u hS=>hS.2) underlying89 rfl (by rw[hYl];kernel_rfl)) hS0 ?_;simp only[zz];refine Yfc (rs:=[7]) (by kernel_rfl) (by simp) (Ydr rfl (fun K' hK'=>?_) Ydu);go_simp;have CE':=Zx7 (S:=S) (w:=w4.drew) (v:= .slice p1 (ys.length+1) c1) (tag:=y.tag) (last:=tgk) (((ZZ.out.below hb2).below B4.out).below ((Ydb _ w4).drew)) HTL.out htkl0;rw[hCV.out,Yfj HET.out]at CE';unfold Zk0 at CE';rw[hYT.out]at CE';refine mq CE' ?_;rintro w5 hb5;have B5:=Zaa (B4.out.trans (Below.mono (B:=w4.drew.heap.size) ⟨hb5.os,hb5.tape,hb5.output,hb5.size,hb5.block⟩ B4.out.size));have B45:Box (Below w4.heap.size w4 w5):=⟨⟨hb5.os,hb5.tape,hb5.output,hb5.size,hb5.block⟩⟩;refine hK'.out _ _ ⟨C4.of (hb5.block _ (Blk.lt C4)),fun j u hj=>(hb5.cell (p:=⟨R,o4+n*32+j,none⟩) hRl).trans (hrg j u hj)⟩ fun hS5=>?_;clear hK' K' CE' hS0;refine tk 8 (.bool false) hS5 ?_;simp only[zz];refine Yfi (by kernel_rfl) ?_ _;have v1:CV[1]?=some (.slice p1 (n+1) c1):=by rw[<- hCV.out,hnn.out];rfl
 have cl:w5.cell? ⟨w2.heap.size,1,none⟩=some (.slice p1 (n+1) c1):=(hS5.1.cell 1).trans v1;clear hS5 C4;go_wp2_with fail
 obtain⟨xs,hxs⟩: ∃ xs,Box ((y0::ys).map (·.2)=xs):=⟨_,⟨rfl⟩⟩;obtain⟨ids,hids⟩: ∃ ids,Box (TL.map (fun t=>(⟨(ofB [⟨t.toArray⟩]).toArray⟩:ByteArray))=ids):=⟨_,⟨rfl⟩⟩;have hxl:Box (xs.length=n+1):=⟨by rw[<- hxs.out];simp[hnn.out]⟩;clear cl;clear hw1 hw2 hw3 hw4 hin hone hrg hYl hYT hCV hn hcap4;go_loopw [42,10,11] (fun iv bv dv wr=>Yat w2 w5 xs ids iv bv dv wr) (fun iv _ _ _=>xs.length - (intOf iv).toNat)
 case atStart=>exact⟨0,[],[],Yej _,rfl,Zag.nil,Zag.nil,Za7.nil _ _,Za7.nil _ _,(fun _ h=>by cases h),Ydb _ _⟩
 case round=>
  obtain⟨k,F1,F2,hk,rfl,hR1,hR2,hN1,hN2,hD,hbk⟩:=hrel;by_cases hlt:k < n+1
  ·have g:(k:Int) < (n:Int)+1:=by omega
   obtain⟨yk,hyk⟩: ∃ yk,(y0::ys)[k]?=some yk:=⟨(y0::ys)[k]'(by have:=hnn.out;simp;omega),Ydi _⟩;obtain⟨b0,o0,rfl,hx⟩:=HLB.out.at_ k yk hyk;have hxk:xs[k]?=some yk.2:=by rw[<- hxs.out,Yd5,hyk];rfl
   obtain⟨hbl,hys,q1,k1,q2,k2,q3,k3,z0,z1,z2,z3,hSk⟩:=hx;have ccw: ∀ o,wr.cell? ⟨b0,o,none⟩=w2.cell? ⟨b0,o,none⟩:=fun o=>(hbk.cell (p:=⟨b0,o,none⟩) (Ydh hbl B5.out.size)).trans (B5.out.cell (p:=⟨b0,o,none⟩) hbl);rw[<- ccw]at z0 z1 z2 z3;have hbwr:b0 < wr.heap.size:=Ydh hbl (Ydc B5.out.size hbk.size);obtain⟨tgk,htk⟩: ∃ tgk,TL[k]?=some tgk:=⟨TL[k]'(by have:=hnn.out;have:=HL2.out.1;omega),Ydi _⟩;obtain⟨R',o',hRo,hRl',htkl,hrgk⟩:=HSR.out.at_ k tgk htk;obtain⟨rfl,rfl⟩:R=R'/\o4=o':=by injection hRo with h;injection h with h1 h2;exact⟨h1,h2⟩
   have HK:=Zaa (Yda hyk (Yda hxk (Yda htk (Yda htkl (Yda hrgk hSk)))));clear hyk hxk htk htkl hrgk hSk ccw;have hbk0:=Zaa hbk.size;have HH:=Zaa (Yda hR1 (Yda hR2 (Yda hN1 (Yda hN2 (Yda hD hbk)))));clear hR1 hR2 hN1 hN2 hD hbk;have hk32:wr.heap.size < wr.heap.size+1:=by omega
   have hN5:=Zaa (Ydc hbk0.out (Yec wr.heap.size));have LB:Box (Blk ((wr.alloc (.cells #[.string yk.1,.slice q1 yk.2.facts.length k1,.slice q2 yk.2.rules.length k2,.slice q3 yk.2.checks.length k3] 108)).alloc (.cells #[.slice q1 yk.2.facts.length k1,.slice q2 yk.2.rules.length k2,.slice q3 yk.2.checks.length k3] 45)) (wr.heap.size+1) #[.slice q1 yk.2.facts.length k1,.slice q2 yk.2.rules.length k2,.slice q3 yk.2.checks.length k3] 45):=⟨by
    have:=Blk.new (wr.alloc (.cells #[.string yk.1,.slice q1 yk.2.facts.length k1,.slice q2 yk.2.rules.length k2,.slice q3 yk.2.checks.length k3] 108)) #[.slice q1 yk.2.facts.length k1,.slice q2 yk.2.rules.length k2,.slice q3 yk.2.checks.length k3] 45
    simpa using this⟩
   have ha2:Box (∀ j,j < wr.heap.size-> ∀ o1 o2,((wr.alloc o1).alloc o2).heap[j]?=wr.heap[j]?):=⟨fun j hj o1 o2=>(Ydf _ _ _ (by simp;omega)).trans (Ydf _ _ _ hj)⟩;have hlx:(xs.take k).length < 100000000:=by rw[List.length_take];have:=hxl.out;omega
   go_wp2_with (at_builtin;go_must (refine Za9 Zx5 rfl (.tmp 47) (.tmp 50) rfl (Zvj.stable w2 3) (fun _ _ _ _ h=>Zvj.one h) w5.heap.size u10 (xs.take k) F1 rfl (Zag.stable (Zvj.stable w2 3) _ _ _ _ _ HH.out.1 fun j hj=>ha2.out j (HH.out.2.2.1.lt j hj) _ _) (wr.heap.size+1) #[.slice q1 yk.2.facts.length k1,.slice q2 yk.2.rules.length k2,.slice q3 yk.2.checks.length k3] 45 (0,0) yk.2 [] rfl LB.out rfl ⟨rfl,HK.out.2.2.2.2.2⟩ hlx (by have:=hN5.out;simp;omega) (HH.out.2.2.1.later lr (by simp;omega)) (Za7.nil _ _) (fun _ _ h=>by cases h) ?_);intro g6 cap6 w6 F6 happ;have hcv6:(convert 74 9 (.slice (some ⟨R,o4+k*32,none⟩) 32 32)).run prog w6= .ok (.string ⟨tgk.toArray⟩) w6:=Zix (fun j u hj=>(Yde (a:=⟨R,o4+k*32+j,none⟩) ((happ.same R (by have:=hbk0.out;have:=B45.out.size;simp;omega) (fun h=>by have:=HH.out.2.2.1.ge R h;have:=B45.out.size;omega)).trans (ha2.out R (by have:=hbk0.out;have:=B45.out.size;omega) _ _))).trans ((HH.out.2.2.2.2.2.cell (p:=⟨R,o4+k*32+j,none⟩) (by have:=B45.out.size;show R < _;omega)).trans ((B45.out.cell (p:=⟨R,o4+k*32+j,none⟩) hRl).trans (HK.out.2.2.2.2.1 j u hj)))) 32 HK.out.2.2.2.1.symm)
   have hs6:wr.heap.size+2<=w6.heap.size:=by have:=happ.size;simpa using this
   have st6:Box (∀ j,j < wr.heap.size->j∉F1->w6.heap[j]?=wr.heap[j]?):=⟨fun j hj hF=>(happ.same j (by simp;omega) hF).trans (ha2.out j hj _ _)⟩;have B56:Box (Below w5.heap.size w5 w6):=⟨⟨happ.os.trans HH.out.2.2.2.2.2.os,happ.tape.trans HH.out.2.2.2.2.2.tape,happ.output.trans HH.out.2.2.2.2.2.output,by have:=hbk0.out;omega,fun j hj=>(st6.out j (by have:=hbk0.out;omega) (fun h=>by have:=HH.out.2.2.1.ge j h;omega)).trans (HH.out.2.2.2.2.2.block j hj)⟩⟩;have Z6:=((ZZ.out.below hb2).below B5.out).below B56.out;have CS:=Zaa (Z43 (t:=⟨tgk.toArray⟩) Z6 (by have:=HK.out.2.2.2.1;simp[ByteArray.size,this]));have R6:=Zaa (Yda happ.row (Yda happ.new happ.sub));clear Z6 happ;clear hcv6;refine mq CS.out ?_;rintro w7 hb7;have hs7:=hb7.size;obtain⟨S7,hS7⟩: ∃ S7:ByteArray,Box ((⟨(ofB [⟨tgk.toArray⟩]).toArray⟩:ByteArray)=S7):=⟨_,⟨rfl⟩⟩;rw[hS7.out];have st7:Box (∀ j,j < wr.heap.size->j∉F1-> ∀ o,(w7.alloc o).heap[j]?=wr.heap[j]?):=⟨fun j hj hF o=>(Ydf _ _ _ (by omega)).trans ((hb7.block j (by omega)).trans (st6.out j hj hF))⟩;have hli:(ids.take k).length < 100000000:=by rw[List.length_take,<- hids.out,Yeo];have:=HL2.out.1;have:=hnn.out;omega
   have B57:=tr B56 hb7;have R7:Box (Zag 45 3 (Zvj w2 3) w7 (.slice (some ⟨g6,0,none⟩) ((xs.take k).length+1) cap6) (xs.take k++[yk.2]) F6):=⟨Zag.stable (Zvj.stable w2 3) _ _ _ _ _ R6.out.1 fun j hj=>hb7.block j (R6.out.2.1.lt j hj)⟩;clear hb7 CS;go_wp2_with (at_builtin;go_must (refine Za9 Zry rfl (.tmp 52) (.tmp 59) rfl Zji.stable (fun _ _ _ _ h=>Zji.one h) w5.heap.size u11 (ids.take k) F2 rfl (Zag.stable Zji.stable _ _ _ _ _ HH.out.2.1 fun j hj=>st7.out j (HH.out.2.2.2.1.lt j hj) (fun h=>HH.out.2.2.2.2.1 j h hj) _) w7.heap.size #[.string S7] 9 (0,0) S7 [] rfl (Zaw _ _) rfl ⟨rfl,rfl⟩ hli (by have:=hbk0.out;simp;omega) (HH.out.2.2.2.1.later lr (by simp;omega)) (Za7.nil _ _) (fun _ _ h=>by cases h) ?_);intro g8 cap8 w8 F8 happ)
   have hlk:(xs.take k).length=k:=by rw[List.length_take];have:=hxl.out;omega
   have hs8:=happ.size;simp only[Ydm]at hs8;have hw58:=B57.out.size;have d62: ∀ j,j∈F6->j∉F2:=fun j hj h2=>by
    rcases R6.out.2.2 j hj with h | h | h
    ·exact HH.out.2.2.2.2.1 j h h2
    ·cases h
    ·have:=HH.out.2.2.2.1.lt j h2
     simp at h;omega
   have tk1:xs.take (k+1)=xs.take k++[yk.2]:=by rw[Yes,HK.out.2.1];rfl
   have tk2:ids.take (k+1)=ids.take k++[S7]:=by
    have:ids[k]?=some S7:=by rw[<- hids.out,Yd5,HK.out.2.2.1,<- hS7.out];rfl
    rw[Yes,this];rfl
   go_roundw
   case rel=>
    refine⟨k+1,F6,F8,by have:=hxl.out;omega,by go_num,?_,?_,R6.out.2.1.later lr (by omega),happ.new,fun j hj h8=>?_,?_⟩
    ·rw[tk1]
     have:=Zag.stable (Zvj.stable w2 3) _ w8 _ _ _ R7.out fun j hj=>(happ.same j (by have:=R6.out.2.1.lt j hj;simp;omega) (d62 j hj)).trans (Ydf _ _ _ (by have:=R6.out.2.1.lt j hj;omega))
     rw[hlk]at this;exact this
    ·rw[tk2]
     have:=happ.row
     rw[List.length_take]at this;exact this
    ·rcases happ.sub j h8 with h | h | h
     ·exact d62 j hj h
     ·cases h
     ·have:=R6.out.2.1.lt j hj
      simp at h;omega
    ·exact⟨happ.os.trans B57.out.os,happ.tape.trans B57.out.tape,happ.output.trans B57.out.output,by omega,fun j hj=>(happ.same j (by simp;omega) (fun h=>by have:=HH.out.2.2.2.1.ge j h;omega)).trans ((Ydf _ _ _ (by omega)).trans (B57.out.block j hj))⟩
   case measure=>simp[intOf];have:=hxl.out;omega
  ·obtain rfl:k=n+1:=by have:=hxl.out;omega
   have e1:xs.take (n+1)=xs:=Yd9 (by have:=hxl.out;omega);have e2:ids.take (n+1)=ids:=Yd9 (by rw[<- hids.out,Yeo];have:=HL2.out.1;have:=hnn.out;omega);rw[e1]at hR1;rw[e2]at hR2;have HH:=Zaa (Yda hR1 (Yda hR2 (Yda hN1 (Yda hN2 hbk))));clear e1 e2 hR1 hR2 hN1 hN2 hD hbk;go_wp2
   go_ret3
   rw[hxs.out,hTL.out,hids.out];exact⟨u10,u11,F1,F2,w2,rfl,hb2,B5.out.trans (HH.out.2.2.2.2.mono B5.out.size),HH.out.1,HH.out.2.1,HH.out.2.2.1.later B5.out.size lr,HH.out.2.2.2.1.later B5.out.size lr⟩
end Go.P
namespace Go.W
variable {x:Bk}
theorem Z20 (h:Zh6 x=0):Zck x=0/\(Ze9 x).size<=4000/\Zcd x=Ze9 x:=by
 have e:Zcd x=Ze9 x:=if_pos h;unfold Zh6 at h;split at h
 ·rename_i h';exact absurd h h'
 ·rename_i h';split at h
  ·cases h
  ·exact⟨Decidable.not_not.mp h',by omega,e⟩
theorem Z3s (h:Zh6 x=0)(hi:Zvl x):Fwd Zks (fun y:ByteArray×Bk=>Zb4 y.1) (Zcd x,x):=fun r=>by
 obtain⟨h1,h2,h3⟩:=Z20 h;rw[h3];unfold Zks Zb4;dsimp only;rw[Zbq,Ydq,De.then_ok (Zf3 (by omega) _),if_neg (by omega),<- Zcy,De.then_ok (Zk6 _ r),Zyk (Z0b h1 hi h2),Zjw]
theorem Z2n {α:Type}(f:ByteArray->ByteArray): ∀ l:List (ByteArray×α),cat f (l.map (·.1))=cat (fun y=>f y.1) l
 | []=>rfl
 | x::l=>by rw[List.map_cons,cat,cat,Z2n f l]
theorem Zkj {S:Bool}{xs:List Bk}{tag:By}(hne:xs≠[])(hn:xs.length<=8)(ht:tag.length=32)(hx: ∀ x,x∈xs->Zh6 x=0/\Zvl x):Zb1 Zcf (bl (Zcc S (xs.map Zcd) tag))= .ok ⟨S,xs.map fun x=>(Zcd x,x),tag⟩:=by
 have hl:xs.map Zcd=(xs.map fun x=>(Zcd x,x)).map (·.1):=by rw[List.map_map];rfl
 have hm:=Zek (f:=Zks) (p:=fun y:ByteArray×Bk=>Zb4 y.1) (m:=8) (xs:=xs.map fun x=>(Zcd x,x)) (fun y hy=>by
  obtain⟨x,hx',rfl⟩:=List.mem_map.mp hy;exact Z3s (hx x hx').1 (hx x hx').2) (by simpa using hn) (by omega) tag
 have e:bl (Zcc S (xs.map Zcd) tag)=Zcj++(bl (b1 (if S then 1 else 0))++(bl (Zaz (fun y:ByteArray×Bk=>Zb4 y.1) (xs.map fun x=>(Zcd x,x)))++tag)):=by
  rw[hl];unfold Zcc Zaz;rw[Z2n,Yeo,Zbq,Zbq,Zbq,Zpn,Zpn];simp only[Ydq]
 have hs1:(if S then 1 else 0)<=1:=by cases S <;> decide
 have hnz: ¬ (xs.map fun x=>(Zcd x,x)).length=0:=by simpa using hne
 have ht':=Zk6 tag [];rw[List.append_nil,ht]at ht';rw[e,Zb1]
 have:Zcf (Zcj++(bl (b1 (if S then 1 else 0))++(bl (Zaz (fun y:ByteArray×Bk=>Zb4 y.1) (xs.map fun x=>(Zcd x,x)))++tag)))= .ok (⟨S,xs.map fun x=>(Zcd x,x),tag⟩,[]):=by
  unfold Zcf;have h4:=Zk6 Zcj (bl (b1 (if S then 1 else 0))++(bl (Zaz (fun y:ByteArray×Bk=>Zb4 y.1) (xs.map fun x=>(Zcd x,x)))++tag));rw[show Zcj.length=4 from rfl]at h4;rw[De.then_ok h4,if_neg (by simp),De.then_ok (Zdi (by omega) _)];unfold Znp;rw[if_neg (by omega),De.then_ok hm];unfold Zql;rw[if_neg hnz,De.map_ok ht'];cases S <;> rfl
 rw[this];rfl
def Z14:ByteArray:=⟨#[107,101,121]⟩
def Yac:Pol:=⟨true,[Yck]⟩
theorem Zrz:Zh6 bkB=0:=by kernel_rfl
theorem Z2z:Zh6 bkC=0:=by kernel_rfl
end Go.W
namespace Go.P
variable {B:Nat}{w:World}{a:Nat->Addr}
def Z93:ByteArray:=Zcc false [Zcd bkB] (Zaj Z14 [Zcd bkB])
def Z7o:ByteArray:=Zcc false [Zcd bkB,Zcd bkC] (Zhv (Zaj Z14 [Zcd bkB]) [bkC])
theorem Zbd.at {B' d b o:Nat}{w':World}{vs:List Value}{x:Bk}(h:Zbd B w d vs x)(c:Zc1 B B' w w')(hb:b < B')(hv: ∀ j,j < 3->w'.cell? ⟨b,o+j,none⟩=vs[j]?):Zbx B' w' (d+1) b o x:=by
 obtain⟨p,k,p1,k1,p2,k2,rfl,h2,h3,h4,h5,h6,h7⟩:=Zbd.carry h c;exact⟨hb,⟨_,hv 0 (by omega),_,_,rfl,h2,h3⟩,⟨_,hv 1 (by omega),_,_,rfl,h4,h5⟩,_,hv 2 (by omega),_,_,rfl,h6,h7⟩
theorem Zao.glob (h:Zao a w):Zpg w:=by
 have hs:=h.size;obtain⟨w0,h0,h1⟩:=h;exact⟨⟨(h1 _ _ (by decide)).2.trans h0.bits.1,(h1 _ _ (by decide)).2.trans h0.bits.2.1,(h1 _ _ (by decide)).2.trans h0.bits.2.2⟩,(h1 _ _ (by decide)).2.trans (h0.ops 2 _ rfl),hs⟩
theorem Z5w (V:Zav)(CL:Zbh)(Z:Zao a w)(hB:B<=w.heap.size)(iB:Zvl bkB)(iC:Zvl bkC){pp:Option Addr}{cp:Nat}(hp:Zan 2 (Zjt B w 4) pp [Yac]):
  Calls prog 33 #[.string Z14,.string Z7o,.agg #[.int .i64 4,.slice none 0 0,.slice none 0 0],.slice pp 1 cp] w fun e w'=>e= .returned (.tuple #[.int .i64 6,.nilIface])/\Below w.heap.size w w':=by
 have hch:Zb1 Zcf (bl Z7o)= .ok ⟨false,[(Zcd bkB,bkB),(Zcd bkC,bkC)],Zhv (Zaj Z14 [Zcd bkB]) [bkC]⟩:=Zkj (xs:=[bkB,bkC]) (by simp) (by simp) (Zfa (Zar _) _) fun x hx=>by
  rcases List.mem_cons.mp hx with rfl | hx
  ·exact⟨Zrz,iB⟩
  ·obtain rfl:=List.mem_singleton.mp hx;exact⟨Z2z,iC⟩
 have hsz:(bl Z7o).length < 1000000000:=by
  rw[Zcy];exact Ze0 false (by simp) (fun t ht=>by
   rcases List.mem_cons.mp ht with rfl | ht
   ·exact Zc7 _
   ·obtain rfl:=List.mem_singleton.mp ht;exact Zc7 _) (Zfa (Zar _) _)
 refine Zs9 (J:=fun v1 v2 u=>(∃ F1 W0,Below w.heap.size w W0/\Below W0.heap.size W0 u/\Zag 45 3 (Zvj W0 3) u v1 [bkB,bkC] F1/\ ∀ k,k∈F1->k < u.heap.size)/\ ∃ F2 t0 t1,Zag 9 1 Zji u v2 [t0,t1] F2/\ ∀ k,k∈F2->k < u.heap.size) Z ?_ ?_ ?_ ?_ ?_
 ·intro u hu;exact Zgt V (B:=u.heap.size) (D:=3) (x:=⟨[],[],[]⟩) (Z.below hu) lr ⟨_,_,_,_,_,_,rfl,Yec _,Zmj,Yec _,Zmj,Yec _,Zmj⟩
 ·intro u hu;exact Z64 V (B:=B) (D:=3) (Z.below hu) (Ydc hB hu.size) (hp.carry fun _ _ _ q=>q.carry (Za4 hu hB) lr) (by kernel_rfl)
 ·intro u hu
  have:=Zo4 V CL (S:=false) (key:=Z14) (l:=bl Z7o) (y0:=(Zcd bkB,bkB)) (ys:=[(Zcd bkC,bkC)]) (Z.below hu) (by decide) hsz hch rfl rfl (by simp) rfl
  rw[Zjw]at this;refine this.mono ?_;rintro e w' ⟨v1,v2,F1,F2,W0,rfl,h1,h2,h3,h4,h5,h6⟩;exact⟨v1,v2,rfl,⟨⟨F1,W0,hu.trans (h1.mono hu.size),h2,h3,h5.lt⟩,F2,_,_,h4,h6.lt⟩,h1.trans (h2.mono h1.size)⟩
 ·rintro v1 v2 u ⟨⟨F1,W0,h1,h2,h3,h3'⟩,F2,t0,t1,h4,h5⟩ hu;obtain⟨p,c,rfl,_,hr⟩:=Zag.rowOf (Q':=fun b o x=>b < u.heap.size/\u.cell? ⟨b,o,none⟩=some (.string x)) h4 h5 fun b o vs x G hc hb _ q=>⟨hb,by have:=hc 0 (by omega);rw[q.2]at this;exact this⟩;obtain⟨b,o,rfl,hb,k0⟩:=Zmi hr;refine(Zpy (ids:=[t0,t1]) hb (fun i t hi=>?_) (by simp)).mono ?_
  ·obtain⟨b',o',e',_,k⟩:=hr.at_ i t hi;cases e';simpa using k
  rintro e w' ⟨rfl,hw⟩;exact⟨rfl,⟨⟨F1,W0,h1,h2.trans (hw.mono h2.size),Zag.stable (Zvj.stable _ _) _ _ _ _ _ h3 fun j hj=>hw.block j (h3' j hj),fun k hk=>Ydh (h3' k hk) hw.size⟩,F2,t0,t1,Zag.stable Zji.stable _ _ _ _ _ h4 fun j hj=>hw.block j (h5 j hj),fun k hk=>Ydh (h5 k hk) hw.size⟩,hw⟩
 ·rintro v1 v2 u ⟨⟨F1,W0,h1,h2,h3,h3'⟩,_⟩ hu;obtain⟨p,c,rfl,hc,hr⟩:=Zag.rowOf (Q':=Zbx u.heap.size u 4) h3 h3' fun b o vs x G hcl hb _ q=>Zbd.at q.2 (Go.W.Below.carry h2 h2.size) hb hcl;obtain⟨b,o,rfl,b0⟩:=Zmi hr;obtain⟨b',o',e',b1⟩:=hr.at_ 1 bkC rfl;cases e';exact Zv2 (B:=u.heap.size) (D:=1) (Z.below hu).glob lr hc b0 (by simpa using b1) (hp.carry fun _ _ _ q=>q.carry (Go.W.Below.carry (hu.mono hB) (Ydc hB hu.size)) lr)
end Go.P
namespace Go.P
theorem Z7b {a:Nat->Addr}{w:World}{C:Nat}{S:Bool}{v:Value}{tag:List UInt8}(Z:Zao a w)(hg:23<=C)(hC:Blk w C (Zap S v (Lib.byteCells tag)) 91)(ht:tag.length=32):
  Calls prog 35 #[.pointer (some ⟨C,0,none⟩)] w fun e w'=>e= .returned (.tuple #[])/\Below C w w'/\(∀ j,j < w.heap.size->j≠C->w'.heap[j]?=w.heap[j]?)/\Blk w' C (Zap true v (Lib.byteCells (Zaj ⟨tag.toArray⟩ [Zh4]))) 91:=by
 have hCl:=hC.lt;have C6:Blk (w.setCell ⟨C,0,none⟩ (.bool true)) C (Zap true v (Lib.byteCells tag)) 91:=hC.set 0 _;have x0:w.cell? ⟨C,0,none⟩=some (.bool S):=(hC.cell 0).trans rfl;have xs:=hC.soft;have B6:Below C w (w.setCell ⟨C,0,none⟩ (.bool true)):=(Ydb C w).setCell (p:=⟨C,0,none⟩) lr _;have HO:Box (∀ j,j < w.heap.size->j≠C->(w.setCell ⟨C,0,none⟩ (.bool true)).heap[j]?=w.heap[j]?):=⟨fun j _ hj=>Ydg _ _ _ _ hj⟩;have hs6:(w.setCell ⟨C,0,none⟩ (.bool true)).heap.size=w.heap.size:=by simp
 have CB:=Zaa (Zkg (t:=Zh4) (Z.belowN B6 hg) ht (by decide));have hrg:(w.setCell ⟨C,0,none⟩ (.bool true)).rangeAt C 2 (Lib.byteCells tag):=fun j u hj=>by
  rw[Blk.cell C6,Zap,Yd8,Nat.add_comm 2 j];exact hj
 have hlt6:(Lib.byteCells tag).length=32:=by rw[Lib.byteCells_length,ht]
 unfold Zk0 at CB;obtain⟨nt,hnt⟩: ∃ nt,Box (Zaj ⟨tag.toArray⟩ [Zh4]=nt):=⟨_,⟨rfl⟩⟩;have hTl:nt.length=32:=by rw[<- hnt.out];exact Zar _
 rw[hnt.out]at CB⊢;have HB6:=Zaa B6;have HS6:=Zaa hs6;clear Z hC B6 hs6;go_in
 go_wp2_with (refine wpList_load_mid rfl 89 (.tmp 8) rfl C 2 rfl (Lib.byteCells tag) _ hrg underlying89 rfl (by rw[hlt6];kernel_rfl) ?_)
 refine mq CB.out ?_;rintro w7 hb7;have C7:=C6.of (hb7.block _ C6.lt);have hlT:(Lib.byteCells nt).length=32:=by rw[Lib.byteCells_length,hTl]
 have hnv:=Zqk true v hlt6 hlT;have hinf:(prog.info? 89).map (·.size)=some (Lib.byteCells nt).toArray.size:=Zep hTl;have R7:=Zaa hb7;clear hrg hb7 CB C6 x0 xs;go_wp2_with (refine Zhh rfl 89 (.tmp 12) (.tmp 10) rfl C 2 (Lib.byteCells nt).toArray (Zap true v (Lib.byteCells tag)) _ rfl rfl 91 C7 hinf (by rw[Zbt _ _ hlt6,Ydn,hlT];decide) (Zeo _) hnv ?_)
 refine⟨rfl,_,(by simp[results,results35,go_sem];try rfl),?_⟩;refine⟨rfl,((HB6.out.trans (R7.out.mono (by rw[HS6.out];omega))).setRowAt _ lr),fun j hj hne=>?_,Yfe _ _ _ _ _ _ C7⟩;exact(Ye8 w7 C j _ hne).trans ((R7.out.block j (by rw[HS6.out];exact hj)).trans (HO.out j hj hne))
end Go.P
namespace Go.W
def Zo3 (l:By):Except Int Ch:=match Zb1 Zcf l with
 | .error n=> .error n
 | .ok x=>if x.sealed then .error 9 else .ok x
end Go.W
namespace Go.P
theorem Zqh: ∀ u:World,(Instr.build 91 #[]).run prog u= .ok (.agg Zal) u:=fun u=>by kernel_rfl
theorem Zml (V:Zav)(CL:Zbh){a:Nat->Addr}{w:World}{l:By}(Z:Zao a w)(hl:l.length < 1000000000):Calls prog 34 #[.string (ba l)] w (Zka a w (Zo3 l)):=by
 cases hx:Zb1 Zcf l with
 | ok x=>
  cases hs:x.sealed with
  | false=>
   have:=Zxi V CL Z hl hx hs
   rwa [show Zo3 l= .ok x by unfold Zo3;rw[hx];simp[hs]]
  | true=>
   rw[show Zo3 l= .error 9 by unfold Zo3;rw[hx];simp[hs]];have B0:=fun o=>(Ydb w.heap.size w).alloc lr o;have C:=Zaa (fun o=>Zfs V CL (Z.below (B0 o)) hl);have L0:=Blk.new w Zal 91;have HX:=Zaa hx;have HZ:=Zaa Z;clear Z V CL hx;go_in
   go_wp2_with fail
   refine(C.out (.cells Zal 91)).mono ?_;rintro e w1 ⟨hb1,⟨n,hy,hn,rfl⟩ | ⟨y,vs,F,hy,rfl,hQ,hN⟩⟩
   ·rw[HX.out]at hy;cases hy
   obtain rfl:y=x:=by rw[HX.out]at hy;exact((Except.ok.inj hy)).symm
   obtain⟨ha1,ha2,ha3⟩:=Zhx.arr hQ;have L1:=L0.of (hb1.block _ L0.lt);have BB:=Zaa ((B0 (.cells Zal 91)).trans (hb1.mono (by simp)));obtain⟨CV,hCV⟩: ∃ CV,Box (vs.toArray=CV):=⟨_,⟨rfl⟩⟩;have c0:CV[0]?=some (.bool true):=by
    obtain⟨v,rfl,_⟩:=hQ;rw[<- hCV.out,hs];rfl
   rw[hCV.out]at ha1 ha2 ha3⊢;have S1:=Blk.new w1 Zal 91;have x0: ∀ cs t,((w1.alloc (.cells cs t)).setRow w1.heap.size CV).cell? ⟨w1.heap.size,0,none⟩=some (.bool true):=fun cs t=>(Blk.cell (Yfe _ _ _ CV _ _ (Blk.new w1 cs t)) 0).trans c0;have BE:=(BB.out.alloc BB.out.size (.cells Zal 91)).setRowAt CV BB.out.size;have ce:=(HZ.out.below BE).c9;have L2:=(L1.alloc (.cells Zal 91)).of (Ye8 (w1.alloc (.cells Zal 91)) w1.heap.size w.heap.size CV (by have:=L1.lt;omega));have HBE:=Zaa BE;clear hb1 hy C L0 hQ hN BE;go_wp2_with (first
    | (refine Yfa rfl 91 (.tmp 4) (.tmp 9) rfl w1.heap.size CV rfl rfl 91 Zal S1 ha3 (by rw[ha1];rfl) ha2 ?_))
   change Code.wp _ _ _ _ ((w1.alloc (.cells Zal 91)).setRow w1.heap.size CV);generalize (w1.alloc (.cells Zal 91)).setRow w1.heap.size CV=W2 at*;rw[Zaf _ (by decide)]at ce;refine Yfl (S:=fun u=>u.cell? ⟨8,0,none⟩=some (.iface 403 (.pointer (some (a ((9:Int).toNat - 1)))))) (by kernel_rfl) ?_;change wpAnyH _ _ _ _ _ _ _ _ (World.drew _);refine wpAnyH_take (i:=0) (v:= .agg Zal) rfl (by kernel_rfl) (by kernel_rfl) (by kernel_rfl) (fun _ _ _ h=>h) (Zgu rfl 91 #[] rfl #[] (by simp) fun u _=>Zqh u) ce ?_;try simp only[zz]
   refine tk 1 (.iface 403 (.pointer (some (a ((9:Int).toNat - 1))))) ce ?_;try simp only[zz]
   refine Yfc (rs:=[2]) (by kernel_rfl) (by simp) (Ydr rfl (fun K' hK'=>?_) Ydu);refine Zgs rfl 91 (.tmp 2) (.tmp 17) rfl w.heap.size Zal rfl rfl 91 Zal L2 Zcu rfl (by kernel_rfl) ?_;refine hK'.out _ _ ?_ fun hS3=>?_
   ·exact(Yde (a:=⟨8,0,none⟩) (Ye8 _ _ _ _ (by have:=HZ.out.size;show 8≠_;omega))).trans ce
   try simp only[Act.put,List.getElem_toArray,List.getElem_cons_succ,List.getElem_cons_zero]
   refine tk 3 (.iface 403 (.pointer (some (a ((9:Int).toNat - 1))))) hS3 ?_;try simp only[zz]
   refine Yfi (by kernel_rfl) ?_ _;go_wp2
   refine Ye6 (Zdp rfl _ _ _ _ _ rfl rfl (Yfk _ w.heap.size 91 91 _ _ _ (Yfe _ _ _ _ _ _ L2) underlying91 rfl Zcu)) rfl ?_;exact⟨(HBE.out.drew).setRowAt _ lr,Or.inl ⟨9,rfl,by decide,by rw[Zaf _ (by decide)];rfl⟩⟩
 | error n=>
  rw[show Zo3 l= .error n by unfold Zo3;rw[hx]];have B0:=fun o=>(Ydb w.heap.size w).alloc lr o;have C:=Zaa (fun o=>Zfs V CL (Z.below (B0 o)) hl);have L0:=Blk.new w Zal 91;have HX:=Zaa hx;clear Z V CL hx;go_in
  go_wp2_with fail
  refine(C.out (.cells Zal 91)).mono ?_;rintro e w1 ⟨hb1,⟨n',hy,hn,rfl⟩ | ⟨y,vs,F,hy,rfl,hQ,hN⟩⟩
  ·obtain rfl:n'=n:=by rw[HX.out]at hy;exact(Except.error.inj hy).symm
   have L1:=L0.of (hb1.block _ L0.lt);have BB:=Zaa ((B0 (.cells Zal 91)).trans (hb1.mono (by simp)));rw[Zaf _ hn];have S1:=Blk.new w1 Zal 91;have L2:=(L1.alloc (.cells Zal 91)).of (Ye8 (w1.alloc (.cells Zal 91)) w1.heap.size w.heap.size Zal (by have:=L1.lt;omega));have bz:=Zqh;clear hb1 hy C L0;go_wp2_with (first
    | (refine Yfa rfl 91 (.tmp 4) (.tmp 9) rfl w1.heap.size Zal rfl rfl 91 Zal S1 Zcu rfl (by kernel_rfl) ?_)
    | (refine Yfa rfl 91 (.tmp 2) (.tmp 13) rfl w.heap.size Zal rfl rfl 91 Zal L2 Zcu rfl (by kernel_rfl) ?_))
   refine Ye6 (Zdp rfl _ _ _ _ _ rfl rfl (Yfk _ w.heap.size 91 91 _ _ _ (Yfe _ _ _ _ _ _ L2) underlying91 rfl Zcu)) rfl ?_;exact⟨((BB.out.alloc BB.out.size _).setRowAt _ BB.out.size).setRowAt _ lr,Or.inl ⟨n',rfl,hn,by rw[Zaf _ hn];rfl⟩⟩
  ·rw[HX.out]at hy;cases hy
end Go.P
namespace Go.W
variable {l r:By}
theorem Z2o (f:ByteArray->ByteArray): ∀ (l:List (ByteArray×Bk)),cat f (l.map (·.1))=cat (fun y=>f y.1) l
 | []=>rfl
 | x::l=>by rw[List.map_cons,cat,cat,Z2o f l]
def Zxs (y:ByteArray×Bk):Prop:=Zdb (bl y.1)= .ok y.2/\y.1.size<=4000
theorem Zug {y:ByteArray×Bk}(h:Zks l= .ok (y,r)):l=bl (Zb4 y.1)++r/\Zxs y:=by
 obtain⟨n,s,h1,h2⟩:=Zb8 h;obtain⟨rfl,_⟩:=Zf2 _ _ _ h1;split at h2
 ·cases h2
 ·rename_i hn;obtain⟨t,s',h3,h4⟩:=Zb8 h2;obtain⟨rfl,rfl⟩:=Zk5 h3;cases hx:Zdb t with
  | error e=>simp only[Zp1,hx]at h4;cases h4
  | ok x=>
   simp only[Zp1,hx]at h4;cases h4;refine⟨?_,by rw[Zpn];exact hx,by rw[Zcx];omega⟩;unfold Zb4;rw[Zbq,Zpn,Zcx,Ydq]
theorem Z3r:Bwd Zks (fun y=>Zb4 y.1):=fun _ _ _ h=>(Zug h).1
theorem Zy1 {α:Type}{f:De α}{P:α->Prop}(hf: ∀ l x r,f l= .ok (x,r)->P x): ∀ (n:Nat) (l:By) (xs:List α) (r:By),Zh7 f n l= .ok (xs,r)-> ∀ x,x∈xs->P x
 | 0,l,xs,r,h=>by cases h;exact fun _ h=>by cases h
 | n+1,l,xs,r,h=>by
  obtain⟨x,s,h1,h2⟩:=Zb8 h;obtain⟨ys,h3,rfl⟩:=Zdl h2;intro z hz;rcases Ydj.1 hz with rfl | hz
  ·exact hf _ _ _ h1
  ·exact Zy1 hf n s ys r h3 z hz
theorem Z3u {α:Type}{f:De α}{P:α->Prop}{m:Nat}{xs:List α}(hf: ∀ l x r,f l= .ok (x,r)->P x)(h:Zbu m f l= .ok (xs,r)):xs.length<=m/\ ∀ x,x∈xs->P x:=by
 obtain⟨n,s,h1,h2⟩:=Zb8 h;split at h2
 ·cases h2
 ·refine⟨?_,Zy1 hf _ _ _ _ h2⟩
  have: ∀ (n:Nat) (l:By) (xs:List α) (r:By),Zh7 f n l= .ok (xs,r)->xs.length=n:=by
   intro n;induction n with
   | zero=>intro l xs r h;cases h;rfl
   | succ n ih=>
    intro l xs r h;obtain⟨x,s,h1,h2⟩:=Zb8 h;obtain⟨ys,h3,rfl⟩:=Zdl h2;simp[ih _ _ _ h3]
  rw[this _ _ _ _ h2];omega
theorem Zfz {ch:Ch}(h:Zb1 Zcf l= .ok ch):ba l=Zcc ch.sealed (ch.links.map (·.1)) ch.tag/\ch.tag.length=32/\ch.links≠[]/\ch.links.length<=8/\ ∀ y,y∈ch.links->Zxs y:=by
 unfold Zb1 at h;split at h
 ·cases h
 rename_i x r hx;split at h
 ·rename_i hr;cases h;subst hr;obtain⟨m,s1,h1,h2⟩:=Zb8 hx;obtain⟨rfl,hm⟩:=Zk5 h1;split at h2
  ·cases h2
  rename_i hmk;have hmk':m=Zcj:=by simpa using hmk
  subst hmk';obtain⟨b,s2,h3,h4⟩:=Zb8 h2;obtain⟨rfl,hb⟩:=Zg2 h3;unfold Znp at h4;split at h4
  ·cases h4
  rename_i hb1;obtain⟨ys,s3,h5,h6⟩:=Zb8 h4;have h7:=Z3u (P:=Zxs) (fun _ _ _ h=>(Zug h).2) h5;have h8:=Zej Z3r 8 _ _ _ h5;subst h8;unfold Zql at h6;split at h6
  ·cases h6
  rename_i hz;obtain⟨t,h9,rfl⟩:=Zdl h6;obtain⟨rfl,ht⟩:=Zk5 h9;refine⟨?_,ht,fun e=>hz (by have e':ys=[]:=e;rw[e'];rfl),h7.1,h7.2⟩;have hs:b1 (if(b==1)=true then 1 else 0)=b1 b:=by
   have:b=0\/b=1:=by omega
   rcases this with rfl | rfl <;> rfl
  show ba (Zcj++(bl (b1 b)++(bl (Zaz (fun y:ByteArray×Bk=>Zb4 y.1) ys)++(t++[]))))=Zcc (b==1) (ys.map (·.1)) t;unfold Zcc;rw[hs];have hcat:Zaz Zb4 (ys.map (·.1))=Zaz (fun y:ByteArray×Bk=>Zb4 y.1) ys:=by
   unfold Zaz;rw[Z2o,Yeo]
  rw[hcat,List.append_nil];rw[<- Zjw (((ba Zcj++b1 b)++Zaz (fun y:ByteArray×Bk=>Zb4 y.1) ys)++ba t),Zbq,Zbq,Zbq,Zpn,Zpn];simp only[Ydq]
 ·cases h
end Go.W
namespace Go.P
theorem Z4r (V:Zav)(CL:Zbh){a:Nat->Addr}{w:World}{l:By}(Z:Zao a w)(hl:l.length < 1000000000):
  Calls prog 19 #[.string (ba l)] w fun e w'=>((∃ n,Zo3 l= .error n/\n≠0/\e= .returned (.tuple #[.string ⟨#[]⟩,Zcm a n]))\/ ∃ ch,Zo3 l= .ok ch/\e= .returned (.tuple #[.string (Zcc true (ch.links.map (·.1)) (Zaj ⟨ch.tag.toArray⟩ [Zh4])),.nilIface]))/\Below w.heap.size w w':=by
 have C:=Zaa (Zml V CL Z hl);have ZZ:=Zaa Z;have HU:Box (∀ y,Zo3 l= .ok y->y.sealed=false/\Zb1 Zcf l= .ok y):=⟨fun y hy=>by
  unfold Zo3 at hy;split at hy
  ·cases hy
  ·rename_i x hx;split at hy
   ·cases hy
   ·rename_i hs;cases hy;exact⟨by simpa using hs,hx⟩⟩
 clear Z V CL;go_in
 go_wp2_with fail
 refine C.out.mono ?_;rintro e w1 ⟨hb1,⟨m,hy,hm,rfl⟩ | ⟨y,vs,F,hy,rfl,hQ,hN⟩⟩
 ·rw[Zaf _ hm];have B1:=Zaa hb1;have HY:=Zaa hy;clear hb1 hy C;have S1:=Blk.new w1 Zal 91;go_wp2_with (refine Yfa rfl 91 (.tmp 4) (.tmp 9) rfl w1.heap.size Zal rfl rfl 91 Zal S1 Zcu rfl (by kernel_rfl) ?_)
  go_ret2
  exact⟨.inl ⟨m,HY.out,hm,by rw[Zaf _ hm];rfl⟩,(B1.out.alloc B1.out.size _).setRowAt _ B1.out.size⟩
 have hs:=(HU.out y hy).1;have hg:=Zfz (HU.out y hy).2;have HY:=Zaa hy;obtain⟨v,rfl,htl,hrow⟩:=hQ;obtain⟨hT,hTF⟩:=Zag.texts hrow;obtain⟨p1,c1,hv1⟩:=Zag.form hrow;have hlen:(Lib.byteCells y.tag).length=32:=by rw[Lib.byteCells_length,htl]
 have ECV:Box ((Value.bool y.sealed::v::Lib.byteCells y.tag).toArray=Zap false v (Lib.byteCells y.tag)):=⟨by rw[hs];rfl⟩;rw[ECV.out];have S1:=Blk.new w1 Zal 91;have hin:=Zb0 false v hlen;have hone:(Zap false v (Lib.byteCells y.tag)).all (·.oneCell')=true:=by rw[hv1];exact Zd8 _ _ _ _ _
 have hsz:=Zbt false v hlen;have S2:=Yfe _ _ _ (Zap false v (Lib.byteCells y.tag)) _ _ S1;have B1:=Zaa hb1;have B2:=Zaa ((hb1.alloc hb1.size (.cells Zal 91)).setRowAt (g:=w1.heap.size) (Zap false v (Lib.byteCells y.tag)) hb1.size);have CS:=Zaa (Z7b (C:=w1.heap.size) (ZZ.out.below B2.out) (Ydc ZZ.out.size hb1.size) S2 htl);have HT:=Zaa (Yda hT (Yda hTF hN));have HG:=Zaa hg;clear hb1 hy hrow hT hTF hN C hg;obtain⟨CV,hCV⟩: ∃ CV,Box (Zap false v (Lib.byteCells y.tag)=CV):=⟨_,⟨rfl⟩⟩;rw[hCV.out]at hin hone hsz S2 B2 CS⊢;go_wp2_with (refine Yfa rfl 91 (.tmp 4) (.tmp 9) rfl w1.heap.size CV rfl rfl 91 Zal S1 hin (by rw[hsz];rfl) hone ?_)
 refine CS.out.mono ?_;rintro e w3 ⟨rfl,hb3,ho3,hC3⟩;have B3:=Zaa (B2.out.trans (hb3.mono B1.out.size));obtain⟨nt,hnt⟩: ∃ nt,Box (Zaj ⟨y.tag.toArray⟩ [Zh4]=nt):=⟨_,⟨rfl⟩⟩;have hTl:nt.length=32:=by rw[<- hnt.out];exact Zar _
 rw[hnt.out]at hC3;have hsW:((w1.alloc (.cells Zal 91)).setRow w1.heap.size CV).heap.size=w1.heap.size+1:=by rw[Yfd];simp
 have T3:Zag 108 4 Zgk w3 v (y.links.map (·.1)) v.ownBlock.toList:=Zag.stable Zgk.stable _ _ _ _ _ HT.out.1 fun j hj=>by
  have:=HT.out.2.2.lt j (HT.out.2.1 j hj)
  rw[ho3 j (by rw[hsW];omega) (by omega),Ye8 _ _ j _ (by omega)];exact Ydf _ _ _ this
 obtain⟨p5,c5,hv5,hrw5⟩:=Zag.links T3 (fun j hj=>by have:=HT.out.2.2.lt j (HT.out.2.1 j hj);have:=hb3.size;omega);have CW:=Zaa (Zo6 (S:=true) (c:=c5) lr hrw5 hTl (Ze0 true (by simpa using HG.out.2.2.2.1) (fun t ht=>by
  obtain⟨z,hz,rfl⟩:=List.mem_map.1 ht;exact(HG.out.2.2.2.2 z hz).2) hTl))
 rw[<- hv5]at CW;have hlT:(Lib.byteCells nt).length=32:=by rw[Lib.byteCells_length,hTl]
 have hin5:=Zb0 true v hlT;obtain⟨CV5,hCV5⟩: ∃ CV5,Box (Zap true v (Lib.byteCells nt)=CV5):=⟨_,⟨rfl⟩⟩;rw[hCV5.out]at hin5 hC3 CW;obtain⟨WB,hWB⟩: ∃ WB,Box (Zcc true (y.links.map (·.1)) nt=WB):=⟨_,⟨rfl⟩⟩;rw[hWB.out]at CW;clear hb3 ho3 T3 hrw5 hsW CS S2 S1 hin hone hsz;go_wp2_with (refine Yfh rfl 91 (.tmp 4) rfl w1.heap.size rfl 91 CV5 (0,0) _ hC3 underlying91 rfl hin5 ?_)
 refine mq CW.out ?_;rintro w9 hb9;have R9:=tr B3 hb9;clear CW hb9 hC3;go_wp2
 go_ret2
 exact⟨.inr ⟨y,HY.out,by rw[hnt.out,hWB.out];rfl⟩,R9.out⟩
end Go.P
namespace Go.P
def Zhl:Nat->List Bk->Int
 | _,[]=>0
 | n,x::xs=>if Zxv n x=0 then Zhl (n+1) xs else Zxv n x
def Zmq (l:By) (xs:List Bk):Except Int ByteArray:=match Zo3 l with
 | .error n=> .error n
 | .ok ch=>if Zhl ch.links.length xs=0 then .ok (Zcc false (ch.links.map (·.1)++xs.map Zcd) (Zhv ch.tag xs))else .error (Zhl ch.links.length xs)
def Z16 (w:World) (C:Nat) (ts:List ByteArray) (tag:List UInt8) (xs:List Bk) (iv:Value) (wr:World):Prop:= ∃ (k:Nat) (v:Value) (F:List Nat),k<=xs.length/\iv= .int .i64 (k:Int)/\Blk wr C (Zap false v (Lib.byteCells (Zhv tag (xs.take k)))) 91/\Zag 108 4 Zgk wr v (ts++(xs.take k).map Zcd) F/\Za7 w.heap.size wr F/\C∉F/\Below w.heap.size w wr/\ts.length+k<=8/\Zhl ts.length xs=Zhl (ts.length+k) (xs.drop k)
theorem Zro (V:Zav)(CL:Zbh){a:Nat->Addr}{B D:Nat}{w:World}{l:By}{p:Option Addr}{c:Nat}{xs:List Bk}(Z:Zao a w)(hl:l.length < 1000000000)(hB:B<=w.heap.size)(hrow:Zan 3 (Zbx B w (D+1)) p xs):
  Calls prog 21 #[.string (ba l),.slice p xs.length c] w fun e w'=>((∃ n,Zmq l xs= .error n/\n≠0/\e= .returned (.tuple #[.string ⟨#[]⟩,Zcm a n]))\/ ∃ t,Zmq l xs= .ok t/\e= .returned (.tuple #[.string t,.nilIface]))/\Below w.heap.size w w':=by
 have C:=Zaa (Zml V CL Z hl);have HU:Box (∀ y,Zo3 l= .ok y->y.sealed=false/\Zb1 Zcf l= .ok y):=⟨fun y hy=>by
  unfold Zo3 at hy;split at hy
  ·cases hy
  ·rename_i x hx;split at hy
   ·cases hy
   ·rename_i hs;cases hy;exact⟨by simpa using hs,hx⟩⟩
 have ZZ:=Zaa Z;have HR:=Zaa hrow;have HV:=Zaa V;clear Z V CL hrow;go_in
 go_wp2_with fail
 refine C.out.mono ?_;rintro e w1 ⟨hb1,⟨m,hy,hm,rfl⟩ | ⟨y,vs,F,hy,rfl,hQ,hN⟩⟩
 ·rw[Zaf _ hm];have B1:=Zaa hb1;have HY:=Zaa hy;clear hb1 hy C;have S1:=Blk.new w1 Zal 91;go_wp2_with (refine Yfa rfl 91 (.tmp 6) (.tmp 14) rfl w1.heap.size Zal rfl rfl 91 Zal S1 Zcu rfl (by kernel_rfl) ?_)
  go_ret2
  exact⟨.inl ⟨m,by unfold Zmq;rw[HY.out],hm,by rw[Zaf _ hm];rfl⟩,(B1.out.alloc B1.out.size _).setRowAt _ B1.out.size⟩
 have HSd:=Zaa (HU.out y hy).1;have hg:=Zfz (HU.out y hy).2;have hn0:=hg.2.2.2.1;have hts: ∀ z,z∈y.links->z.1.size<=4000:=fun z hz=>(hg.2.2.2.2 z hz).2;have EY:Box (Zmq l xs=if Zhl y.links.length xs=0 then .ok (Zcc false (y.links.map (·.1)++xs.map Zcd) (Zhv y.tag xs))else .error (Zhl y.links.length xs)):=⟨by unfold Zmq;rw[hy]⟩;obtain⟨WB,hWB⟩: ∃ WB,Box (Zcc false (y.links.map (·.1)++xs.map Zcd) (Zhv y.tag xs)=WB):=⟨_,⟨rfl⟩⟩;rw[hWB.out]at EY;clear hg HU;obtain⟨v,rfl,htl,hrow⟩:=hQ;obtain⟨hT,hTF⟩:=Zag.texts hrow;have hvf:=Zag.form hrow;obtain⟨p1,c1,hv1⟩:=hvf;have hlen:(Lib.byteCells y.tag).length=32:=by rw[Lib.byteCells_length,htl]
 have ECV:Box ((Value.bool y.sealed::v::Lib.byteCells y.tag).toArray=Zap false v (Lib.byteCells y.tag)):=⟨by rw[HSd.out];rfl⟩;rw[ECV.out];have S1:=Blk.new w1 Zal 91;have hin:=Zb0 false v hlen;have hone:(Zap false v (Lib.byteCells y.tag)).all (·.oneCell')=true:=by rw[hv1];exact Zd8 _ _ _ _ _
 have hsz:=Zbt false v hlen;have NT:Box (Za7 w.heap.size w1 v.ownBlock.toList):=⟨⟨by cases v.ownBlock <;> simp,fun k hk=>hN.ge k (hTF k hk),fun k hk=>hN.lt k (hTF k hk)⟩⟩;have HT:=Zaa hT;have B1:=Zaa hb1;clear hb1 hy hrow hT hTF hN C;obtain⟨CV,hCV⟩: ∃ CV,Box (Zap false v (Lib.byteCells y.tag)=CV):=⟨_,⟨rfl⟩⟩;rw[hCV.out]at hin hone hsz⊢;obtain⟨n,hnx⟩: ∃ n,Box (xs.length=n):=⟨_,⟨rfl⟩⟩;rw[hnx.out];go_wp2_with (refine Yfa rfl 91 (.tmp 6) (.tmp 14) rfl w1.heap.size CV rfl rfl 91 Zal S1 hin (by rw[hsz];rfl) hone ?_)
 obtain⟨W2,hW2⟩: ∃ W,(w1.alloc (.cells Zal 91)).setRow w1.heap.size CV=W:=⟨_,rfl⟩;change Code.wp _ _ _ _ ((w1.alloc (.cells Zal 91)).setRow w1.heap.size CV);have I0:Box (Z16 w w1.heap.size (y.links.map (·.1)) y.tag xs (.int .i64 ((0:Nat):Int)) W2):=⟨0,v,v.ownBlock.toList,Yej _,rfl,by rw[<- hW2,<- hCV.out];exact Yfe _ _ _ _ _ _ S1,by
   rw[<- hW2]
   have:=Zag.stable Zgk.stable _ ((w1.alloc (.cells Zal 91)).setRow w1.heap.size CV) _ _ _ HT.out (fun j hj=>by
    have:=NT.out.lt j hj
    rw[Ye8 _ _ j _ (by omega)];exact Ydf _ _ _ this)
   simpa using this,by rw[<- hW2];exact NT.out.later lr (by rw[Yfd];simp),fun h=>by have:=NT.out.lt _ h;omega,by rw[<- hW2];exact(B1.out.alloc B1.out.size _).setRowAt _ B1.out.size,by simpa using hn0,by simp⟩
 rw[hW2];have hCw:w.heap.size<=w1.heap.size:=B1.out.size;clear hW2 S1 hin hone hsz HT NT;generalize w1.heap.size=C at*;generalize Value.agg CV=vCV at*;go_loopw [21] (fun iv wr=>Z16 w C (y.links.map (·.1)) y.tag xs iv wr) (fun iv _=>xs.length - (intOf iv).toNat)
 case atStart=>exact I0.out
 case round=>
  clear I0;obtain⟨k,v',F',hk,rfl,hCb,hRw,hNw,hCF,hbw,hk8,hadd⟩:=hrel;by_cases hlt:k < n
  ·have g:(k:Int) < (n:Int):=by omega
   have hk':k < xs.length:=by have:=hnx.out;omega
   obtain⟨b1,o1,rfl,hxa⟩:=HR.out.get k hk';have hm:xs[k]∈xs:=Yel hk';have hxk:xs[k]?=some xs[k]:=Ydi hk';obtain⟨hb1,q1,k1,q2,k2,q3,k3,z0,z1,z2,hS⟩:=(Zbx.carry (Go.W.Below.carry (hbw.mono hB) lr) lr hxa).vals;have hZ:=ZZ.out.belowN hbw ZZ.out.size;have htk:=Zfa htl (xs.take k);have hlk:(y.links.map (·.1)++(xs.take k).map Zcd).length=y.links.length+k:=by simp;omega
   have hl8:(y.links.map (·.1)++(xs.take k).map Zcd).length<=8:=by rw[hlk];simpa using hk8
   have hdr:xs.drop k=xs[k]::xs.drop (k+1):=List.drop_eq_getElem_cons hk';have HAD:Box (Zhl y.links.length xs=if Zxv (y.links.length+k) xs[k]=0 then Zhl (y.links.length+(k+1)) (xs.drop (k+1))else Zxv (y.links.length+k) xs[k]):=⟨by
    have:=hadd
    rw[hdr,Zhl,Yeo]at this;rw[this];rfl⟩
   have CA:=Zaa (fun o=>Z8s HV.out (D:=D) (w:=wr.alloc o) (hZ.below ((Ydb _ wr).alloc lr o)) hB ZZ.out.size hCw (hCb.alloc o) htk (Zag.stable Zgk.stable _ _ _ _ _ hRw fun j hj=>Ydf _ _ _ (hNw.lt j hj)) (hNw.later lr (by simp)) hCF (Zbd.carry hS (Zfj o (Ydc hB hbw.size))) hl8);have HB:=Zaa hbw;have ETG:=Zaa (Z1l (tag:=y.tag) hxk);have EXS:Box ((xs.take (k+1)).map Zcd=(xs.take k).map Zcd++[Zcd xs[k]]):=⟨by rw[Yes,hxk,List.map_append];rfl⟩;rw[hlk]at CA;clear hCb hRw hNw hCF hbw hxa hS hZ hm hxk hl8 hadd hdr hlk;generalize xs[k]=x at*;go_wp2_with fail
   refine(CA.out _).mono ?_;rintro e w5 ⟨rfl,hb5,h5⟩;by_cases h0:Zxv (y.links.length+k) x=0
   case neg=>
    have HB5:=Zaa ((HB.out.alloc HB.out.size _).trans hb5);have EE:Box (Zmq l xs= .error (Zxv (y.links.length+k) x)):=⟨by rw[EY.out,if_neg (by rw[HAD.out,if_neg h0];exact h0),HAD.out,if_neg h0]⟩;rw[Zaf _ h0];clear hb5 h5 CA;go_wp2
    go_ret2
    exact⟨.inl ⟨_,EE.out,h0,by rw[Zaf _ h0];rfl⟩,HB5.out⟩
   have E0:Box (Zxv (y.links.length+k) x=0):=⟨h0⟩;obtain⟨v5,F5,hC5,hR5,hN5,hCF5⟩:=h5 E0.out;rw[E0.out,Za0];have HB5:=Zaa ((HB.out.alloc HB.out.size _).trans hb5);have H5:=Zaa (Yda hC5 (Yda hR5 (Yda hN5 hCF5)));clear hb5 h5 hC5 hR5 hN5 hCF5 CA;go_wp2_with fail
   refine⟨⟨k+1,v5,F5,by have:=hnx.out;omega,by simp,?_,?_,H5.out.2.2.1,H5.out.2.2.2,HB5.out,?_,?_⟩,by simp[intOf];have:=hnx.out;omega⟩
   ·rw[ETG.out];exact H5.out.1
   ·rw[EXS.out,<- Ydq];exact H5.out.2.1
   ·have: ¬ y.links.length+k=8:=fun h=>by
     have:=E0.out
     rw[Zxv,if_pos h]at this;cases this
    simp at hk8⊢;omega
   ·rw[Yeo,HAD.out,if_pos E0.out]
  ·obtain rfl:k=n:=by have:=hnx.out;omega
   have EE:Box (Zmq l xs= .ok WB):=⟨by rw[EY.out,if_pos (by have h:=hadd;rw[Yeo]at h;rw[h,<- hnx.out,List.drop_length];rfl)]⟩;have hn8:y.links.length+xs.length<=8:=by have:=hnx.out;simp at hk8;omega
   rw[<- hnx.out,Yek]at hCb hRw;have hTl:=Zfa htl xs;have hlT:(Lib.byteCells (Zhv y.tag xs)).length=32:=by rw[Lib.byteCells_length,hTl]
   obtain⟨p5,c5,hv5,hrw5⟩:=Zag.links hRw (fun j hj=>hNw.lt j hj);have CW:=Zaa (Zo6 (S:=false) (c:=c5) lr hrw5 hTl (Ze0 false (by simp;omega) (fun t ht=>by
    rcases Ydk.1 ht with ht | ht
    ·obtain⟨z,hz,rfl⟩:=List.mem_map.1 ht;exact hts z hz
    ·obtain⟨z,hz,rfl⟩:=List.mem_map.1 ht;exact Zc7 z) hTl))
   rw[<- hv5]at CW;rw[hWB.out]at CW;have hin5:=Zb0 false v' hlT;obtain⟨CV5,hCV5⟩: ∃ CV5,Box (Zap false v' (Lib.byteCells (Zhv y.tag xs))=CV5):=⟨_,⟨rfl⟩⟩;rw[hCV5.out]at hin5 hCb CW;have HB:=Zaa hbw;clear hRw hNw hCF hbw hrw5;go_wp2_with (refine Yfh rfl 91 (.tmp 6) rfl C rfl 91 CV5 (0,0) _ hCb underlying91 rfl hin5 ?_)
   refine mq CW.out ?_;rintro w9 hb9;have R9:=tr HB hb9;clear CW hb9 hCb;go_wp2
   go_ret2
   exact⟨.inr ⟨_,EE.out,rfl⟩,R9.out⟩
end Go.P
namespace Go.W
variable {l:By}{n:Int}
theorem Z3q:Zm9 Zks:=Zdh Zf1 fun _=>Zll (Zl5 r4) (Zdh (Zk4 _) fun t l e h=>by
 cases hx:Zdb t with
 | error n=>simp only[Zp1,hx]at h;cases h;exact Zz9 hx
 | ok x=>simp only[Zp1,hx]at h;cases h)
theorem Zzw:Zm9 Zcf:=Zdh (Zk4 4) fun _=>Zll (Zl5 r7) (Zdh Zg1 fun _=>Zll (Zl5 r7) (Zdh (Zei 8 Z3q) fun _=>Zll (Zl5 r7) (Zfy (Zk4 32))))
theorem Ztj (h:Zb1 Zcf l= .error n):Rsn n:=by
 unfold Zb1 at h;split at h
 ·rename_i h';cases h;exact Zzw _ _ h'
 ·split at h <;> cases h
  exact r7
def Ten (n:Int):Prop:=1<=n/\n<=10
theorem Rsn.ten (h:Rsn n):Ten n:=⟨h.1,by have:=h.2;omega⟩
theorem Z5f (h:Zo3 l= .error n):Ten n:=by
 unfold Zo3 at h;split at h
 ·rename_i hx;cases h;exact(Ztj hx).ten
 ·split at h <;> cases h
  exact⟨by decide,by decide⟩
end Go.W
namespace Go.P
variable {n:Int}
theorem Zxx: ∀ (xs:List Bk) (n:Nat),Wr (Zhl n xs)
 | [],_=>wr0
 | x::xs,n=>Zd1 (Zxx xs (n+1)) (Zd1 (.inr r4) (Zd1 (Zjd x) (Zd1 (.inr r4) wr0)))
theorem Z8v {l:By}{xs:List Bk}(h:Zmq l xs= .error n):Ten n:=by
 unfold Zmq at h;split at h
 ·rename_i hx;cases h;exact Z5f hx
 ·split at h
  ·cases h
  ·rename_i ch _ hne;cases h;rcases Zxx xs ch.links.length with h | h
   ·exact absurd h hne
   ·exact h.ten
theorem Zxg {a:Nat->Addr}{w:World}(Z:Zao a w)(E:Zjs a w)(h:Ten n):Calls prog 20 #[Zcm a n] w fun e w'=>e= .returned (.tuple #[.int .i64 n,.int .i64 (-1)])/\Below w.heap.size w w':=by
 obtain⟨k,rfl,hk⟩: ∃ k:Nat,n=(k:Int)+1/\k < 10:=⟨(n - 1).toNat,by have:=h.1;omega,by have:=h.2;have:=h.1;omega⟩;rw[Zx8];exact Zmg Z E k hk
end Go.P
namespace Go.P
variable {a:Nat->Addr}{w:World}{key:ByteArray}{l:By}
theorem Z1u {t:ByteArray}(Z:Zao a w)(hks:key.size < 1000000000)(hk:Zjh key=false):Calls prog 22 #[.string key,.string t] w fun e w'=>e= .returned (.tuple #[.slice none 0 0,.slice none 0 0,Zcm a 8])/\Below w.heap.size w w':=by
 have CK:=Zaa (fun u=>Ziu key hks u);have ce:=Z.c8;rw[Zaf _ (by decide)]at ce⊢;clear Z;go_in
 go_wp2_with fail
 refine(CK.out _).mono ?_;rintro e w1 ⟨rfl,rfl⟩;rw[hk];go_wp2
 go_quiet (fail)
 go_wp2
 go_ret3
 exact⟨rfl,(Ydb _ _).drewK _⟩
theorem Z1t (V:Zav)(CL:Zbh){n:Int}(Z:Zao a w)(hk:Zjh key=true)(hl:l.length < 1000000000)(hch:Zb1 Zcf l= .error n):Calls prog 22 #[.string key,.string (ba l)] w fun e w'=>n≠0/\e= .returned (.tuple #[.slice none 0 0,.slice none 0 0,Zcm a n])/\Below w.heap.size w w':=by
 have hks:key.size < 1000000000:=by unfold Zjh at hk;simp at hk;omega
 have CK:=Zaa (fun u=>Ziu key hks u);have C:=Zaa (Zfs V CL Z hl);have HE:=Zaa hch;clear Z V CL hch;go_in
 go_wp2_with fail
 refine(CK.out _).mono ?_;rintro e w1 ⟨rfl,rfl⟩;rw[hk];go_wp2_with fail
 refine C.out.mono ?_;rintro e w2 ⟨hb2,⟨m,hy,hm,rfl⟩ | ⟨y,vs,F,hy,rfl,hQ,hN⟩⟩
 ·obtain rfl:m=n:=by rw[HE.out]at hy;exact(Except.error.inj hy).symm
  have S1:=Blk.new w2 Zal 91;have B2:=Zaa hb2;rw[Zaf _ hm];clear hb2 hy C CK;go_wp2_with (refine Yfa rfl 91 (.tmp 7) (.tmp 21) rfl w2.heap.size Zal rfl rfl 91 Zal S1 Zcu rfl (by kernel_rfl) ?_)
  go_ret3
  exact⟨hm,by rw[Zaf _ hm];rfl,(B2.out.alloc B2.out.size _).setRowAt _ B2.out.size⟩
 ·rw[HE.out]at hy;cases hy
theorem Z1v (V:Zav)(CL:Zbh){ch:Ch}{y0:ByteArray×Bk}{ys:List (ByteArray×Bk)}(Z:Zao a w)(hk:Zjh key=true)(hl:l.length < 1000000000)(hch:Zb1 Zcf l= .ok ch){S:Bool}(hs:ch.sealed=S)(hls:ch.links=y0::ys)(hn:ys.length < 8)(htag:ch.tag≠Zp0 S (Zk2 (Zaj key [y0.1]) (ys.map (·.1)))):
  Calls prog 22 #[.string key,.string (ba l)] w fun e w'=>e= .returned (.tuple #[.slice none 0 0,.slice none 0 0,Zcm a 10])/\Below w.heap.size w w':=by
 obtain⟨T0,hT0⟩: ∃ T0,Box (Zaj key [y0.1]=T0):=⟨_,⟨rfl⟩⟩;rw[hT0.out]at htag;have hks:key.size < 1000000000:=by unfold Zjh at hk;simp at hk;omega
 have CK:=Zaa (fun u=>Ziu key hks u);have C:=Zaa (Zfs V CL Z hl);have HE:=Zaa (Yda hch (Yda hs (Yda hls htag)));clear hch hs hls htag;have ZZ:=Zaa Z;clear Z V CL;go_in
 go_wp2_with fail
 refine(CK.out _).mono ?_;rintro e w1 ⟨rfl,rfl⟩;rw[hk];go_wp2_with fail
 refine C.out.mono ?_;rintro e w2 ⟨hb2,⟨m,hy,hm,rfl⟩ | ⟨y,vs,F,hy,rfl,hQ,hN⟩⟩
 ·rw[HE.out.1]at hy;cases hy
 obtain rfl:y=ch:=by rw[HE.out.1]at hy;exact(Except.ok.inj hy).symm
 obtain⟨v,rfl,htl,hrow⟩:=hQ;obtain⟨p1,c1,rfl,hcap,hLB⟩:=Zyl hrow (fun k hk=>hN.lt k hk);have hlen:(Lib.byteCells y.tag).length=32:=by rw[Lib.byteCells_length,htl]
 have hll:y.links.length=ys.length+1:=by rw[HE.out.2.2.1];rfl
 rw[hll]at hcap⊢;have ECV:Box ((Value.bool y.sealed::Value.slice p1 (ys.length+1) c1::Lib.byteCells y.tag).toArray=Zap S (.slice p1 (ys.length+1) c1) (Lib.byteCells y.tag)):=⟨by rw[HE.out.2.1];rfl⟩;rw[ECV.out];have S1:=Blk.new w2 Zal 91;have hin:=Zb0 S (.slice p1 (ys.length+1) c1) hlen;have hone:=Zd8 S p1 (ys.length+1) c1 y.tag;have hsz:=Zbt S (.slice p1 (ys.length+1) c1) hlen;obtain⟨CV,hCV⟩: ∃ CV,Box (Zap S (.slice p1 (ys.length+1) c1) (Lib.byteCells y.tag)=CV):=⟨_,⟨rfl⟩⟩;rw[hCV.out]at hin hone hsz⊢;have S2:=Yfe _ _ _ CV _ _ S1;have B3:Below w2.heap.size w2 ((w2.alloc (.cells Zal 91)).setRow w2.heap.size CV):=((Ydb _ w2).alloc lr _).setRowAt _ lr;rw[HE.out.2.2.1]at hLB;have CT:=Zaa (Zzc (S:=S) (tag:=y.tag) (c:=c1) (key:=key) (t0:=y0.1) (ts:=ys.map (·.1)) ((ZZ.out.below hb2).below B3) hks B3.size (Zqx hLB B3) (by simp;omega) (by simpa using hcap));rw[Yeo,hCV.out,hT0.out]at CT;have HTL:=Zaa htl;clear C CK hy hrow hN hlen hsz hll ECV htl;go_wp2_with (first
  | (refine Yfa rfl 91 (.tmp 7) (.tmp 21) rfl w2.heap.size CV rfl rfl 91 Zal S1 hin (by rw[<- hCV.out,Zbt _ _ (by rw[Lib.byteCells_length,HTL.out])];rfl) hone ?_)
  | (refine Yfh rfl 91 (.tmp 7) rfl w2.heap.size rfl 91 CV (0,0) _ S2 underlying91 rfl hin ?_))
 refine CT.out.mono ?_;rintro e w4 ⟨v4,F4,rfl,hR4,hN4,hb4⟩;obtain⟨TL,hTL⟩: ∃ TL,Box (T0::Zf4 T0 (ys.map (·.1))=TL):=⟨_,⟨rfl⟩⟩;have hTLl:TL.length=ys.length+1:=by rw[<- hTL.out,Ydp,Zdq,Yeo]
 obtain⟨tgk,htk0⟩: ∃ tgk,Box (Zk2 T0 (ys.map (·.1))=tgk):=⟨_,⟨rfl⟩⟩;have htkl0:tgk.length=32:=by rw[<- htk0.out];exact Zhu (by rw[<- hT0.out];exact Zar _) _
 have HET:Box (y.tag≠Zp0 S tgk):=⟨by rw[<- htk0.out];exact HE.out.2.2.2⟩;have hlast:TL[ys.length]?=some tgk:=by
  have:=Zrd T0 (ys.map (·.1))
  rw[hTL.out,Yeo,htk0.out]at this;exact this
 rw[hTL.out]at hR4;obtain⟨p4,c4,rfl,hcap4,hSR⟩:=Z44 hR4 (fun k hk=>hN4.lt k hk);obtain⟨R,o4,rfl,hRl,_,hrg⟩:=hSR.at_ ys.length _ hlast;rw[hTLl]at hcap4⊢;have B4:=Zaa (B3.trans (hb4.mono B3.size));have C4:=Blk.of S2 (hb4.block _ (Blk.lt S2));obtain⟨n,hnn⟩: ∃ n,Box (ys.length=n):=⟨_,⟨rfl⟩⟩;rw[hnn.out]at hcap4 hrg⊢;obtain⟨YT,hYT⟩: ∃ YT,Box (Lib.byteCells tgk=YT):=⟨_,⟨rfl⟩⟩;have hYl:YT.length=32:=by rw[<- hYT.out,Lib.byteCells_length,htkl0]
 rw[hYT.out]at hrg;have HSR:=Zaa hSR;have HLB:=Zaa hLB;have HL2:=Zaa (Yda hTLl hlast);clear hLB hTLl hlast hcap;clear S1 S2 B3 hb4 CT hSR hR4;go_wp2_with fail
 have hn8:n < 8:=by have:=hnn.out;omega
 have hw4:IntKind.i64.wrap (n:Int)=(n:Int):=by rw[IntKind.wrap_i64];omega
 have hw1:wrap64 ((n:Int)+1 - 1)=(n:Int):=by unfold wrap64;omega
 have hw2:wrap64 (n:Int)=(n:Int):=by unfold wrap64;omega
 have hw3:(n:Int) < (n:Int)+1:=by omega
 refine Yfl (S:=fun u=>Blk u w2.heap.size CV 91/\u.rangeAt R (o4+n*32) (YT)) (by kernel_rfl) ?_;change wpAnyH _ _ _ _ _ _ _ _ (World.drew _);have hS0:Blk w4.drew w2.heap.size CV 91/\w4.drew.rangeAt R (o4+n*32) (YT):=⟨C4,hrg⟩;refine wpAnyH_take (i:=0) (oi:={dst:=some 29,op:= .load 91 (.tmp 7),type:=91,pos:= "warrant.go:226",after:=#[],guard:=none}) (v:= .agg CV) rfl (by kernel_rfl) (by kernel_rfl) (by kernel_rfl) (fun _ _ _ h=>h) (Zfr rfl 91 (.tmp 7) rfl ⟨w2.heap.size,0,none⟩ rfl fun u hS=>Yfk u w2.heap.size 91 91 _ _ _ hS.1 underlying91 rfl hin) hS0 ?_;simp only[zz];refine tk 1 (.slice (some ⟨R,o4,none⟩) (n+1) c4) hS0 ?_;simp only[zz];refine tk 2 (.slice (some ⟨R,o4,none⟩) (n+1) c4) hS0 ?_;simp only[zz];refine tk 3 (.int .i64 ((n:Int)+1)) hS0 ?_;simp only[zz];refine tk 4 (.int .i64 (n:Int)) hS0 ?_;simp only[zz];refine tk 5 (.pointer (some ⟨R,o4+n*32,none⟩)) hS0 ?_;simp only[zz];refine wpAnyH_take (i:=6) (oi:={dst:=some 35,op:= .load 89 (.tmp 34),type:=89,pos:= "warrant.go:226",after:=#[{on:=5,ground:=Ground.data}],guard:=none}) (v:= .agg (YT).toArray) rfl (by kernel_rfl) (by kernel_rfl) (by kernel_rfl) (fun _ _ _ h=>h) (yieldsIf_load_mid (by simp[Region.wanted]) 89 (.tmp 34) rfl R (o4+n*32) rfl (YT) _ (fun u hS=>hS.2) underlying89 rfl (by rw[hYl];kernel_rfl)) hS0 ?_;simp only[zz];refine Yfc (rs:=[7]) (by kernel_rfl) (by simp) (Ydr rfl (fun K' hK'=>?_) Ydu);go_simp;have CE':=Zx7 (S:=S) (w:=w4.drew) (v:= .slice p1 (ys.length+1) c1) (tag:=y.tag) (last:=tgk) (((ZZ.out.below hb2).below B4.out).below ((Ydb _ w4).drew)) HTL.out htkl0;rw[hCV.out,Yfg HET.out]at CE';unfold Zk0 at CE';rw[hYT.out]at CE';refine mq CE' ?_;rintro w5 hb5;have B5:=Zaa (B4.out.trans (Below.mono (B:=w4.drew.heap.size) ⟨hb5.os,hb5.tape,hb5.output,hb5.size,hb5.block⟩ B4.out.size));have B45:Box (Below w4.heap.size w4 w5):=⟨⟨hb5.os,hb5.tape,hb5.output,hb5.size,hb5.block⟩⟩;refine hK'.out _ _ ⟨C4.of (hb5.block _ (Blk.lt C4)),fun j u hj=>(hb5.cell (p:=⟨R,o4+n*32+j,none⟩) hRl).trans (hrg j u hj)⟩ fun hS5=>?_;clear hK' K' CE' hS0;refine tk 8 (.bool true) hS5 ?_;simp only[zz];refine Yfi (by kernel_rfl) ?_ _;have ce:=(((ZZ.out.below hb2).below B5.out)).c10;rw[Zaf _ (by decide)]at ce;clear hS5 C4;go_wp2
 go_quiet (fail)
 go_wp2
 go_ret3
 exact⟨by rw[Zaf _ (by decide)];rfl,(hb2.trans (B5.out.mono hb2.size)).drewK _⟩
end Go.P
