import Derived.Test.YtmebjfclpalmaaaGreatDoorW39
set_option maxRecDepth 100000
set_option maxHeartbeats 8000000
set_option linter.unusedSimpArgs false
open Go.Proofs Go.RowKit Go.W Tryz
namespace Go.P
variable {w u:World}{key:ByteArray}
def Z5t (w:World) (n:Nat) (iv:Value) (wr:World):Prop:= ∃ k:Nat,k<=n/\iv= .int .i64 (k:Int)/\Below w.heap.size w wr
structure Tok (key:ByteArray) (x:Bk) (xs:List Bk) (t:ByteArray):Prop where
 g: ∃ S,Zs6 key (bl t) S (lk x) (xs.map lk)
 l:(bl t).length < 1000000000
 p:0 < t.size
theorem Chs.at {L:Nat}{pb:Option Addr}{nb cb:Nat}{py:Option Addr}{ny cy:Nat}{pd:Option Addr}{nd cd:Nat}{bs:List Bk}{ys:List ByteArray}{ds:List (Int×Int×ByteArray)}(h:Chs L w pb nb cb key py ny cy pd nd cd bs ys ds)(hu:Below w.heap.size w u):u.cell? ⟨L,0,none⟩=some (.slice pb nb cb)/\u.cell? ⟨L,2,none⟩=some (.string key)/\u.cell? ⟨L,4,none⟩=some (.slice py ny cy)/\u.cell? ⟨L,6,none⟩=some (.slice pd nd cd):=
 ⟨Zab h.b0 hu,Zab h.k0 hu,Zab h.y0 hu,Zab h.d0 hu⟩
theorem Z5u.only {l:By}{v1 v2:Value}{n:Int}{S:Bool}{x:Bk}{xs:List Bk}(h:Z5u key l w v1 v2 n u)(g:Zs6 key l S (lk x) (xs.map lk)):n=0/\ ∃ p1 c1,v1= .slice p1 (xs.length+1) c1/\Zan 3 (Zbx u.heap.size u 4) p1 (x::xs):=by
 rcases h.got with⟨_,_,_,hn⟩ | ⟨h0,S',y0,ys,p1,c1,p2,c2,g',h1,h2,_,rb,ry⟩
 ·exact absurd g (hn _ _ _)
 ·obtain⟨rfl,rfl,rfl⟩:=g.only g';refine⟨h0,p1,c1,by rw[h1,Yeo],?_⟩;rw[List.map_cons,List.map_map,show(Prod.snd∘lk)=id from rfl,List.map_id]at rb;exact rb
theorem Zzx {a:Nat->Addr}{p:Option Addr}{c:Nat}{zs:List (Int×Int×ByteArray)}(V:Zav)(CL:Zbh)(h:Z5o w p zs)(hl:zs.length < 140737488355328)(Z:Zao a w)(E:Zjs a w):Calls prog 3 #[.slice p zs.length c] w fun e w'=>e= .returned (.bool true)/\Below w.heap.size w w':=by
 have CT:=Zaa (Z7p (c:=c) h hl Z E);have CA:=Zaa (fun u (hu:Below w.heap.size w u)=>Z2c V CL (Z.below hu) (E.below hu));have CN:=Zaa (fun u (hu:Below w.heap.size w u) {L pb nb cb key bs}=>Z0w (L:=L) (pb:=pb) (nb:=nb) (cb:=cb) (key:=key) (bs:=bs) V CL (Z.below hu) (E.below hu));have CS:=Zaa (fun u (hu:Below w.heap.size w u) (l:By) (hl:l.length < 1000000000)=>Z4f V CL (Z.below hu) (E.below hu) hl);have CU:=Zaa (fun u (hu:Below w.heap.size w u) (l:By) (hl:l.length < 1000000000)=>Zsh (c:=0) (D:=3) (p:=none) (xs:=[]) V CL (Z.below hu) (E.below hu) hl lr Zmj);have CV:=Zaa (fun u (hu:Below w.heap.size w u) (key:ByteArray) (hk:key.size < 1000000000) (l:By) (hl:l.length < 1000000000)=>Zol V CL (Z.below hu) (E.below hu) hk hl);have CH:=Zaa (fun u (hu:Below w.heap.size w u) (key:ByteArray) (hk:key.size < 1000000000) (l:By) (hl:l.length < 1000000000)=>Z0m V CL (Z.below hu) (E.below hu) hk hl);clear h Z E V CL;go_in
 go_wp2_with fail
 refine CT.out.mono ?_;rintro e w1 (⟨rfl,rfl⟩ | ⟨rfl,hk,hn,hb1⟩)
 ·clear CT CA CN CS CU CV CH;go_wp2
  go_ret
  exact⟨rfl,Ydb _ _⟩
 have B1:=Zaa hb1;have HK:=Zaa (Yda hk hn);clear hk hn hb1 CT;go_wp2_with fail
 refine(CA.out _ B1.out).mono ?_;rintro e w2 ⟨rfl,hb2⟩;obtain⟨pb,nb,cb,key,py,ny,cy,pd,nd,cd,bs,ys,ds,hw⟩:=HK.out.1.chs HK.out.2 hb2;have B2:=tr B1 hb2;have HW:=Zaa hw;have CX:=Zaa (CN.out w2 B2.out hw.b0 hw.k0 hw.eb hw.lb hw.hb hw.rb hw.gk);clear hw hb2 HK CA CN B1;go_wp2_with fail
 refine CX.out.mono ?_;rintro e w3 ⟨⟨_,rfl⟩ | ⟨x,xs,rfl,rfl⟩,hb3⟩
 ·have B3:=tr B2 hb3;clear CX CS CU CV CH HW hb3;go_wp2
  go_ret
  exact⟨rfl,B3.out⟩
 have B3:=Zaa hb3;clear hb3 CX;by_cases hT:Zg9 key x=0/\Zs1 (Zof key x xs)=0
 rotate_left
 ·rw[Yfg hT];generalize Zff key x=t1 at*;generalize Zyu (Zof key x xs)=t2 at*;clear CS CU CV CH HW;go_wp2
  go_ret
  exact⟨rfl,B2.out.trans (B3.out.mono B2.out.size)⟩
 rw[Yfj hT];obtain⟨u,s,tk⟩:=Yc9 hT.1 hT.2 fun y hy=>by
  obtain⟨i,hi,rfl⟩:=List.getElem_of_mem hy;obtain⟨b,o,_,hx⟩:=HW.out.rb.get i hi;obtain⟨_,p1,c1,p2,c2,p3,c3,_,_,_,hS⟩:=hx.vals;exact hS.inBk (by omega)
 rw[tk.ue];have TK:=Zaa tk;generalize Zff key x=t1 at*;clear hT;have C1:=Zaa (CS.out w3 (tr B2 B3.out).out (bl u) tk.ul);have C2:=Zaa (fun v (hv:Below w2.heap.size w2 v)=>CU.out v (tr B2 hv).out (bl s) tk.sl);have C3:=Zaa (fun v (hv:Below w2.heap.size w2 v)=>CS.out v (tr B2 hv).out (bl s) tk.sl);rw[tk.se,Zjw]at C1;rw[tk.sa,Zjw]at C2;rw[tk.ss,Zjw]at C3;clear CS CU tk;go_wp2_with fail
 refine mq C1.out ?_;rintro w4 hb4;have B4:=tr B3 hb4;clear hb4 C1 B3;rw[show Zyu (.ok s)=s from rfl,show Zs1 (.ok s)=0 from rfl];go_wp2_with fail
 refine(C2.out _ B4.out).mono ?_;rintro e w5 ⟨rfl,hb5⟩;have B5:=tr B4 hb5;clear hb5 C2 B4;rw[show Zyu (.error 9)=⟨#[]⟩from rfl,show Zs1 (.error 9)=9 from rfl];go_wp2_with fail
 refine(C3.out _ B5.out).mono ?_;rintro e w6 ⟨rfl,hb6⟩;have B6:=tr B5 hb6;clear hb6 C3 B5;rw[show Zyu (.error 9)=⟨#[]⟩from rfl,show Zs1 (.error 9)=9 from rfl];go_wp2_with fail
 have M:=Blk.new w6 #[.string u,.string s] 9;have B7:=Zaa (B6.out.alloc B6.out.size (.cells #[.string u,.string s] 9));have hm7:w6.heap.size < (w6.alloc (.cells #[.string u,.string s] 9)).heap.size:=M.lt;have m0:_=some (Value.string u):=M.cell 0;have m1:_=some (Value.string s):=M.cell 1;generalize w6.alloc (.cells #[.string u,.string s] 9)=W at*;clear M B6;generalize w6.heap.size=q at*;have hgk:key.size < 1000000000:=by have:=HW.out.gk;omega
 have hnb:xs.length+1=nb:=HW.out.eb;have hlb:=HW.out.lb;have hly:=HW.out.ly;have hld:=HW.out.ld;have HT:Box (∀ k,k < 2-> ∃ t,Tok key x xs t/\ ∀ v,Below W.heap.size W v->v.cell? ⟨q,k,none⟩=some (.string t)):=⟨fun k hk=>by
  rcases(by omega:k=0\/k=1)with rfl | rfl
  ·exact⟨u,⟨⟨_,TK.out.un⟩,TK.out.ul,TK.out.u0⟩,fun v hv=>Zab m0 hv⟩
  ·exact⟨s,⟨⟨_,TK.out.sn⟩,TK.out.sl,TK.out.s0⟩,fun v hv=>Zab m1 hv⟩⟩
 have HC:=Zaa (fun v (hv:Below W.heap.size W v)=>HW.out.at (tr B7 hv).out);have BW:=tr B2 B7.out;have HB:Box (∀ k (hk:k < (x::xs).length),∃ b o,pb=some ⟨b,o,none⟩/\ ∀ v,Below W.heap.size W v->Zbx v.heap.size v 4 b (o+k*3) (x::xs)[k]):=⟨fun k hk=>by
  obtain⟨b,o,e,hx⟩:=HW.out.rb.get k hk;refine⟨b,o,e,fun v hv=>?_⟩;have hu:=B7.out.trans (hv.mono B7.out.size);exact hx.carry (Go.W.Below.carry hu hu.size) lr⟩
 have HD:Box (∀ k,k < nd-> ∃ b o K A z,pd=some ⟨b,o,none⟩/\InI A/\ ∀ v,Below W.heap.size W v->v.cell? ⟨b,o+k*3,none⟩=some (.int .i64 K)/\v.cell? ⟨b,o+k*3+1,none⟩=some (.int .i64 A)/\v.cell? ⟨b,o+k*3+2,none⟩=some (.string z)):=⟨fun k hk=>by
  have hk':k < ds.length:=by rw[HW.out.ed];exact hk
  obtain⟨b,o,e,_,h0,h1,h2⟩:=HW.out.rd.get k hk';refine⟨b,o,ds[k].1,ds[k].2.1,ds[k].2.2,e,HW.out.gd _ (Yel hk'),fun v hv=>?_⟩;have hu:=B7.out.trans (hv.mono B7.out.size);exact⟨Zab h0 hu,Zab h1 hu,Zab h2 hu⟩⟩
 have HY:Box (∀ k,k < ny-> ∃ b o y,py=some ⟨b,o,none⟩/\y.size<=65536/\ ∀ v,Below W.heap.size W v->v.cell? ⟨b,o+k,none⟩=some (.string y)):=⟨fun k hk=>by
  have hk':k < ys.length:=by rw[HW.out.ey];exact hk
  obtain⟨b,o,e,_,h0⟩:=HW.out.ry.get k hk';rw[Nat.mul_one]at h0;exact⟨b,o,_,e,HW.out.gy _ (Yel hk'),fun v hv=>Zab h0 (tr B7 hv).out⟩⟩
 clear HW TK m0 m1 B7 B2 hm7;go_wp2
 go_loopw [14] (fun iv wr=>Z5t W 2 iv wr) (fun iv _=>2 - (intOf iv).toNat)
 case atStart=>exact⟨0,by omega,rfl,Ydb _ _⟩
 case round=>
  obtain⟨k,hk,rfl,hbw⟩:=hrel;have HBk:=Zaa hbw;obtain⟨k0,k2,k4,k6⟩:=HC.out wr hbw;clear hbw;by_cases hlt:k < 2
  ·obtain⟨t,ht,htc⟩:=HT.out k hlt;have HK:=Zaa ht;have HTC:=Zaa htc;have t0:=htc wr HBk.out;clear ht htc;have CX:=Zaa (CV.out wr.drew (tr BW HBk.out.drew).out key hgk (bl t) HK.out.l);rw[Zjw]at CX;go_wp2_with fail
   have S0:=Yda k2 t0;go_region_held3 (fun u=>u.cell? ⟨w.heap.size,2,none⟩=some (.string key)/\u.cell? ⟨q,k,none⟩=some (.string t)) (first | exact S2 | exact S0) (first
    | (go_at_call 9;refine CX.out.mono ?_;rintro e w3 ⟨v1,v2,n,rfl,hV,hb0⟩;have hb3:=HBk.out.drew.trans (hb0.mono HBk.out.drew.size);have S2:=Yda (HC.out w3 hb3).2.1 (HTC.out w3 hb3)))
   obtain⟨S,g⟩:=HK.out.g;obtain⟨rfl,p1,c1,rfl,rb⟩:=hV.only g;rw[hnb];have B3:=Zaa hb3;have HR:=Zaa rb;obtain⟨k0',_,_,k6'⟩:=HC.out w3 hb3;clear S0 S2 hb0 hb3 hV g CX rb k0 k2 k4 k6 t0;clear HBk;go_wp2
   go_loopw [18] (fun iv v=>Z5t w3 nb iv v) (fun iv _=>nb - (intOf iv).toNat)
   case atStart=>exact⟨0,by omega,rfl,Ydb _ _⟩
   case round=>
    obtain⟨j,hj,rfl,hbj⟩:=hrel;have B4:=tr B3 hbj;have HJ:=Zaa hbj;clear k0' k6';obtain⟨k0,_,_,k6⟩:=HC.out wr B4.out;clear hbj;by_cases hjl:j < nb
    ·have hj':j < (x::xs).length:=by rw[Ydp,hnb];exact hjl
     obtain⟨b1,o1,rfl,h1⟩:=HR.out.get j hj';obtain⟨b2,o2,rfl,h2⟩:=HB.out j hj';have CX:=Zaa (fun v (hv:Below w3.heap.size w3 v)=>Zso (D:=2) lr (h1.carry (Go.W.Below.carry hv hv.size) lr) (h2 v (tr B3 hv).out));clear h1 h2;go_wp2
     go_region_held3 (fun u=>u.cell? ⟨w.heap.size,0,none⟩=some (.slice (some ⟨b2,o2,none⟩) nb cb)) (first | exact S2 | exact k0) (first
      | (go_at_call 10;refine(CX.out _ HJ.out.drew).mono ?_;rintro e w4 ⟨rfl,hb0⟩;have hb4:=HJ.out.drew.trans (hb0.mono HJ.out.drew.size);have S2:=(HC.out w4 (tr B3 hb4).out).1))
     go_wp2
     exact⟨⟨j+1,by omega,by go_num,hb4⟩,by simp[intOf];omega⟩
    ·obtain rfl:j=nb:=by omega
     clear HR HJ hjl hj;obtain⟨w4,rfl⟩: ∃ w4,w4=wr:=⟨_,rfl⟩;go_wp2
     go_loopw [20] (fun iv v=>Z5t W nd iv v) (fun iv _=>nd - (intOf iv).toNat)
     case atStart=>exact⟨0,by omega,rfl,B4.out⟩
     case round=>
      obtain⟨i,hi,rfl,hbi⟩:=hrel;have B5:=Zaa hbi;clear k0 k6;obtain⟨k0,k2,_,k6⟩:=HC.out wr hbi;have t0:=HTC.out wr hbi;clear hbi;by_cases hil:i < nd
      ·obtain⟨b,o,K,A,z,rfl,hA,hd⟩:=HD.out i hil;have HDD:=Zaa hd;obtain⟨d0,d1,d2⟩:=hd wr B5.out;have CX:=Zaa (Z5x (K:=K) (s:=z) hA HK.out.p (by have:=HK.out.l;rw[Zcy]at this;exact this) wr.drew);have hbl:=HK.out.l;rw[Zcy]at hbl;clear hd hA;go_wp2_with fail
       have S0:=Yda t0 (Yda k6 (Yda d0 (Yda d1 d2)));go_region_held3 (fun u=>u.cell? ⟨q,k,none⟩=some (.string t)/\u.cell? ⟨w.heap.size,6,none⟩=some (.slice (some ⟨b,o,none⟩) nd cd)/\u.cell? ⟨b,o+i*3,none⟩=some (.int .i64 K)/\u.cell? ⟨b,o+i*3+1,none⟩=some (.int .i64 A)/\u.cell? ⟨b,o+i*3+2,none⟩=some (.string z)) (first | exact S2 | exact S0) (first
        | (go_at_call 11;refine CX.out.mono ?_;rintro e w5 ⟨l,rfl,hll,hb0⟩;have hb5:=B5.out.drew.trans (hb0.mono B5.out.drew.size);have S2:=Yda (HTC.out w5 hb5) (Yda (HC.out w5 hb5).2.2.2 (HDD.out w5 hb5))))
       have B6:=Zaa hb5;have CY:=Zaa (CH.out w5 (tr BW hb5).out key hgk l (by omega));have c2:=(HC.out w5 hb5).2.1;clear S0 S2 CX hb0 hb5 HDD d0 d1 d2 k0 k2 k6 t0;generalize ba l=tl at*;go_wp2_with fail
       refine mq CY.out ?_;rintro w6 hb0;have hb6:=B6.out.trans (hb0.mono B6.out.size);go_wp2
       exact⟨⟨i+1,by omega,by go_num,hb6⟩,by simp[intOf];omega⟩
      ·obtain rfl:i=nd:=by omega
       have CY:=Zaa (CH.out wr.drew (tr BW B5.out.drew).out key hgk (bl t) HK.out.l);rw[Zjw]at CY;go_wp2_with fail
       have S0:=Yda k2 t0;go_region_held3 (fun u=>u.cell? ⟨w.heap.size,2,none⟩=some (.string key)/\u.cell? ⟨q,k,none⟩=some (.string t)) (first | exact S2 | exact S0) (first
        | (go_at_call 12;refine mq CY.out ?_;rintro w6 hb0;have hb6:=B5.out.drew.trans (hb0.mono B5.out.drew.size);have S2:=Yda (HC.out w6 hb6).2.1 (HTC.out w6 hb6)))
       go_wp2
       exact⟨⟨k+1,by omega,by go_num,hb6⟩,by simp[intOf];omega⟩
  ·obtain⟨w4,rfl⟩: ∃ w4,w4=wr:=⟨_,rfl⟩;go_wp2
   go_loopw [24] (fun iv v=>Z5t W ny iv v) (fun iv _=>ny - (intOf iv).toNat)
   case atStart=>exact⟨0,by omega,rfl,HBk.out⟩
   case round=>
    obtain⟨i,hi,rfl,hbi⟩:=hrel;have B5:=Zaa hbi;clear k0 k2 k4 k6;obtain⟨_,k2,k4,_⟩:=HC.out wr hbi;clear hbi;by_cases hil:i < ny
    ·obtain⟨b,o,y,rfl,hys,hy⟩:=HY.out i hil;have HYY:=Zaa hy;have y0:=hy wr B5.out;have CY:=Zaa (CH.out wr.drew (tr BW B5.out.drew).out key hgk (bl y) (by rw[Zcy];omega));rw[Zjw]at CY;clear hy;go_wp2_with fail
     have S0:=Yda k2 (Yda k4 y0);go_region_held3 (fun u=>u.cell? ⟨w.heap.size,2,none⟩=some (.string key)/\u.cell? ⟨w.heap.size,4,none⟩=some (.slice (some ⟨b,o,none⟩) ny cy)/\u.cell? ⟨b,o+i,none⟩=some (.string y)) (first | exact S2 | exact S0) (first
      | (go_at_call 12;refine mq CY.out ?_;rintro w6 hb0;have hb6:=B5.out.drew.trans (hb0.mono B5.out.drew.size);have S2:=Yda (HC.out w6 hb6).2.1 (Yda (HC.out w6 hb6).2.2.1 (HYY.out w6 hb6))))
     go_wp2
     exact⟨⟨i+1,by omega,by go_num,hb6⟩,by simp[intOf];omega⟩
    ·obtain rfl:i=ny:=by omega
     go_wp2
     go_ret
     exact⟨rfl,BW.out.trans (B5.out.mono BW.out.size)⟩
end Go.P
