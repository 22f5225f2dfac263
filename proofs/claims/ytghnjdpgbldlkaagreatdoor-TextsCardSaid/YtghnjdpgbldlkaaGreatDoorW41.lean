import Derived.Test.YtghnjdpgbldlkaaGreatDoorW40
set_option linter.defProp false
set_option maxRecDepth 100000
set_option maxHeartbeats 8000000
set_option linter.unusedSimpArgs false
open Go.Proofs Go.RowKit Go.W Tryz
namespace Go.P
variable {a:Nat->Addr}{B:Nat}{w:World}
def Z6p (V:E8){D:Nat}{vs:List Value}(Z:Aa a w)(hB:B<=w.heap.size)(hS:DW B w D vs GA):Calls prog 12 #[.string Qu,.agg vs.toArray] w fun e w'=>e= .returned (.tuple #[.string WM,.int .i64 0])/\Bl w w':=by
 have e1:Vq Qu GA=WM:=if_pos ⟨zu,lu⟩;have e2:ZI Qu GA=0:=(if_pos zu).trans lu;have C:=AA fun u (hu:Bl w u)=>Z9a V (key:=Qu) (Z.below hu) zu (AU hB hu.size) (DW.carry hS<|BJ hu hB);simp only[e1,e2,Ih]at C;obtain⟨p,c,p1,c1,p2,c2,rfl,_⟩:=hS;have N:=AA bX;clear Z e1 e2;generalize WM=t at*;generalize Qu=k at*;go_in
 go_wp2_with fail
 refine(C.out _<|(AQ _ w).alloc lr _).mono ?_;rintro e w1 ⟨rfl,hb⟩;have B1:=AA<|((AQ w.heap.size w).alloc lr _).trans<|hb.mono zw;clear hb;go_wp2_with fail
 refine(N.out _).mono ?_;rintro e w2 ⟨rfl,rfl⟩;go_wp2
 go_ret2
 exact⟨rfl,B1.out⟩
def Z9l (V:E8)(CL:Ig)(Z:Aa a w)(hB:B<=w.heap.size)(iB:Na GA){p:Option Addr}{c:Nat}(hr:Ap 3 (Jl B w 4) p [Ia]):Calls prog 13 #[.string WM,.slice p 1 c] w fun e w'=>e= .returned (.tuple #[.string U2,.int .i64 0])/\Bl w w':=by
 have hch:JK KO (bl WM)= .ok ⟨false,[(DU GA,GA)],DV Qu [DU GA]⟩:=Zvf (xs:=[GA]) zw zw (Oh _) fun x hx=>by
  obtain rfl:=List.mem_singleton.mp hx;exact⟨lu,iB⟩
 have hsz:(bl WM).length<1000000000:=by
  rw[IR];exact mf false zw (fun t ht=>by
   obtain rfl:=List.mem_singleton.mp ht;exact Zf _)<|Oh _
 have C:=Zu3 V CL (D:=3) (xs:=[Ia]) (c:=c) Z hsz hch rfl hB hr (fun x hx=>by
  obtain rfl:=List.mem_singleton.mp hx;exact Z48) zw (fun y hy=>by
  obtain rfl:=List.mem_singleton.mp hy;exact Zf GA)
 rw[IQ]at C;have C':AC (Calls prog 22 #[.string WM,.slice p 1 c] w fun e w'=>e= .returned (.tuple #[.string U2,.nilIface])/\Bl w w'):=⟨C⟩;have N:=AA bX;clear C hch hsz hr Z;generalize WM=t at*;generalize U2=t' at*;go_in
 go_wp2_with fail
 refine mq C'.out ?_;rintro w1 hb;have B1:=AA hb;clear hb;go_wp2_with fail
 refine(N.out _).mono ?_;rintro e w2 ⟨rfl,rfl⟩;go_wp2
 go_ret2
 exact⟨rfl,B1.out⟩
def Z6o (V:E8)(CL:Ig)(Z:Aa a w)(hB:B<=w.heap.size)(iB:Na GA)(iC:Na Ia){pp:Option Addr}{cp:Nat}(hp:Ap 2 (Ni B w 4) pp [bu]):
  Calls prog 14 #[.string Qu,.string U2,.agg #[.int .i64 4,.slice none 0 0,.slice none 0 0],.slice pp 1 cp] w fun e w'=>e= .returned (.tuple #[.int .i64 6,.int .i64 0])/\Bl w w':=by
 have C:=AA fun u (hu:Bl w u)=>Z8h V CL (cp:=cp) (Z.below hu) (AU hB hu.size) iB iC (hp.carry fun _ _ _ q=>q.carry (BJ hu hB) lr);have N:=AA bX;clear hp Z;generalize U2=t at*;generalize Qu=k at*;go_in
 go_wp2_with fail
 refine(C.out _<|(AQ _ w).alloc lr _).mono ?_;rintro e w1 ⟨rfl,hb⟩;have B1:=AA<|((AQ w.heap.size w).alloc lr _).trans<|hb.mono zw;clear hb;go_wp2_with fail
 refine(N.out _).mono ?_;rintro e w2 ⟨rfl,rfl⟩;go_wp2
 go_ret2
 exact⟨rfl,B1.out⟩
def Yf5 (w:World) (Y:Prop) (G:List IV->Prop) (v:Value) (m:Int) (u:World):Prop:=(Y/\m≠0/\v= .slice none 0 0)\/(m=0/\ ∃ l F,G l/\AO 162 2 (EA AY 4) u v l F/\Af w.heap.size u F)
def Zwu (t:ByteArray)(ht:t.size<1000000000)(Z:Aa a w)(E:OQ a w):Calls prog 11 #[.string t] w fun e w'=> ∃ v m p,e= .returned (.tuple #[v,.int .i64 m,.int .i64 p])/\Yf5 w (∃ er,Et t (T9 t)= .error er) (fun l=>Et t (T9 t)= .ok l) v m w'/\Bl w w':=by
 have C:=AA<|Zmq t ht Z;have HY:=AA<|Z9m t;have HZ:=AA Z;have HE:=AA E;have N:=AA bX;clear Z E;generalize Et t (T9 t)=Y at*;go_in
 go_wp2_with fail
 refine C.out.mono ?_;rintro e w1 ⟨hb,(⟨n,p,L,rfl,hn,hL,rfl,hF⟩ | ⟨v,y,rfl,rfl,F,hO,hN⟩)⟩
 ·obtain⟨k,rfl,hk⟩:=Ye3<|HY.out _ rfl;have B1:=AA hb;have M:=AA<|Znr (HZ.out.below hb) (HE.out.below hb) L 0 k p hk hF.two.1 (by have:=hF.two.2.1;rwa [Yat]at this);clear hF hb;go_wp2_with fail
  refine mq M.out ?_;rintro w2 hb;have B2:=tr B1 hb;clear hb;go_wp2
  refine CQ (by simp[results,results11,go_sem];try rfl) rfl ?_;exact⟨_,_,_,rfl,.inl ⟨⟨_,rfl⟩,zx,rfl⟩,B2.out⟩
 ·obtain⟨q,c,rfl⟩:=hO.form;have B1:=AA hb;have J1:=AA<|AF hO hN;clear hO hN hb;go_wp2_with fail
  refine(N.out _).mono ?_;rintro e w2 ⟨rfl,rfl⟩;go_wp2
  refine CQ (by simp[results,results11,go_sem];try rfl) rfl ?_;exact⟨_,_,_,rfl,.inr ⟨rfl,_,F,rfl,J1.out.1,J1.out.2⟩,B1.out⟩
end Go.P
namespace Go.P
section
variable {L n:Nat} {u:World} {A:Int} {s:ByteArray} {a:Nat->Addr}
def Z1q {ty:Q8}{d:Nat}{w:World}{vs:List Value}{x:Bk}{F:List Nat}(h:Dq ty d w vs x F): ∀ u,u∈vs->u.oneCell'=true:=by
 obtain⟨p,c,p1,c1,p2,c2,rfl⟩:=Dq.vals h;intro u hu;simp at hu;rcases hu with rfl | rfl | rfl <;> rfl
def Z3q (h:Kp L u n)(hn:n<65536)(RJ:s.size<=65536)(Z:Aa a u)(E:OQ a u):Calls prog 10 #[.pointer<|some ⟨L,0,none⟩,.agg #[.int .i64 1,.int .i64 A,.string s]] u (Uw L n u):=by
 obtain⟨vb,vp,vk,vc,vy,vr,vd,bs,ys,rs,ds,Fb,Fy,Fr,Fd,H,⟨pp,mp,cp,rfl⟩,⟨tk,rfl⟩,⟨ik,rfl⟩,hl⟩:=h;obtain⟨pr,cr,rfl⟩:=H.rb.form;have HK:=AA H;have HL:=AA hl;have hL:=H.blk.lt;have C:=AA fun v (hv:Bl u v)=>vW s zx (Z.below hv) (E.below hv);clear H hl Z E;go_in
 go_wp2_with fail
 have B0:=(AQ u.heap.size u).alloc lr<|.cells #[.int .i64 1,.int .i64 A,.string s] 46;have hz0:u.heap.size<(u.alloc<|.cells #[.int .i64 1,.int .i64 A,.string s] 46).heap.size:=zw
 refine(C.out _ B0).mono ?_;generalize u.alloc (.cells #[.int .i64 1,.int .i64 A,.string s] 46)=U at*;rintro e w1 ⟨⟨⟨p,c0,c⟩,⟨p1,c1,c2⟩,p2,c3,c4⟩,m,q,rfl,hk,hb⟩;have B1:=AA<|B0.trans<|hb.mono B0.size;have hsz:=hb.size;simp only[SL];rcases hk with⟨_,hm,_⟩ | ⟨rfl,x,F,hx,hO,hN⟩
 ·have S9:(m==0)=false:=by simpa using hm
  clear hb;go_wp2_with fail
  refine⟨rfl,_,(by simp[results,results10,go_sem];try rfl),?_⟩;obtain⟨l1,l2,l3,l4,l5,l6⟩:=HL.out;exact Kp.mk ((HK.out.later B1.out).up _) ((B1.out.alloc B1.out.size _).mono zx) ⟨_,_,_,rfl⟩ ⟨_,rfl⟩ ⟨_,rfl⟩ zx zx zx zx l5 l6
 ·have HX:=AA<|AF hx<|AF hO hN;clear hx hO hN hb;go_wp2_with fail
  obtain⟨U1,hU⟩: ∃ U1,AC (w1.alloc (.cells #[.slice p c0 c,.slice p1 c1 c2,.slice p2 c3 c4] 38)=U1):=⟨_,⟨rfl⟩⟩;have HN:=AA<|AJ.new w1 #[.slice p c0 c,.slice p1 c1 c2,.slice p2 c3 c4] 38;have J9:AC (Bl w1 U1):=⟨hU.out▸(AQ _ w1).alloc lr _⟩;have Sj:AC (U1.heap.size=w1.heap.size+1):=⟨by rw[<- hU.out];simp⟩;rw[hU.out]at HN⊢;have KU:=AA<|(HK.out.later B1.out).later J9.out;have AV:U1.drew.cell? ⟨L,0,none⟩=some (.slice pr bs.length cr)/\U1.drew.cell? ⟨w1.heap.size,0,none⟩=some (.slice p c0 c)/\U1.drew.cell? ⟨w1.heap.size,1,none⟩=some (.slice p1 c1 c2)/\U1.drew.cell? ⟨w1.heap.size,2,none⟩=some (.slice p2 c3 c4):=⟨KU.out.blk.cell 0,HN.out.three.1,HN.out.three.2.1,HN.out.three.2.2.1⟩;refine Nv 10 (fun v=>v.cell? ⟨L,0,none⟩=some (.slice pr bs.length cr)/\v.cell? ⟨w1.heap.size,0,none⟩=some (.slice p c0 c)/\v.cell? ⟨w1.heap.size,1,none⟩=some (.slice p1 c1 c2)/\v.cell? ⟨w1.heap.size,2,none⟩=some (.slice p2 c3 c4)) zt ?_;refine tz 0 (.pointer<|some ⟨L,0,none⟩) AV ?_;try simp only[zz]
  refine tz 1 (.pointer<|some ⟨L,0,none⟩) AV ?_;try simp only[zz]
  refine tz 2 (.pointer<|some ⟨L,0,none⟩) AV ?_;try simp only[zz]
  refine tz 3 (.pointer<|some ⟨L,0,none⟩) AV ?_;try simp only[zz]
  refine tz 4 (.slice pr bs.length cr) AV (hy:=fun _ ⟨s0,s1,s2,s3⟩=>by go_simp) ?_;try simp only[zz]
  refine tz 5 (.agg #[.slice p c0 c,.slice p1 c1 c2,.slice p2 c3 c4]) AV (hy:=fun _ ⟨s0,s1,s2,s3⟩=>by go_simp) ?_;try simp only[zz]
  refine rz 6 (h:=fun K' hK'=>?_);go_simp;obtain⟨W,hW⟩: ∃ W,AC (U1.alloc (.cells #[.slice p c0 c,.slice p1 c1 c2,.slice p2 c3 c4] 38)=W):=⟨_,⟨rfl⟩⟩;rw[hW.out];have Kv:Bl U1 W:=hW.out▸(AQ _ U1).alloc lr _;have RL:AC (W.heap.size=U1.heap.size+1):=⟨by rw[<- hW.out];simp⟩;have NW:W.heap[U1.heap.size]?=some (.cells #[.slice p c0 c,.slice p1 c1 c2,.slice p2 c3 c4] 38):=hW.out▸IC _ _;have KW:=AA<|KU.out.later Kv;have HW:=AA<|HN.out.of<|Kv.block _ HN.out.lt;have hb1:Bl w1 W:=J9.out.trans<|Kv.mono J9.out.size;have hGl: ∀ k,k∈F->u.heap.size<k:=fun k hk=>by have:=HX.out.2.2.ge k hk;omega
  refine hK'.out _ _ ⟨KW.out.blk.cell 0,HW.out.three.1,HW.out.three.2.1,HW.out.three.2.2.1⟩ ?_;try simp only[zz]
  refine rz 7 (h:=fun K' hK'=>?_);refine Ux Z0f rfl (.tmp 27) (.tmp 29) rfl (Dq.stable (ty:=AY) 4) (fun _ _ _ _ h=>Z1q h) (L+1) (.slice pr bs.length cr) bs Fb rfl (KW.out.rb:AO _ _ _ W.drew _ _ _) U1.heap.size #[.slice p c0 c,.slice p1 c1 c2,.slice p2 c3 c4] 38 (0,0) x F rfl NW rfl (Dq.stable (ty:=AY) 4 _ _ _ _ _ HX.out.2.1 fun k hk=>hb1.block k (HX.out.2.2.lt k hk)) (by have:=HL.out;omega) (by show L+1<=W.heap.size;have:=Sj.out;have:=RL.out;omega) (KW.out.nb.later lr lr) (HX.out.2.2.later zx hb1.size) (fun k hk VX=>by have:=HK.out.nb.lt k hk;have:=hGl k VX;omega) ?_;intro g cap w9 F' AM;have hsm:=fun k (h:k<W.heap.size) hf=>AM.same k h hf;have KL:=AA<|KW.out.blk.of (w':=w9) (hsm L KW.out.blk.lt fun hf=>by have:=KW.out.nb.ge L hf;omega);have HY:=AA<|HW.out.of (w':=w9) (hsm _ HW.out.lt fun hf=>by have:=HK.out.nb.lt _ hf;omega);have hS1:w9.cell? ⟨L,0,none⟩=some (.slice pr bs.length cr)/\w9.cell? ⟨w1.heap.size,0,none⟩=some (.slice p c0 c)/\w9.cell? ⟨w1.heap.size,1,none⟩=some (.slice p1 c1 c2)/\w9.cell? ⟨w1.heap.size,2,none⟩=some (.slice p2 c3 c4):=⟨KL.out.cell 0,HY.out.three.1,HY.out.three.2.1,HY.out.three.2.2.1⟩;have ks:=KL.out.soft;have Do:=AA<|HK.out.tN (tr B1 hb1).out.drew (fun k hk=>Nat.le_of_lt (hGl k hk)) AM;refine hK'.out _ _ hS1 ?_;try simp only[zz]
  refine rz 8 (h:=fun K' hK'=>?_);go_simp;refine hK'.out _ _ hS1 ?_;try simp only[zz]
  refine rz 9 (h:=fun K' hK'=>?_);go_simp;refine hK'.out _ _ hS1 ?_;try simp only[zz]
  have RX:=hS1.1;refine J6 (h:=fun K' hK'=>?_);go_simp;refine hK'.out _ _ ?_;try simp only[zz]
  refine dz (h:=?_);clear AM ks RX AV hS1;go_wp2_with fail
  refine⟨rfl,_,(by simp[results,results10,go_sem];try rfl),?_⟩;obtain⟨l1,l2,l3,l4,l5,l6⟩:=HL.out;exact Kp.mk Do.out.1 Do.out.2 ⟨_,_,_,rfl⟩ ⟨_,rfl⟩ ⟨_,rfl⟩ (by simp;omega) zx zx zx (fun y hy=>by
   rcases CY.1 hy with hy | hy
   ·exact l5 y hy
   ·obtain rfl:=MX.1 hy;exact⟨s,HX.out.1⟩) l6
def Z7i (h:Kp L u n)(RJ:s.size<=65536)(Z:Aa a u)(E:OQ a u):Calls prog 10 #[.pointer<|some ⟨L,0,none⟩,.agg #[.int .i64 2,.int .i64 A,.string s]] u (Uw L n u):=by
 obtain⟨vb,vp,vk,vc,vy,vr,vd,bs,ys,rs,ds,Fb,Fy,Fr,Fd,H,⟨pp,mp,cp,rfl⟩,⟨tk,rfl⟩,⟨ik,rfl⟩,hl⟩:=h;have HK:=AA H;have HL:=AA hl;have hL:=H.blk.lt;have C:=AA fun v (hv:Bl u v)=>Zwu s zx (Z.below hv) (E.below hv);clear H hl Z E;go_in
 go_wp2_with fail
 have B0:=(AQ u.heap.size u).alloc lr<|.cells #[.int .i64 2,.int .i64 A,.string s] 46;refine(C.out _ B0).mono ?_;generalize u.alloc (.cells #[.int .i64 2,.int .i64 A,.string s] 46)=U at*;rintro e w1 ⟨v,m,q,rfl,hk,hb⟩;have B1:=AA<|B0.trans<|hb.mono B0.size;have hsz:=B1.out.size;have K1:=AA<|HK.out.later B1.out;have KC:=K1.out.blk.cell 1;have KS:=K1.out.blk.soft;have hv: ∃ p' m' c',v= .slice p' m' c':=by
  rcases hk with⟨_,_,rfl⟩ | ⟨_,l,F,_,h3,_⟩
  ·exact⟨_,_,_,rfl⟩
  ·obtain⟨p',c',rfl⟩:=h3.form;exact⟨_,_,_,rfl⟩
 obtain⟨p',m',c',rfl⟩:=hv;clear hk hb B0;by_cases hm:m=0
 ·subst hm;go_wp2_with fail
  refine⟨rfl,_,(by simp[results,results10,go_sem];try rfl),?_⟩;obtain⟨l1,l2,l3,l4,l5,l6⟩:=HL.out;exact Kp.mk (K1.out.set 1 _ rfl) ((B1.out.mono<|Nat.le_of_lt hL).setCell lr _) ⟨_,_,_,rfl⟩ ⟨_,rfl⟩ ⟨_,rfl⟩ zx zx zx zx l5 l6
 ·have S9:(m==0)=false:=by simpa using hm
  go_wp2_with fail
  refine⟨rfl,_,(by simp[results,results10,go_sem];try rfl),?_⟩;obtain⟨l1,l2,l3,l4,l5,l6⟩:=HL.out;exact Kp.mk K1.out (B1.out.mono zx) ⟨_,_,_,rfl⟩ ⟨_,rfl⟩ ⟨_,rfl⟩ zx zx zx zx l5 l6
def Z95 {k:Int}(h:Kp L u n)(hn:n<65536)(RJ:s.size<=65536)(hA:oh A)(Z:Aa a u)(E:OQ a u):Calls prog 10 #[.pointer<|some ⟨L,0,none⟩,.agg #[.int .i64 k,.int .i64 A,.string s]] u (Uw L n u):=by
 by_cases h1:k=1
 ·subst h1;exact Z3q h hn RJ Z E
 by_cases h2:k=2
 ·subst h2;exact Z7i h RJ Z E
 by_cases h3:k=3
 ·subst h3;exact Z96 h RJ
 by_cases h4:k=4
 ·subst h4;exact Z3t h
 by_cases h5:k=5
 ·subst h5;exact Z3r h hn RJ
 by_cases h6:k=6
 ·subst h6;exact Zzh h hn
 by_cases h7:k=7
 ·subst h7;exact Z7h h hn hA
 exact Z3u h h1 h2 h3 h4 h5 h6 h7
end
end Go.P
namespace Go.P
def Ybg (w:World) (n:Nat) (iv:Value) (wr:World):Prop:= ∃ k:Nat,k<=n/\iv= .int .i64 (k:Int)/\Kp w.heap.size wr k/\Bl w wr
def Yaf {a:Nat->Addr}{w:World}{p:Option Addr}{c:Nat}{xs:List (Int×Int×ByteArray)}(h:oC w p xs)(hl:xs.length<140737488355328)(Z:Aa a w)(E:OQ a w):Calls prog 4 #[.slice p xs.length c] w fun e w'=>(e= .returned (.tuple #[.pointer none,.bool false])/\w'=w)\/(e= .returned (.tuple #[.pointer<|some ⟨w.heap.size,0,none⟩,.bool true])/\Kp w.heap.size w' xs.length/\xs.length<=65536/\Bl w w'):=by
 have CS:=AA<|Z7c (c:=c) h hl;have H:=AA h;have HZ:=AA fun u (hu:Bl w u)=>AF (Z.below hu) (E.below hu);clear h Z E;obtain⟨n,hn⟩: ∃ n,AC (xs.length=n):=⟨_,⟨rfl⟩⟩;rw[hn.out]at hl CS⊢;go_in
 go_wp2_with fail
 refine CS.out.mono ?_;rintro e w1 ⟨b,rfl,rfl,hb⟩;cases b with
 | false=>
  clear hb;go_wp2
  go_ret2
  exact .inl ⟨rfl,rfl⟩
 | true=>
  obtain⟨G8,hs⟩:=hb rfl;have HS:=AA hs;clear hb hs CS;go_wp2_with fail
  have K0:Kp w1.heap.size (w1.alloc<|.cells #[.slice none 0 0,.slice none 0 0,.string ⟨#[107,101,121]⟩,.int .i64 0,.slice none 0 0,.slice none 0 0,.slice none 0 0] 31) 0:=⟨_,_,_,_,_,_,_,[],[],[],[],[],[],[],[],⟨AJ.new _ _ _,AO.nil,AO.nil,AO.nil,AO.nil,Af.nil _ _,Af.nil _ _,Af.nil _ _,Af.nil _ _,(fun _ h=>by cases h),(fun _ h=>by cases h),(fun _ h=>by cases h)⟩,⟨_,_,_,rfl⟩,⟨_,rfl⟩,⟨_,rfl⟩,zw,zw,zw,zw,(fun _ h=>by cases h),(fun _ h=>by cases h),zu,fun _ h=>by cases h⟩;have HK:=AA K0;clear K0;go_loopw [6] (fun iv wr=>Ybg w1 n iv wr) (fun iv _=>n-(intOf iv).toNat)
  case atStart=>exact⟨0,zx,rfl,HK.out,(AQ _ _).alloc lr _⟩
  case round=>
   obtain⟨k,hk,rfl,aP,AX⟩:=hrel;have HB:=AA AX;have HP:=AA aP;by_cases hlt:k<n
   ·have Dk:k<xs.length:=by rw[hn.out];exact hlt
    obtain⟨⟨hs,hA⟩,b,o,rfl,c0,c1,c2⟩:=H.out k xs[k]<|DK Dk;have hsz:=HS.out k xs[k]<|DK Dk;have d0:=Aq c0 AX;have d1:=Aq c1 AX;have d2:=Aq c2 AX;have ST:=AA fun kk aa ss (RJ:ByteArray.size ss<=65536) (hA:oh aa)=>Z95 (k:=kk) (A:=aa) (s:=ss) aP zx RJ hA (HZ.out _ AX).1 (HZ.out _ AX).2;have HA:=AA hA;clear c0 c1 c2 aP AX hA;generalize xs[k]=x at*;go_wp2_with fail
    refine(ST.out _ _ _ hsz HA.out).mono ?_;rintro e w2 ⟨rfl,hk2,hb2⟩;have HP2:=AA<|AF hk2<|HB.out.trans hb2;clear hk2 hb2 ST d0 d1 d2;go_wp2
    exact⟨⟨k+1,zx,by go_num,HP2.out.1,HP2.out.2⟩,by simp[intOf];omega⟩
   ·obtain rfl:k=n:=zx
    clear aP AX;go_wp2
    go_ret2
    exact .inr ⟨rfl,HP.out,G8,HB.out⟩
end Go.P
namespace Go.P
def wY {B D:Nat}{w:World}{p q:Option Addr}{c c':Nat}{xs:List A}(hB:B<=w.heap.size)(hp:Ap 2 (DX B w<|D+1) p xs)(hq:Ap 2 (DX B w<|D+1) q xs):Calls prog 18 #[.slice p xs.length c,.slice q xs.length c'] w fun e w'=>e= .returned (.bool true)/\Bl w w':=by
 have hl:=hp.len;have HP:=AA hp;have HQ:=AA hq;clear hp hq;obtain⟨n,hn⟩: ∃ n,AC (xs.length=n):=⟨_,⟨rfl⟩⟩;rw[hn.out]at hl⊢;go_in
 go_wp2
 go_loopw [5] (fun iv wr=>jX w n iv wr) (fun iv _=>n-(intOf iv).toNat)
 case atStart=>exact⟨0,zx,rfl,AQ _ _⟩
 case round=>
  obtain⟨k,hk,rfl,AX⟩:=hrel;have HB:=AA AX;by_cases hlt:k<n
  ·have Dk:k<xs.length:=by rw[hn.out];exact hlt
   obtain⟨b1,o1,rfl,hx⟩:=HP.out.get k Dk;obtain⟨b2,o2,rfl,hy⟩:=HQ.out.get k Dk;obtain⟨l1,p1,c1,k0,k1,_,_,e1,_,_,r1⟩:=(hx.carry (BJ AX hB) lr).vals;cases e1;obtain⟨l2,p2,c2,j0,j1,_,_,e2,_,_,r2⟩:=(hy.carry (BJ AX hB) lr).vals;cases e2;have CC:=AA fun u (hu:Bl wr u)=>Zlw (D+1) (B:=B) (w:=u) (c:=c1) (c':=c2) (AU hB<|AU AX.size hu.size) (r1.carry fun _ _ _ t=>t.carry (BJ hu<|AU hB AX.size) lr) (r2.carry fun _ _ _ t=>t.carry (BJ hu<|AU hB AX.size) lr);have HX:=AA fun u (hu:Bl wr u)=>AF (AF (Aq k0 hu)<|Aq k1 hu) (AF (Aq j0 hu)<|Aq j1 hu);clear r1 r2 hx hy AX k0 j0;generalize xs[k]=x at*;go_wp2_with fail
   have AV:wr.drew.cell? ⟨b1,o1+k*2+1,none⟩=some (.slice p1 x.terms.length c1)/\wr.drew.cell? ⟨b2,o2+k*2+1,none⟩=some (.slice p2 x.terms.length c2):=⟨k1,j1⟩;refine Nv 10 (fun u=>u.cell? ⟨b1,o1+k*2+1,none⟩=some (.slice p1 x.terms.length c1)/\u.cell? ⟨b2,o2+k*2+1,none⟩=some (.slice p2 x.terms.length c2)) zt ?_;refine tf 0 (.slice (some ⟨b1,o1,none⟩) n c) AV ?_;try simp only[zz]
   refine tf 1 (.int .i64 (k:Int)) AV ?_;try simp only[zz]
   refine tf 2 (.pointer<|some ⟨b1,o1+k*2,none⟩) AV ?_;try simp only[zz]
   refine tf 3 (.pointer<|some ⟨b1,o1+k*2+1,none⟩) AV ?_;try simp only[zz]
   refine tz 4 (.slice p1 x.terms.length c1) AV (hy:=fun _ ⟨s0,s1⟩=>by go_simp) ?_;try simp only[zz]
   refine tf 5 (.slice (some ⟨b2,o2,none⟩) n c') AV ?_;try simp only[zz]
   refine tf 6 (.int .i64 (k:Int)) AV ?_;try simp only[zz]
   refine tf 7 (.pointer<|some ⟨b2,o2+k*2,none⟩) AV ?_;try simp only[zz]
   refine tf 8 (.pointer<|some ⟨b2,o2+k*2+1,none⟩) AV ?_;try simp only[zz]
   refine tz 9 (.slice p2 x.terms.length c2) AV (hy:=fun _ ⟨s0,s1⟩=>by go_simp) ?_;try simp only[zz]
   refine J6 (h:=fun K' hK'=>?_);go_simp;refine(CC.out _<|(AQ _ wr).drew).mono ?_;rintro e w2 ⟨rfl,hb2⟩;have B2:=AA<|(AQ _ wr).drew.trans hb2;refine hK'.out _ _ ?_;try simp only[zz]
   refine ry 11 (h:=fun K' hK'=>?_);go_simp;refine hK'.out _ _ ?_;try simp only[zz]
   refine dz (h:=?_);obtain⟨⟨k0,k1⟩,j0,j1⟩:=HX.out w2 B2.out;clear hb2 AV;go_wp2
   go_quiet (fail)
   have B3:=tr HB B2.out;clear k0 k1 j0 j1;go_wp2
   exact⟨⟨k+1,zx,by go_num,B3.out.NL _⟩,by simp[intOf];omega⟩
  ·obtain rfl:k=n:=zx
   go_wp2
   go_ret
   exact⟨rfl,HB.out⟩
end Go.P
namespace Go.P
variable {B b o s:Nat}{w:World}
def D6.to {B' d b' o':Nat}{w':World}{x:T}(h:D6 B w (d+1) b o x)(c:Dy B B' w w')(hb:b'<B')(hv: ∀ j v,j<4->w.cell? ⟨b,o+j,none⟩=some v->w'.cell? ⟨b',o'+j,none⟩=some v):D6 B' w' (d+1) b' o' x:=by
 obtain⟨_,lv,h0,h1,h2,h3,h4⟩:=h;exact⟨hb,lv,hv 0 _ zx h0,hv 1 _ zx h1,hv 2 _ zx h2,hv 3 _ zx h3,h4.imp fun b o y=>D6.carry c lr⟩
def Yf3 {α:Type}{Q:Nat->Nat->α->Prop}{x:α}(h:Q b o x):Ap s Q (some ⟨b,o,none⟩) [x]:=⟨zw,fun i y hy=>by
 cases i with
 | zero=>cases hy;exact⟨b,o,rfl,by simpa using h⟩
 | succ i=>simp at hy⟩
def Ya0 {α:Type}{Q:Nat->Nat->α->Prop}{x y:α}(h:Q b o x)(h':Q b (o+s) y):Ap s Q (some ⟨b,o,none⟩) [x,y]:=⟨zw,fun i z hz=>by
 match i with
 | 0=>cases hz;exact⟨b,o,rfl,by simpa using h⟩
 | 1=>cases hz;exact⟨b,o,rfl,by simpa using h'⟩
 | i+2=>simp at hz⟩
def Yd3 (w:World)(cs:Array Value)(e:TypeId){L:Nat}(h:w.heap.size=L):AJ (w.alloc<|.cells cs e) L cs e:=h▸AJ.new w cs e
def Zlv {D:Nat}{p q:Option Addr}{c c':Nat}{xs:List R}(hB:B<=w.heap.size)(hp:Ap 4 (E5 B w<|D+2) p xs)(hq:Ap 4 (E5 B w<|D+2) q xs):Calls prog 19 #[.slice p xs.length c,.slice q xs.length c'] w fun e w'=>e= .returned (.bool true)/\Bl w w':=by
 have hl:=hp.len;have HP:=AA hp;have HQ:=AA hq;clear hp hq;obtain⟨n,hn⟩: ∃ n,AC (xs.length=n):=⟨_,⟨rfl⟩⟩;rw[hn.out]at hl⊢;go_in
 go_wp2
 go_loopw [5] (fun iv wr=>jX w n iv wr) (fun iv _=>n-(intOf iv).toNat)
 case atStart=>exact⟨0,zx,rfl,AQ _ _⟩
 case round=>
  obtain⟨k,hk,rfl,AX⟩:=hrel;have HB:=AA AX;by_cases hlt:k<n
  ·have Dk:k<xs.length:=by rw[hn.out];exact hlt
   obtain⟨b1,o1,rfl,hx⟩:=HP.out.get k Dk;obtain⟨b2,o2,rfl,hy⟩:=HQ.out.get k Dk;have hX:=AA<|hx.carry (BJ AX hB) lr;have hY:=AA<|hy.carry (BJ AX hB) lr;obtain⟨l1,p1,c1,p2,c2,p3,c3,k0,k1,k2,k3,_⟩:=hX.out.vals;obtain⟨l2,q1,d1,q2,d2,q3,d3,j0,j1,j2,j3,_⟩:=hY.out.vals;clear hx hy AX;generalize xs[k]=x at*;have HX:=AA fun u (hu:Bl wr u)=>AF (Aq k0 hu) (AF (Aq k1 hu)<|AF (Aq j0 hu)<|Aq j1 hu);go_wp2_with fail
   have B0:=AA (AQ wr.heap.size wr).drew;have HH:AC (∀ u L1 L2,Bl wr u->AJ u L1 #[.string x.head.name,.slice p1 x.head.terms.length c1] 95->AJ u L2 #[.string x.head.name,.slice q1 x.head.terms.length d1] 95->Calls prog 18 #[.slice (some ⟨L1,0,none⟩) 1 1,.slice (some ⟨L2,0,none⟩) 1 1] u fun e w'=>e= .returned (.bool true)/\Bl wr w'):=⟨fun u L1 L2 hu m1 m2=>by
    obtain⟨_,_,_,_,a1,sA⟩:=hX.out.head.vals;cases k1.symm.trans a1;obtain⟨_,_,_,_,a2,sB⟩:=hY.out.head.vals;cases j1.symm.trans a2;have hc:=Go.W.Below.carry (hu.mono<|AU hB HB.out.size)<|AU hB<|AU HB.out.size hu.size;refine(wY (B:=u.heap.size) (D:=D+1) (xs:=[x.head]) lr (Yf3 (FM.at sA hc m1.lt fun j v hj=>?_))<|Yf3 (FM.at sB hc m2.lt fun j v hj=>?_)).mono fun e w' ⟨h1,h2⟩=>⟨h1,hu.trans<|h2.mono hu.size⟩
    ·rw[Hr,m1.cell,Qz];exact hj
    ·rw[Hr,m2.cell,Qz];exact hj⟩
   have AV:=HX.out wr.drew B0.out;refine oF (fun a' w'=> ∃ v28 v34,a'={tmps:=#[.slice (some ⟨b1,o1,none⟩) n c,.slice (some ⟨b2,o2,none⟩) n c',undef,undef,u4,.int .i64 (k:Int),.bool true,u7,u8,u9,u10,u11,.slice (some ⟨b1,o1,none⟩) n c,.int .i64 (n:Int),.slice (some ⟨b2,o2,none⟩) n c',.int .i64 (n:Int),.bool false,.int .i64 (k:Int),.slice (some ⟨b1,o1,none⟩) n c,.int .i64 (n:Int),.bool true,u21,u22,.slice (some ⟨b1,o1,none⟩) n c,.int .i64 (k:Int),.pointer<|some ⟨b1,o1+k*4,none⟩,.pointer<|some ⟨b1,o1+k*4,none⟩,.agg #[.string x.head.name,.slice p1 x.head.terms.length c1],v28,.slice (some ⟨b2,o2,none⟩) n c',.int .i64 (k:Int),.pointer<|some ⟨b2,o2+k*4,none⟩,.pointer<|some ⟨b2,o2+k*4,none⟩,.agg #[.string x.head.name,.slice q1 x.head.terms.length d1],v34,.bool true,u36,u37,u38,u39,u40,u41,u42,u43,u44,u45,u46,u47,u48,u49,u50,u51,u52,u53,u54,u55,u56,u57,u58,u59,u60,u61,u62,u63,u64,u65,u66,u67,u68,u69,u70,u71,u72,u73,u74,u75,u76,u77,u78,u79,u80,u81,u82,u83,u84,u85,u86,u87,u88,u89,u90,u91,u92,u93,u94,u95,u96,u97,u98,u99,u100,u101,u102,u103,u104,u105,u106,u107,u108,u109,u110,u111,u112,u113],defers:=[]}/\Bl wr w') ?_ ?_;refine U7 (S:=fun u=>u.cell? ⟨b1,o1+k*4,none⟩=some (.string x.head.name)/\u.cell? ⟨b1,o1+k*4+1,none⟩=some (.slice p1 x.head.terms.length c1)/\u.cell? ⟨b2,o2+k*4,none⟩=some (.string x.head.name)/\u.cell? ⟨b2,o2+k*4+1,none⟩=some (.slice q1 x.head.terms.length d1)) zt ?_;change wpAnyH _ _ _ _ _ _ _ _ (World.drew _);refine tk 0 (.slice (some ⟨b1,o1,none⟩) n c) AV ?_;try simp only[zz]
   refine tk 1 (.int .i64 (k:Int)) AV ?_;try simp only[zz]
   refine tk 2 (.pointer<|some ⟨b1,o1+k*4,none⟩) AV ?_;try simp only[zz]
   refine tk 3 (.pointer<|some ⟨b1,o1+k*4,none⟩) AV ?_;try simp only[zz]
   refine tk 4 (.agg #[.string x.head.name,.slice p1 x.head.terms.length c1]) AV (hy:=fun _ ⟨s0,s1,s2,s3⟩=>by go_simp) ?_;try simp only[zz]
   refine tk 6 (.slice (some ⟨b2,o2,none⟩) n c') AV ?_;try simp only[zz]
   refine tk 7 (.int .i64 (k:Int)) AV ?_;try simp only[zz]
   refine tk 8 (.pointer<|some ⟨b2,o2+k*4,none⟩) AV ?_;try simp only[zz]
   refine tk 9 (.pointer<|some ⟨b2,o2+k*4,none⟩) AV ?_;try simp only[zz]
   refine tk 10 (.agg #[.string x.head.name,.slice q1 x.head.terms.length d1]) AV (hy:=fun _ ⟨s0,s1,s2,s3⟩=>by go_simp) ?_;try simp only[zz]
   refine Eg (rs:=[5,11]) zt zw<|EG rfl (fun K' hK'=>?_)<|EG rfl (fun K' hK'=>?_) Eh
   ·go_simp;refine hK'.out _ _ (HX.out _<|B0.out.alloc lr _) fun _=>?_;try simp only[zz]
    refine Eg (rs:=[11]) zt zw<|EG rfl (fun K' hK'=>?_) Eh;go_simp;have B2:Bl wr ((wr.alloc<|.cells #[.string x.head.name,.slice p1 x.head.terms.length c1] 95).alloc<|.cells #[.string x.head.name,.slice q1 x.head.terms.length d1] 95).drew:=(((AQ _ wr).alloc lr _).alloc zw _).drew;refine hK'.out _ _ (HX.out _ B2) fun _=>?_;try simp only[zz]
    refine Eg (rs:=[12]) zt zw<|EG rfl (fun K' hK'=>?_) Eh;go_simp;refine(HH.out _ _ _ B2 ((AJ.new wr _ _).alloc _)<|(Jd wr _ _ _).of rfl).mono ?_;rintro e w3 ⟨rfl,B3⟩;refine hK'.out _ _ (HX.out _ B3) fun _=>?_;try simp only[zz]
    refine tk 13 (.bool true) (HX.out _ B3) ?_;try simp only[zz]
    refine Lp zt ?_ _;exact⟨_,_,rfl,B3⟩
   ·go_simp;refine hK'.out _ _ (HX.out _<|B0.out.alloc lr _) fun _=>?_;try simp only[zz]
    refine Eg (rs:=[5]) zt zw<|EG rfl (fun K' hK'=>?_) Eh;go_simp;have B2:Bl wr ((wr.alloc<|.cells #[.string x.head.name,.slice q1 x.head.terms.length d1] 95).alloc<|.cells #[.string x.head.name,.slice p1 x.head.terms.length c1] 95).drew:=(((AQ _ wr).alloc lr _).alloc zw _).drew;refine hK'.out _ _ (HX.out _ B2) fun _=>?_;try simp only[zz]
    refine Eg (rs:=[12]) zt zw<|EG rfl (fun K' hK'=>?_) Eh;go_simp;refine(HH.out _ _ _ B2 ((Jd wr _ _ _).of rfl)<|(AJ.new wr _ _).alloc _).mono ?_;rintro e w3 ⟨rfl,B3⟩;refine hK'.out _ _ (HX.out _ B3) fun _=>?_;try simp only[zz]
    refine tk 13 (.bool true) (HX.out _ B3) ?_;try simp only[zz]
    refine Lp zt ?_ _;exact⟨_,_,rfl,B3⟩
   rintro a' w2 ⟨v28,v34,rfl,B2⟩;dsimp only;have Ce:=AA B2;have Zt:=AA fun u (hu:Bl wr u)=>AF (AF (Aq k2 hu)<|Aq k3 hu) (AF (Aq j2 hu)<|Aq j3 hu);have FQ:AC (∀ u,Bl wr u->Calls prog 18 #[.slice p2 x.body.length c2,.slice q2 x.body.length d2] u fun e w'=>e= .returned (.bool true)/\Bl wr w'):=⟨fun u hu=>by
    obtain⟨_,a1,_,_,rfl,_,rA⟩:=hX.out.body;cases k2.symm.trans a1;obtain⟨_,a2,_,_,rfl,_,rB⟩:=hY.out.body;cases j2.symm.trans a2;have hc:=BJ hu<|AU hB HB.out.size;exact(wY (B:=B) (D:=D+1) (AU hB<|AU HB.out.size hu.size) (rA.carry fun _ _ _ t=>t.carry hc lr) (rB.carry fun _ _ _ t=>t.carry hc lr)).mono fun e w' ⟨h1,h2⟩=>⟨h1,hu.trans<|h2.mono hu.size⟩⟩
   clear B2 k0 k1 k2 k3 j0 j1 j2 j3 AV HH;go_wp2_with fail
   have Fz:w2.drew.cell? ⟨b1,o1+k*4+2,none⟩=some (.slice p2 x.body.length c2)/\w2.drew.cell? ⟨b2,o2+k*4+2,none⟩=some (.slice q2 x.body.length d2):=⟨(Zt.out w2 Ce.out).1.1,(Zt.out w2 Ce.out).2.1⟩;refine Nv 10 (fun u=>u.cell? ⟨b1,o1+k*4+2,none⟩=some (.slice p2 x.body.length c2)/\u.cell? ⟨b2,o2+k*4+2,none⟩=some (.slice q2 x.body.length d2)) zt ?_;refine tf 0 (.slice (some ⟨b1,o1,none⟩) n c) Fz ?_;try simp only[zz]
   refine tf 1 (.int .i64 (k:Int)) Fz ?_;try simp only[zz]
   refine tf 2 (.pointer<|some ⟨b1,o1+k*4,none⟩) Fz ?_;try simp only[zz]
   refine tf 3 (.pointer<|some ⟨b1,o1+k*4+2,none⟩) Fz ?_;try simp only[zz]
   refine tz 4 (.slice p2 x.body.length c2) Fz (hy:=fun _ ⟨s0,s1⟩=>by go_simp) ?_;try simp only[zz]
   refine tf 5 (.slice (some ⟨b2,o2,none⟩) n c') Fz ?_;try simp only[zz]
   refine tf 6 (.int .i64 (k:Int)) Fz ?_;try simp only[zz]
   refine tf 7 (.pointer<|some ⟨b2,o2+k*4,none⟩) Fz ?_;try simp only[zz]
   refine tf 8 (.pointer<|some ⟨b2,o2+k*4+2,none⟩) Fz ?_;try simp only[zz]
   refine tz 9 (.slice q2 x.body.length d2) Fz (hy:=fun _ ⟨s0,s1⟩=>by go_simp) ?_;try simp only[zz]
   refine J6 (h:=fun K' hK'=>?_);go_simp;refine(FQ.out _ Ce.out.drew).mono ?_;rintro e w3 ⟨rfl,hb3⟩;have B3:=AA hb3;refine hK'.out _ _ ?_;try simp only[zz]
   refine ry 11 (h:=fun K' hK'=>?_);go_simp;refine hK'.out _ _ ?_;try simp only[zz]
   refine dz (h:=?_);obtain⟨⟨_,k3⟩,_,j3⟩:=Zt.out w3 hb3;clear hb3 Fz FQ;go_wp2
   go_quiet (fail)
   go_wp2_with fail
   obtain⟨wo,rfl⟩: ∃ wo,wo=wr:=⟨_,rfl⟩;obtain⟨gn,aR⟩: ∃ gn,AC (x.guards.length=gn):=⟨_,⟨rfl⟩⟩;have Kq:x.guards.length<1000000000:=by
    obtain⟨_,_,_,_,_,_,rA⟩:=hX.out.guards;exact rA.len
   rw[aR.out]at k3 j3 Zt Kq;go_loopw [8] (fun iv u=>jX wo gn iv u) (fun iv _=>gn-(intOf iv).toNat)
   case atStart=>exact⟨0,zx,rfl,B3.out.NL _⟩
   case round=>
    obtain⟨m,hm,rfl,Kr⟩:=hrel;have dH:=AA Kr;obtain⟨⟨_,k3⟩,_,j3⟩:=Zt.out wr Kr;clear Kr;by_cases Sv:m<gn
    ·have eu:m<x.guards.length:=by rw[aR.out];exact Sv
     obtain⟨b3,o3,rfl,G1⟩: ∃ b3 o3,p3=some ⟨b3,o3,none⟩/\JN B wo (D+2) b3 (o3+m*9) x.guards[m]:=by
      obtain⟨_,a1,_,_,rfl,_,rA⟩:=hX.out.guards;have e:=(Zt.out wo<|AQ _ _).1.2.symm.trans a1;cases e;exact rA.get m eu
     obtain⟨b4,o4,rfl,G2⟩: ∃ b4 o4,q3=some ⟨b4,o4,none⟩/\JN B wo (D+2) b4 (o4+m*9) x.guards[m]:=by
      obtain⟨_,a1,_,_,rfl,_,rA⟩:=hY.out.guards;have e:=(Zt.out wo<|AQ _ _).2.2.symm.trans a1;cases e;exact rA.get m eu
     have hcw:=BJ dH.out<|AU hB HB.out.size;have T1:=AA<|G1.carry hcw lr;have T2:=AA<|G2.carry hcw lr;obtain⟨_,ga,ca,gb,cb,g0,g1,g2,g3,g4,g5,g6,g7,g8,_⟩:=T1.out.vals;obtain⟨_,ha,da,hb,db,i0,i1,i2,i3,i4,i5,i6,i7,i8,_⟩:=T2.out.vals;have al:=fun(ob:Obj)=>(AQ wr.heap.size wr).alloc lr ob;have J3:=fun ob=>Aq j3 (al ob);have I0:=fun ob=>Aq i0 (al ob);have I1:=fun ob=>Aq i1 (al ob);have I2:=fun ob=>Aq i2 (al ob);have I3:=fun ob=>Aq i3 (al ob);have I4:=fun ob=>Aq i4 (al ob);have I5:=fun ob=>Aq i5 (al ob);have I6:=fun ob=>Aq i6 (al ob);have I7:=fun ob=>Aq i7 (al ob);have I8:=fun ob=>Aq i8 (al ob);have IX:=AA<|AF i1<|AF i2<|AF i3<|AF i4<|AF i5<|AF i6<|AF i7 i8;clear G1 G2 hcw j3 i0 i1 i2 i3 i4 i5 i6 i7 i8 al;generalize x.guards[m]=g at*;go_wp2_with fail
     obtain⟨W4,hW4⟩: ∃ W4,AC ((((wr.alloc<|.cells #[.int .i64 g.op,.int .i64 g.a.k,.int .i64 g.a.i,.string g.a.t,.slice ga g.a.l.length ca,.int .i64 g.b.k,.int .i64 g.b.i,.string g.b.t,.slice gb g.b.l.length cb] 102).alloc<|.cells #[.int .i64 g.op,.int .i64 g.a.k,.int .i64 g.a.i,.string g.a.t,.slice ha g.a.l.length da,.int .i64 g.b.k,.int .i64 g.b.i,.string g.b.t,.slice hb g.b.l.length db] 102).alloc<|.cells #[.int .i64 g.a.k,.int .i64 g.a.i,.string g.a.t,.slice ga g.a.l.length ca,.int .i64 g.b.k,.int .i64 g.b.i,.string g.b.t,.slice gb g.b.l.length cb] 100).alloc (.cells #[.int .i64 g.a.k,.int .i64 g.a.i,.string g.a.t,.slice ha g.a.l.length da,.int .i64 g.b.k,.int .i64 g.b.i,.string g.b.t,.slice hb g.b.l.length db] 100)=W4):=⟨_,⟨rfl⟩⟩;rw[hW4.out];have B4:Bl wr W4:=hW4.out▸((((AQ _ wr).alloc lr _).alloc zw _).alloc (by simp;omega) _).alloc (by simp;omega) _;have M0:AJ W4 wr.heap.size #[.int .i64 g.op,.int .i64 g.a.k,.int .i64 g.a.i,.string g.a.t,.slice ga g.a.l.length ca,.int .i64 g.b.k,.int .i64 g.b.i,.string g.b.t,.slice gb g.b.l.length cb] 102:=hW4.out▸(((AJ.new wr _ _).alloc _).alloc _).alloc _;have M1:AJ W4 (wr.heap.size+1) #[.int .i64 g.op,.int .i64 g.a.k,.int .i64 g.a.i,.string g.a.t,.slice ha g.a.l.length da,.int .i64 g.b.k,.int .i64 g.b.i,.string g.b.t,.slice hb g.b.l.length db] 102:=hW4.out▸((Jd wr _ _ _).alloc _).alloc _;have M2:AJ W4 (wr.heap.size+1+1) #[.int .i64 g.a.k,.int .i64 g.a.i,.string g.a.t,.slice ga g.a.l.length ca,.int .i64 g.b.k,.int .i64 g.b.i,.string g.b.t,.slice gb g.b.l.length cb] 100:=hW4.out▸(Yd3 _ _ _ zw).alloc _;have M3:AJ W4 (wr.heap.size+1+1+1) #[.int .i64 g.a.k,.int .i64 g.a.i,.string g.a.t,.slice ha g.a.l.length da,.int .i64 g.b.k,.int .i64 g.b.i,.string g.b.t,.slice hb g.b.l.length db] 100:=hW4.out▸Yd3 _ _ _ zw;have fO:Dy B W4.heap.size wr W4:=Go.W.Below.carry (B4.mono<|AU hB<|AU HB.out.size dH.out.size)<|AU hB<|AU HB.out.size<|AU dH.out.size B4.size;have RA:Ap 4 (D6 W4.heap.size W4<|D+2) (some ⟨wr.heap.size+1+1,0,none⟩) [g.a,g.b]:=Ya0 (D6.to T1.out.a fO M2.lt fun j v hj h=>(M2.cell _).trans (by
      match j with
      | 0=>exact g1.symm.trans h
      | 1=>exact g2.symm.trans h
      | 2=>exact g3.symm.trans h
      | 3=>exact g4.symm.trans h
      | j+4=>omega)) (D6.to T1.out.b fO M2.lt fun j v hj h=>(M2.cell _).trans (by
      match j with
      | 0=>exact g5.symm.trans h
      | 1=>exact g6.symm.trans h
      | 2=>exact g7.symm.trans h
      | 3=>exact g8.symm.trans h
      | j+4=>omega))
     have RB:Ap 4 (D6 W4.heap.size W4<|D+2) (some ⟨wr.heap.size+1+1+1,0,none⟩) [g.a,g.b]:=Ya0 (D6.to T2.out.a fO M3.lt fun j v hj h=>(M3.cell _).trans (by
      match j with
      | 0=>exact IX.out.1.symm.trans h
      | 1=>exact IX.out.2.1.symm.trans h
      | 2=>exact IX.out.2.2.1.symm.trans h
      | 3=>exact IX.out.2.2.2.1.symm.trans h
      | j+4=>omega)) (D6.to T2.out.b fO M3.lt fun j v hj h=>(M3.cell _).trans (by
      match j with
      | 0=>exact IX.out.2.2.2.2.1.symm.trans h
      | 1=>exact IX.out.2.2.2.2.2.1.symm.trans h
      | 2=>exact IX.out.2.2.2.2.2.2.1.symm.trans h
      | 3=>exact IX.out.2.2.2.2.2.2.2.symm.trans h
      | j+4=>omega))
     have CS:=Zlw (D+2) (c:=2) (c':=2) lr RA RB;refine mq CS ?_;rintro w5 Bf;have B5:=AA<|dH.out.trans<|(B4.trans<|Bf.mono B4.size).mono dH.out.size;obtain⟨y0,y1,y2,y3,y4,y5,y6,y7,y8,_⟩:=(M0.of<|Bf.block _ M0.lt).nine;obtain⟨z0,z1,z2,z3,z4,z5,z6,z7,z8,_⟩:=(M1.of<|Bf.block _ M1.lt).nine;clear CS RA RB fO M0 M1 M2 M3 Bf B4 hW4 g0 g1 g2 g3 g4 g5 g6 g7 g8 I0 I1 I2 I3 I4 I5 I6 I7 I8 J3 IX;go_wp2
     exact⟨⟨m+1,zx,by go_num,B5.out⟩,by simp[intOf];omega⟩
    ·obtain rfl:m=gn:=zx
     go_wp2
     exact⟨⟨k+1,zx,by go_num,HB.out.trans<|dH.out.mono HB.out.size⟩,by simp[intOf];omega⟩
  ·obtain rfl:k=n:=zx
   go_wp2
   go_ret
   exact⟨rfl,HB.out⟩
end Go.P
