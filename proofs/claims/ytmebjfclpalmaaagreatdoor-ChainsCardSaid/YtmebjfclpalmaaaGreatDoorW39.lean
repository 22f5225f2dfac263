import Derived.Test.YtmebjfclpalmaaaGreatDoorW38
import Derived.Lib.ConvBytes
set_option maxRecDepth 100000
set_option maxHeartbeats 8000000
set_option linter.unusedSimpArgs false
open Go.Proofs Go.RowKit Go.W Tryz
namespace Go.P
variable {key:ByteArray}{l:By}{S:Bool}{y0:ByteArray×Bk}{ys:List (ByteArray×Bk)}
theorem _root_.Go.W.Zxs.enc {y:ByteArray×Bk}(h:Zxs y):Zh6 y.2=0/\Zcd y.2=y.1:=by
 obtain⟨e,hw,_⟩:=Z0a h.1;rw[Zjw]at e;have h4: ¬ 4000 < (Ze9 y.2).size:=by rw[e];have:=h.2;omega
 have h0:Zh6 y.2=0:=by simp[Zh6,hw,h4]
 exact⟨h0,(if_pos h0).trans e⟩
theorem Zud (key t0:ByteArray)(ts:List ByteArray):Zph key (t0::ts)=⟨(Zk2 (Zaj key [t0]) ts).toArray⟩:=by
 unfold Zph Zk2;rw[List.foldl_cons];generalize Zaj key [t0]=g;induction ts generalizing g with
 | nil=>rfl
 | cons t ts ih=>exact ih _
theorem Zs6.links (g:Zs6 key l S y0 ys):((y0::ys).map (·.2)).map Zcd=(y0::ys).map (·.1)/\ ∀ x,x∈(y0::ys).map (·.2)->Zh6 x=0:=by
 obtain⟨_,_,_,_,hk⟩:=Zfz g.2.1;constructor
 ·rw[List.map_map];exact List.map_congr_left fun y hy=>(hk y hy).enc.2
 ·intro x hx;obtain⟨y,hy,rfl⟩:=List.mem_map.1 hx;exact(hk y hy).enc.1
theorem Zs6.bytes (g:Zs6 key l S y0 ys):(Zwg S (y0::ys).length++cat Zb4 ((y0::ys).map (·.1)))++(if S then⟨(Zaj (Zph key ((y0::ys).map (·.1))) [Zh4]).toArray⟩else Zph key ((y0::ys).map (·.1)))=ba l:=by
 have e:=(Zfz g.2.1).1;rw[e];unfold Zwg Zcc Zaz;rw[Yeo,List.map_cons,Zud];simp only[Zay];cases S <;> rfl
theorem Zs6.four (g:Zs6 key l S y0 ys):6<=(ba l).size/\ ∀ h:4 < (ba l).size,((ba l)[4].toNat:Int)=if S then 1 else 0:=by
 have e:=(Zfz g.2.1).1;have hl:l=Zcj++(bl (b1 (if S then 1 else 0))++(bl (Zaz Zb4 ((y0::ys).map (·.1)))++Zp0 S (Zk2 (Zaj key [y0.1]) (ys.map (·.1))))):=by
  rw[<- Zpn l,e];unfold Zcc;rw[Zbq,Zbq,Zbq,Zpn,Zpn];simp only[Ydq]
 have h32:(Zp0 S (Zk2 (Zaj key [y0.1]) (ys.map (·.1)))).length=32:=(Zfz g.2.1).2.1;constructor
 ·rw[Zcx,hl];simp only[Yeg,h32];omega
 ·intro h
  have:(ba l)[4]=(l.getD 4 0):=by
   have h':4 < l.length:=by rw[<- Zcx];exact h
   show l.toArray[4]=_;rw[List.getD_eq_getElem?_getD,Ydi h'];rfl
  rw[this,hl];cases S <;> rfl
theorem Ybh {t0:ByteArray}{ts:List ByteArray}{k:Nat}{t:List UInt8}(h:(Zaj key [t0]::Zf4 (Zaj key [t0]) ts)[k]?=some t):(⟨t.toArray⟩:ByteArray)=Zph key ((t0::ts).take (k+1)):=by
 cases k with
 | zero=>
  cases h;rfl
 | succ k=>
  have h:(Zf4 (Zaj key [t0]) ts)[k]?=some t:=h;have hk:k < ts.length:=by
   rw[<- Zdq (Zaj key [t0]) ts];exact(Ydl.1 h).1
  rw[Zk3 ts _ k hk]at h;cases h;rw[List.take_succ_cons,Zud]
def lk (x:Bk):ByteArray×Bk:=(Zcd x,x)
theorem Zu5 (tag:List UInt8)(xs:List Bk):Zhv tag xs=Zk2 tag ((xs.map lk).map (·.1)):=by
 unfold Zhv Zk2;rw[List.map_map,List.foldl_map];rfl
theorem Zqf: ∀ (xs:List Bk) (n:Nat),n<=8->Zhl n xs=0->n+xs.length<=8/\ ∀ x,x∈xs->Zh6 x=0
 | [],n,h,_=>⟨h,fun _ h=>by cases h⟩
 | x::xs,n,h,h0=>by
  unfold Zhl at h0;split at h0
  ·rename_i ha;unfold Zxv at ha;split at ha
   ·cases ha
   ·have:=Zqf xs (n+1) (by omega) h0
    refine⟨by simp;omega,fun y hy=>?_⟩;rcases Ydj.1 hy with rfl | hy
    ·exact ha
    ·exact this.2 y hy
  ·rename_i ha;exact absurd h0 ha
structure Ycw (key:ByteArray) (x:Bk) (xs:List Bk) (u s:ByteArray):Prop where
 ue:Zyu (Zof key x xs)=u
 un:Zs6 key (bl u) false (lk x) (xs.map lk)
 sn:Zs6 key (bl s) true (lk x) (xs.map lk)
 ul:(bl u).length < 1000000000
 sl:(bl s).length < 1000000000
 u0:0 < u.size
 s0:0 < s.size
 se:Zj7 (bl u)= .ok s
 sa:Zmq (bl s) []= .error 9
 ss:Zj7 (bl s)= .error 9
theorem Yc9 {x:Bk}{xs:List Bk}(hm:Zg9 key x=0)(ha:Zs1 (Zof key x xs)=0)(hi: ∀ y,y∈x::xs->Zvl y): ∃ u s,Ycw key x xs u s:=by
 unfold Zg9 at hm;split at hm
 rotate_left
 ·cases hm
 rename_i hk;have hmb:Zff key x=Zcc false ([x].map Zcd) (Zaj key [Zcd x]):=if_pos ⟨hk,hm⟩;have hu1:Zo3 (bl (Zff key x))= .ok ⟨false,[x].map lk,Zaj key [Zcd x]⟩:=by
  unfold Zo3;rw[hmb,Zkj (xs:=[x]) (tag:=Zaj key [Zcd x]) (by simp) (by simp) (Zar _) (fun y hy=>by
   obtain rfl:y=x:=by simpa using hy
   exact⟨hm,hi y (List.mem_cons_self ..)⟩)]
  rfl
 have hat:Zmq (bl (Zff key x)) xs=if Zhl 1 xs=0 then .ok (Zcc false ((x::xs).map Zcd) (Zhv (Zaj key [Zcd x]) xs))else .error (Zhl 1 xs):=by
  unfold Zmq;rw[hu1];rfl
 have ha0:Zhl 1 xs=0:=by
  by_cases h:Zhl 1 xs=0
  ·exact h
  ·unfold Zof at ha;rw[hat,if_neg h]at ha;exact ha
 rw[if_pos ha0]at hat
 obtain⟨h8,he⟩:=Zqf xs 1 (by omega) ha0;have hall: ∀ y,y∈x::xs->Zh6 y=0/\Zvl y:=fun y hy=>⟨by
  rcases Ydj.1 hy with rfl | hy
  ·exact hm
  ·exact he y hy,hi y hy⟩
 have htl:(Zhv (Zaj key [Zcd x]) xs).length=32:=Zfa (Zar _) xs;have hln:(x::xs).length<=8:=by simp;omega
 have hsz: ∀ t,t∈(x::xs).map Zcd->t.size<=4000:=fun t ht=>by
  obtain⟨y,_,rfl⟩:=List.mem_map.1 ht;exact Zc7 y
 have cp: ∀ (S:Bool) (tag:By),tag.length=32->Zb1 Zcf (bl (Zcc S ((x::xs).map Zcd) tag))= .ok ⟨S,(x::xs).map lk,tag⟩:=fun S tag ht=>Zkj (by simp) hln ht hall;have pos: ∀ (S:Bool) (tag:By),0 < (Zcc S ((x::xs).map Zcd) tag).size:=fun S tag=>by
  unfold Zcc;rw[Zae,Zae,Zae]
  have:(ba Zcj).size=4:=rfl
  omega
 have lt: ∀ (S:Bool) (tag:By),tag.length=32->(bl (Zcc S ((x::xs).map Zcd) tag)).length < 1000000000:=fun S tag ht=>by
  rw[Zcy];exact Ze0 S (by simpa using hln) hsz ht
 have hkl: ∀ k ts,(Zaj k ts).length=32:=fun k ts=>Zar _;refine⟨Zcc false ((x::xs).map Zcd) (Zhv (Zaj key [Zcd x]) xs),Zcc true ((x::xs).map Zcd) (Zaj ⟨(Zhv (Zaj key [Zcd x]) xs).toArray⟩ [Zh4]),?_,⟨hk,?_,?_⟩,⟨hk,?_,?_⟩,lt _ _ htl,lt _ _ (hkl _ _),pos _ _,pos _ _,?_,?_,?_⟩
 ·unfold Zof;rw[hat];rfl
 ·rw[cp _ _ htl,Zu5];rfl
 ·simp only[Yeo];omega
 ·rw[cp _ _ (hkl _ _),Zu5];rfl
 ·simp only[Yeo];omega
 ·unfold Zj7 Zo3;rw[cp _ _ htl];show Except.ok (Zcc true (((x::xs).map lk).map (·.1)) _)=_;rw[List.map_map];rfl
 ·unfold Zmq Zo3;rw[cp _ _ (hkl _ _)];rfl
 ·unfold Zj7 Zo3;rw[cp _ _ (hkl _ _)];rfl
theorem Zs6.only {S':Bool}{z0:ByteArray×Bk}{zs:List (ByteArray×Bk)}(g:Zs6 key l S y0 ys)(h:Zs6 key l S' z0 zs):S'=S/\z0=y0/\zs=ys:=by
 have:=g.2.1.symm.trans h.2.1
 cases this;exact⟨rfl,rfl,rfl⟩
end Go.P
namespace Go.P
variable {key:ByteArray}{l:By}{w:World}
def Yal (w:World) (key:ByteArray) (ts:List ByteArray) (kv iv:Value) (wr:World):Prop:= ∃ k:Nat,k<=ts.length/\iv= .int .i64 (k:Int)/\kv= .string (Zph key (ts.take k))/\Below w.heap.size w wr
theorem Z5u.got {u:World}{v1 v2:Value}{n:Int}(h:Z5u key l w v1 v2 n u):(Ten n/\v1= .slice none 0 0/\v2= .slice none 0 0/\ ∀ S y0 ys,¬ Zs6 key l S y0 ys)\/(n=0/\ ∃ S y0 ys p1 c1 p2 c2,Zs6 key l S y0 ys/\v1= .slice p1 (ys.length+1) c1/\v2= .slice p2 (ys.length+1) c2/\ys.length+1<=c1/\Zan 3 (Zbx u.heap.size u 4) p1 ((y0::ys).map (·.2))/\Zan 1 (fun b o (y:ByteArray)=>b < u.heap.size/\u.cell? ⟨b,o,none⟩=some (.string y)) p2 ((Zaj key [y0.1]::Zf4 (Zaj key [y0.1]) (ys.map (·.1))).map fun t=>⟨(ofB [⟨t.toArray⟩]).toArray⟩)):=by
 rcases h with h | ⟨rfl,S,y0,ys,g,F1,F2,W0,hb0,hb1,hr1,hr2,hN1,hN2⟩
 ·exact .inl h
 ·obtain⟨p1,c1,rfl,hc1,rb⟩:=Zag.rowOf (Q':=Zbx u.heap.size u 4) hr1 hN1.lt fun _ _ _ _ _ hcc hbb _ q=>Zbd.at q.2 (Go.W.Below.carry hb1 hb1.size) hbb hcc;obtain⟨p2,c2,rfl,_,ry⟩:=Zag.rowOf (Q':=fun b o (y:ByteArray)=>b < u.heap.size/\u.cell? ⟨b,o,none⟩=some (.string y)) hr2 hN2.lt fun b o vs y _ hcc hbb _ q=>by
   obtain⟨_,rfl⟩:=q;exact⟨hbb,hcc 0 (by omega)⟩
  exact .inr ⟨rfl,S,y0,ys,p1,c1,p2,c2,g,by simp,by simp[Zdq],by simpa using hc1,rb,ry⟩
theorem Z0m (V:Zav)(CL:Zbh){a:Nat->Addr}(Z:Zao a w)(E:Zjs a w)(hk:key.size < 1000000000)(hl:l.length < 1000000000):Calls prog 12 #[.string key,.string (ba l)] w fun e w'=>e= .returned (.bool true)/\Below w.heap.size w w':=by
 have C:=Zaa (Zol V CL (key:=key) (l:=l) Z E hk hl);have CR:=Zaa (fun u (hu:Below w.heap.size w u) p c xs S (h8:xs.length<=8) (hr:Zan 3 (Zbx u.heap.size u 4) p xs) (hok: ∀ x,x∈xs->Zh6 x=0)=>Zw5 (c:=c) (S:=S) V (Z.below hu) (E.below hu) hk h8 hr hok);have CE:=Zaa (fun u (hu:Below w.heap.size w u) vs x (hS:Zbd u.heap.size u 3 vs x)=>Zoi V (Z.below hu) (E.below hu) lr hS);have CM:=Zaa (fun u (hu:Below w.heap.size w u) (kk t:ByteArray) (hk:kk.size < 1000000000) p (hT:Zef u p [t])=>Zyy (c:=1) (Z.below hu) hk hT (by simp));have CS:=Zaa (fun u (hu:Below w.heap.size w u) (t:ByteArray) (ht:t.size < 1000000000)=>Z43 (Z.below hu) ht);have hTl:(ba l).size < 1000000000:=by rw[Zcx];exact hl
 clear Z E V CL hl;obtain⟨T,hT⟩: ∃ T,Box (ba l=T):=⟨_,⟨rfl⟩⟩;rw[hT.out]at C hTl⊢;go_in
 go_wp2_with fail
 refine C.out.mono ?_;rintro e w1 ⟨v1,v2,n,rfl,hV,hb1⟩;have B1:=Zaa hb1;clear hb1 C;rcases hV.got with⟨hn,rfl,rfl,_⟩ | ⟨rfl,S,y0,ys,p1,c1,p2,c2,g,rfl,rfl,hc1,rb,ry⟩
 ·have hn0:(n==0)=false:=by have:=hn.1;simp;omega
  clear hV hn CR CE CM CS;go_wp2
  go_ret
  exact⟨rfl,B1.out⟩
 clear hV;obtain⟨hf6,hf4⟩:=g.four;obtain⟨hxe,hok⟩:=g.links;have hby:=g.bytes;have h8:=g.2.2;have CX:=Zaa (CR.out w1 B1.out p1 c1 ((y0::ys).map (·.2)) S (by simp;omega) rb hok);rw[hxe,Yeo,hby,hT.out]at CX;rw[hT.out]at hf6 hf4;have HR:=Zaa rb;have HI:Box (∀ k,k < ys.length+1-> ∃ b o,p2=some ⟨b,o,none⟩/\w1.cell? ⟨b,o+k,none⟩=some (.string ⟨(ofB [Zph key (((y0::ys).map (·.1)).take (k+1))]).toArray⟩)):=⟨fun k hkn=>by
  have hlt:k < (Zaj key [y0.1]::Zf4 (Zaj key [y0.1]) (ys.map (·.1))).length:=by simp[Zdq];omega
  obtain⟨b,o,e,_,hc⟩:=ry.at_ k _ (by rw[Yd5,Ydi hlt];rfl);refine⟨b,o,e,?_⟩;rw[Nat.mul_one]at hc;rw[hc];dsimp only;rw[Ybh (Ydi hlt)]
  rfl⟩
 clear CR hok hby g ry rb hc1;obtain⟨m,hm⟩: ∃ m,Box (ys.length+1=m):=⟨_,⟨rfl⟩⟩;have hlx:Box (((y0::ys).map (·.2)).length=m):=⟨by rw[<- hm.out];simp⟩;have hlt:Box (((y0::ys).map (·.1)).length=m):=⟨by rw[<- hm.out];simp⟩;have HXE:=Zaa hxe;rw[show(y0::ys).length=m by rw[<- hm.out];rfl]at CX;rw[hm.out]at HI⊢;have hm8:m<=8:=by rw[<- hm.out];omega
 clear h8 hm hxe;generalize (y0::ys).map (·.2)=xs at*;generalize (y0::ys).map (·.1)=ts at*;clear y0 ys;have hS4: ∀ h:4 < T.size,((T[4].toNat:Int)==1)=S:=fun h=>by rw[hf4 h];cases S <;> rfl
 clear hf4;go_wp2_with fail
 refine mq CX.out ?_;rintro w2 hb2;have B2:=Zaa hb2;clear hb2 CX hS4 hf6;go_wp2
 go_loopw [10,11] (fun kv iv wr=>Yal w1 key ts kv iv wr) (fun _ iv _=>m - (intOf iv).toNat)
 case atStart=>exact⟨0,by omega,rfl,by simp[Zph],B2.out⟩
 case round=>
  obtain⟨k,hkn,rfl,rfl,hbw⟩:=hrel;rw[hlt.out]at hkn;have HB:=Zaa hbw;clear hbw;by_cases hltm:k < m
  ·have hlt':k < xs.length:=by rw[hlx.out];exact hltm
   obtain⟨b,o,rfl,hx⟩:=HR.out.get k hlt';obtain⟨_,q1,d1,q2,d2,q3,d3,x0,x1,x2,hS⟩:=hx.vals;obtain⟨b2,o2,rfl,i0⟩:=HI.out k hltm;have HX:=Zaa (fun u (hu:Below w1.heap.size w1 u)=>Yda (Zab x0 hu) (Yda (Zab x1 hu) (Zab x2 hu)));have HJ:=Zaa (fun u (hu:Below w1.heap.size w1 u)=>Zab i0 hu);have HS:=Zaa (fun u (hu:Below w1.heap.size w1 u)=>Zbd.carry hS (Go.W.Below.carry hu hu.size));have e1:Box (Zph key (ts.take (k+1))=⟨(Zaj (Zph key (ts.take k)) [Zcd xs[k]]).toArray⟩):=⟨by
    have:=Zue (key:=key) hlt'
    rw[List.map_take,List.map_take,HXE.out]at this;exact this⟩
   rw[e1.out]at HJ;clear x0 x1 x2 hS hx i0;generalize xs[k]=x at*;obtain⟨y0,y1,y2⟩:=HX.out wr HB.out;have hks:=Zaa (Zoa (ts.take k) hk);have htx:=Zc7 x;go_wp2_with fail
   refine(CE.out _ (tr B1 HB.out).out _ _ (HS.out _ HB.out)).mono ?_;rintro e w3 ⟨rfl,hb3⟩;have B3:=tr HB hb3;clear hb3 y0 y1 y2 HB HS HX CE;generalize Zph key (ts.take k)=kk at*;generalize Zcd x=t at*;generalize Zh6 x=nn at*;go_wp2_with fail
   have B4:=Zaa (B3.out.alloc B3.out.size (.cells #[.string t] 9));refine(CM.out _ (tr B1 B4.out).out kk t hks.out _ ?_).mono ?_
   ·intro i y hy;obtain⟨rfl,rfl⟩:i=0/\y=t:=by
     cases i with
     | zero=>exact⟨rfl,by simpa using hy.symm⟩
     | succ i=>simp at hy
    exact⟨by omega,w3.heap.size,0,rfl,by simp,(Blk.new w3 _ _).cell 0⟩
   rintro e w4 ⟨rfl,hb4⟩;have B5:=tr B4 hb4;clear hb4 B4 B3 CM;have hk3:(⟨(Zaj kk [t]).toArray⟩:ByteArray).size < 1000000000:=Nat.lt_of_le_of_lt (Nat.le_of_eq ((Zcx _).trans (Zar _))) (by decide);obtain⟨k2,hk2⟩: ∃ k2,Box ((⟨(Zaj kk [t]).toArray⟩:ByteArray)=k2):=⟨_,⟨rfl⟩⟩;rw[hk2.out]at e1 hk3 HJ⊢;go_wp2_with fail
   refine(CS.out _ (tr B1 B5.out).out k2 hk3).mono ?_;rintro e w5 ⟨rfl,hb5⟩;have B6:=tr B5 hb5;have j0:=HJ.out w5 B6.out;clear hb5 B5 CS HJ;generalize (⟨(ofB [k2]).toArray⟩:ByteArray)=sv at*;go_wp2
   exact⟨⟨k+1,by rw[hlt.out];omega,by go_num,by rw[e1.out],B6.out⟩,by simp[intOf];omega⟩
  ·obtain rfl:k=m:=by omega
   clear CE CM CS HR HI;go_wp2
   go_ret
   exact⟨rfl,B1.out.trans (HB.out.mono B1.out.size)⟩
end Go.P
namespace Go.P
theorem Znn (w:World)(e:TypeId)(s:ByteArray)(j:Nat)(hj:j < s.size):(Lib.bytesWorld w e s).frozen? ⟨w.heap.size,j,none⟩=false:=by
 have h:s.size<=(Lib.bytesCells w e s).size:=by simp[Lib.bytesCells]
 simp[World.frozen?,Lib.bytesWorld_at_new];omega
theorem Z5x {t:ByteArray}{K A:Int}{s:ByteArray}(hA: -9223372036854775808<=A/\A < 9223372036854775808)(h0:0 < t.size)(hn:t.size < 1000000000)(w:World):Calls prog 11 #[.string t,.agg #[.int .i64 K,.int .i64 A,.string s]] w fun e w'=> ∃ l:By,e= .returned (.string (ba l))/\l.length<=t.size/\Below w.heap.size w w':=by
 have C:=Zaa (fun u=>Z61 hA h0 hn u);clear hA;obtain⟨n,hn'⟩: ∃ n,Box (t.size=n):=⟨_,⟨rfl⟩⟩;rw[hn'.out]at h0 hn C⊢;go_in
 go_wp2_with fail
 rw[hn'.out];refine(C.out _).mono ?_;rintro e w1 ⟨⟨k,hk,rfl⟩,rfl⟩;by_cases hs:s.size=0
 ·have he:s.toList.isEmpty=true:=by simpa using Z71 hs
  have hk':k<=t.size:=by rw[hn'.out];omega
  have B0:=Zaa ((Ydb _ w).alloc lr (.cells #[.int .i64 K,.int .i64 A,.string s] 48));go_wp2
  go_ret
  refine⟨bl (t.extract 0 k),by rw[Zjw];rfl,?_,B0.out⟩;rw[Zcy,Yeh];omega
 ·have he:s.toList.isEmpty=false:=by simpa using Yax (s:=s) (by omega)
  have hs0:0 < s.size:=by omega
  obtain⟨W1,hW1⟩: ∃ W1,Box (w.alloc (.cells #[.int .i64 K,.int .i64 A,.string s] 48)=W1):=⟨_,⟨rfl⟩⟩;have hz:W1.heap.size=w.heap.size+1:=by rw[<- hW1.out];simp
  have hcv:=Lib.run_convert_string_bytes (P:=prog) W1 9 74 5 t underlying9 underlying74 underlying5;have hc0:(Lib.bytesWorld W1 5 t).cell? ⟨w.heap.size,2,none⟩=some (.string s):=by
   rw[Lib.bytesWorld_old _ _ _ _ (by simp[hz]),<- hW1.out];exact(Blk.new w _ _).cell 2
  have HC:=Zaa (fun j hj=>Lib.bytesWorld_cell W1 5 t j hj);have hck:=HC.out k (by rw[hn'.out];exact hk);have hfk:=Znn W1 5 t k (by rw[hn'.out];exact hk);have hB2:Below w.heap.size w (Lib.bytesWorld W1 5 t):=⟨by rw[<- hW1.out];rfl,by rw[<- hW1.out];rfl,by rw[<- hW1.out];rfl,by rw[Lib.bytesWorld_size];omega,fun j hj=>by rw[Lib.bytesWorld_at_old _ _ _ _ (by omega),<- hW1.out];exact((Ydb _ w).alloc lr _).block j hj⟩;have B2:=Zaa hB2;clear hB2;have hz2:=Lib.bytesWorld_size W1 5 t;rw[hn'.out]at hcv;rw[hz]at hcv hck hfk HC hz2;rw[<- hW1.out]at hcv;generalize grownCap _ _ _ _=G at hcv;rw[hW1.out]at hcv;generalize Lib.bytesWorld W1 5 t=W2 at*;rw[<- hW1.out]at hcv;generalize (t.data.toList.getD k 0)=y at hck;go_wp2
  go_region
  obtain⟨z,hzz⟩: ∃ z:UInt8,bits .xor .u8 (y.toNat:Int) (s[0].toNat:Int)=(z.toNat:Int):=by
   have h:=bits_within .xor .u8 (y.toNat:Int) (s[0].toNat:Int);generalize bits .xor .u8 (y.toNat:Int) (s[0].toNat:Int)=i at h⊢;have h1:(0:Int)<=i:=h.1;have h2:i<=255:=h.2;exact⟨UInt8.ofNat i.toNat,by simp;omega⟩
  rw[hzz];clear hzz;obtain⟨xs,hxs⟩: ∃ xs,Box ((bl t).set k z=xs):=⟨_,⟨rfl⟩⟩;have hxl:xs.length=n:=by rw[<- hxs.out,List.length_set,Zcy,hn'.out]
  have ad: ∀ j,(⟨w.heap.size+1,0,none⟩:Addr).add j=⟨w.heap.size+1,j,none⟩:=fun j=>by unfold Addr.add;split <;> simp_all
  have hcell: ∀ j (hj:j < xs.length),(W2.setCell ⟨w.heap.size+1,k,none⟩ (.int .u8 (z.toNat:Int))).drew.cell? ((⟨w.heap.size+1,0,none⟩:Addr).add j)=some (.int .u8 (xs[j].toNat:Int)):=fun j hj=>by
   rw[ad,World.cell?_drew];have hx:xs[j]=if k=j then z else(bl t).getD j 0:=by
    have hjl:j < (bl t).length:=by rw[Zcy,hn'.out];omega
    have:xs[j]?=((bl t).set k z)[j]?:=by rw[hxs.out]
    rw[Ydi hj,List.getElem?_set]at this;by_cases hkj:k=j
    ·subst hkj;simpa[hjl]using this
    ·simpa[hkj,hjl,List.getD]using this
   rw[hx];by_cases hkj:k=j
   ·subst hkj;rw[if_pos rfl];exact World.cell?_setCell_same _ _ _ hck
   ·rw[if_neg hkj,World.cell?_setCell_other _ _ _ _ (by simp)];exact HC.out j (by rw[hn'.out];omega)
  have hcv2:=Yfp (P:=prog) _ 74 9 5 ⟨w.heap.size+1,0,none⟩ G xs underlying74 underlying5 underlying9 hcell;rw[hxl]at hcv2;have hB3:Below w.heap.size w (W2.setCell ⟨w.heap.size+1,k,none⟩ (.int .u8 (z.toNat:Int))):=B2.out.setCell (by simp) _;have B3:Box (Below w.heap.size w (W2.setCell ⟨w.heap.size+1,k,none⟩ (.int .u8 (z.toNat:Int))).drew):=⟨⟨hB3.os,hB3.tape,hB3.output,hB3.size,hB3.block⟩⟩;clear hB3;clear hcell hcv hck hfk hc0;go_wp2
  go_ret
  exact⟨xs,rfl,by omega,B3.out⟩
end Go.P
namespace Go.W
def Z8c:ByteArray:=⟨#[114,105,103,104,116,40,34,97,34,41,59,32,109,97,121,40,36,120,41,32,60,45,32,114,105,103,104,116,40,36,120,41,59]⟩
def Z8d:ByteArray:=⟨#[99,104,101,99,107,32,105,102,32,109,97,121,40,34,97,34,41,44,32,116,105,109,101,40,36,116,41,44,32,36,116,32,60,32,64,53,59]⟩
def Zze:ByteArray:=⟨#[97,108,108,111,119,32,105,102,32,109,97,121,40,34,97,34,41,59]⟩
theorem eqB:Zcn Z8c (Ze7 Z8c)= .ok bkB:=by kernel_rfl
theorem eqC:Zcn Z8d (Ze7 Z8d)= .ok bkC:=by kernel_rfl
theorem eqP:Zcn Zze (Zdo Zze)= .ok [Yac]:=by kernel_rfl
end Go.W
namespace Go.P
section
variable {a:Nat->Addr} {w:World}
theorem Zul {t:ByteArray}{x:Bk}(ht:t.size < 1000000000)(hx:Zcn t (Ze7 t)= .ok x)(Z:Zao a w)(E:Zjs a w):Calls prog 15 #[.string t] w fun e w'=> ∃ p c p1 c1 p2 c2 q,e= .returned (.tuple #[.agg #[.slice p x.facts.length c,.slice p1 x.rules.length c1,.slice p2 x.checks.length c2],.int .i64 0,.int .i64 q])/\Zbd w'.heap.size w' 3 [.slice p x.facts.length c,.slice p1 x.rules.length c1,.slice p2 x.checks.length c2] x/\Below w.heap.size w w':=by
 refine(Zq7 t ht Z E).mono ?_;rintro e w' ⟨s,m,q,rfl,hk,hb⟩;rcases hk with⟨⟨er,h⟩,_⟩ | ⟨rfl,y,F,h2,h3,h4⟩
 ·rw[hx]at h;cases h
 ·rw[hx]at h2;cases h2;have hS:=Zbj.toS h3 h4.lt;obtain⟨p,c,p1,c1,p2,c2,e1,_⟩:=id hS;have e2:sl3 s=#[.slice p x.facts.length c,.slice p1 x.rules.length c1,.slice p2 x.checks.length c2]:=by rw[<- Array.toArray_toList (xs:=sl3 s),e1]
  exact⟨p,c,p1,c1,p2,c2,q,by rw[e2],e1▸hS,hb⟩
theorem Z65 (Z:Zao a w)(E:Zjs a w):Calls prog 16 #[.string Zze] w fun e w'=> ∃ p c q,e= .returned (.tuple #[.slice p 1 c,.int .i64 0,.int .i64 q])/\Zan 2 (Zjt w'.heap.size w' 4) p [Yac]/\Below w.heap.size w w':=by
 refine(Zur Zze (by decide) Z E).mono ?_;rintro e w' ⟨v,m,q,rfl,hk,hb⟩;rcases hk with⟨⟨er,h⟩,_⟩ | ⟨rfl,y,F,h2,h3,h4⟩
 ·rw[eqP]at h;cases h
 ·rw[eqP]at h2;cases h2;obtain⟨p,c,rfl,_,hr⟩:=Zag.rowOf (Q':=Zjt w'.heap.size w' 4) h3 h4.lt fun _ _ _ _ _ hcc hbb hG q=>Zhi.at_ q hG hbb hcc;exact⟨p,c,q,rfl,hr,hb⟩
theorem Z2c (V:Zav)(CL:Zbh)(Z:Zao a w)(E:Zjs a w):Calls prog 5 #[] w fun e w'=>e= .returned (.bool true)/\Below w.heap.size w w':=by
 have C1:=Zaa (fun u (hu:Below w.heap.size w u)=>Zul (by decide) eqB (Z.below hu) (E.below hu));have C2:=Zaa (fun u (hu:Below w.heap.size w u)=>Zul (by decide) eqC (Z.below hu) (E.below hu));have C3:=Zaa (fun u (hu:Below w.heap.size w u)=>Z65 (Z.below hu) (E.below hu));have C4:=Zaa (fun u (hu:Below w.heap.size w u) (vs:List Value) (hS:Zbd u.heap.size u 3 vs bkB)=>Z4c V (Z.below hu) (E.below hu) lr hS);have C5:=Zaa (fun u (hu:Below w.heap.size w u) (iB:Zvl bkB) (p:Option Addr) (c:Nat) (hr:Zan 3 (Zbx u.heap.size u 4) p [bkC])=>Z60 V CL (Z.below hu) (E.below hu) lr iB (c:=c) hr);have C6:=Zaa (fun u (hu:Below w.heap.size w u) (iB:Zvl bkB) (iC:Zvl bkC) (p:Option Addr) (c:Nat) (hr:Zan 2 (Zjt u.heap.size u 4) p [Yac])=>Z4b V CL (Z.below hu) lr iB iC (cp:=c) hr);simp only[show bkB.facts.length=1 from rfl,show bkB.rules.length=1 from rfl,show bkB.checks.length=0 from rfl,show bkC.facts.length=0 from rfl,show bkC.rules.length=0 from rfl,show bkC.checks.length=1 from rfl]at C1 C2;clear Z E;go_in
 go_wp2_with fail
 refine(C1.out _ (Ydb _ _)).mono ?_;rintro e w1 ⟨pf,cf,pr,cr,pk,ck,q,rfl,hS1,hb1⟩;have iB:=hS1.inBk (by omega);have S1:=Zaa hS1;have b1:=Zaa hb1;clear hS1 hb1;go_wp2_with fail
 have N1:=Zaa (Blk.new w1 #[.slice pf 1 cf,.slice pr 1 cr,.slice pk 0 ck] 45);have b1':=Zaa (b1.out.alloc b1.out.size (.cells #[.slice pf 1 cf,.slice pr 1 cr,.slice pk 0 ck] 45));have S1':=Zaa (Zbd.carry S1.out (Zfj (.cells #[.slice pf 1 cf,.slice pr 1 cr,.slice pk 0 ck] 45) lr));generalize w1.alloc (.cells #[.slice pf 1 cf,.slice pr 1 cr,.slice pk 0 ck] 45)=W1 at*;refine(C2.out _ b1'.out).mono ?_;rintro e w2 ⟨qf,df,qr,dr,qk,dk,q2,rfl,hS2,hb2⟩;have iC:=hS2.inBk (by omega);have S2:=Zaa hS2;have N2:=Zaa (N1.out.of (hb2.block _ N1.out.lt));have s1:=Zaa (Zbd.carry S1'.out (Za4 hb2 (by have:=N1.out.lt;omega)));have b2:=Zaa (b1'.out.trans (hb2.mono b1'.out.size));have z2:w1.heap.size < w2.heap.size:=Ydh N1.out.lt hb2.size;clear hS2 hb2 b1 S1 N1 b1' S1';go_wp2_with fail
 have b2':=Zaa (b2.out.alloc b2.out.size (.cells #[.slice qf 0 df,.slice qr 0 dr,.slice qk 1 dk] 45));have NB:=Zaa (N2.out.alloc (.cells #[.slice qf 0 df,.slice qr 0 dr,.slice qk 1 dk] 45));have NC:=Zaa (Blk.new w2 #[.slice qf 0 df,.slice qr 0 dr,.slice qk 1 dk] 45);have SB:=Zaa (Zbd.carry s1.out (Zfj (.cells #[.slice qf 0 df,.slice qr 0 dr,.slice qk 1 dk] 45) (Nat.le_of_lt z2)));have SC:=Zaa (Zbd.carry S2.out (Zfj (.cells #[.slice qf 0 df,.slice qr 0 dr,.slice qk 1 dk] 45) lr));generalize w2.alloc (.cells #[.slice qf 0 df,.slice qr 0 dr,.slice qk 1 dk] 45)=W2 at*;refine(C3.out _ b2'.out).mono ?_;rintro e w3 ⟨pp,cp,q3,rfl,hP,hb3⟩;have HA:Box (∀ u,Below w3.heap.size w3 u->(u.cell? ⟨w1.heap.size,0,none⟩=some (.slice pf 1 cf)/\u.cell? ⟨w1.heap.size,1,none⟩=some (.slice pr 1 cr)/\u.cell? ⟨w1.heap.size,2,none⟩=some (.slice pk 0 ck))/\(u.cell? ⟨w2.heap.size,0,none⟩=some (.slice qf 0 df)/\u.cell? ⟨w2.heap.size,1,none⟩=some (.slice qr 0 dr)/\u.cell? ⟨w2.heap.size,2,none⟩=some (.slice qk 1 dk))/\Zbd u.heap.size u 3 [.slice pf 1 cf,.slice pr 1 cr,.slice pk 0 ck] bkB/\Zbd u.heap.size u 3 [.slice qf 0 df,.slice qr 0 dr,.slice qk 1 dk] bkC/\Zan 2 (Zjt u.heap.size u 4) pp [Yac]/\Below w.heap.size w u):=⟨fun u hu=>by
  have h3:=hb3.size;have h4:=hu.size;have hl:=NC.out.lt;have hW:Below W2.heap.size W2 u:=hb3.trans (hu.mono h3);have x1:=(NB.out.of (hW.block _ NB.out.lt)).three;have x2:=(NC.out.of (hW.block _ NC.out.lt)).three;have z1:=hW.size;exact⟨⟨x1.1,x1.2.1,x1.2.2.1⟩,⟨x2.1,x2.2.1,x2.2.2.1⟩,Zbd.carry SB.out (Go.W.Below.carry (hW.mono (by omega)) (by omega)),Zbd.carry SC.out (Go.W.Below.carry (hW.mono (by omega)) (by omega)),hP.carry fun _ _ _ r=>r.carry (Go.W.Below.carry hu h4) lr,b2'.out.trans (hW.mono b2'.out.size)⟩⟩
 obtain⟨⟨y0,y1,y2⟩,⟨x0,x1,x2⟩,_⟩:=HA.out w3 (Ydb _ _);clear hP hb3;go_wp2_with fail
 refine(C4.out _ (HA.out w3 (Ydb _ _)).2.2.2.2.2 _ (HA.out w3 (Ydb _ _)).2.2.1).mono ?_;rintro e w4 ⟨rfl,hb4⟩;have H4:=Zaa hb4;obtain⟨⟨y0,y1,y2⟩,⟨x0,x1,x2⟩,_⟩:=HA.out w4 hb4;clear hb4;generalize ht:Z93=tA;go_wp2_with fail
 have B4:Below w4.heap.size w4 (w4.alloc (.cells #[.slice qf 0 df,.slice qr 0 dr,.slice qk 1 dk] 45)):=(Ydb _ w4).alloc lr _;have M4:=Blk.new w4 #[.slice qf 0 df,.slice qr 0 dr,.slice qk 1 dk] 45;generalize w4.alloc (.cells #[.slice qf 0 df,.slice qr 0 dr,.slice qk 1 dk] 45)=W4 at*;have H4':=Zaa (H4.out.trans (B4.mono H4.out.size));have R4:Zan 3 (Zbx W4.heap.size W4 4) (some ⟨w4.heap.size,0,none⟩) [bkC]:=Z4k (Zbd.at (HA.out W4 H4'.out).2.2.2.1 (Zc1.up lr) M4.lt fun j _=>by rw[Yd7];exact(M4.cell j).trans (Yd8 ..));refine(ht▸C5.out _ (HA.out W4 H4'.out).2.2.2.2.2 iB _ 1 R4).mono ?_;rintro e w5 ⟨rfl,hb5⟩;have H5:=Zaa (H4'.out.trans (hb5.mono H4'.out.size));obtain⟨⟨y0,y1,y2⟩,⟨x0,x1,x2⟩,_⟩:=HA.out w5 H5.out;clear hb5 R4 M4 B4 H4';generalize ht':Z7o=tB;go_wp2_with fail
 refine(ht'▸C6.out _ (HA.out w5 H5.out).2.2.2.2.2 iB iC _ cp (HA.out w5 H5.out).2.2.2.2.1).mono ?_;rintro e w6 ⟨rfl,hb6⟩;have H6:=Zaa (H5.out.trans (hb6.mono H5.out.size));obtain⟨⟨y0,y1,y2⟩,⟨x0,x1,x2⟩,_⟩:=HA.out w6 H6.out;clear hb6;go_wp2
 go_ret
 exact⟨rfl,(HA.out w6 H6.out).2.2.2.2.2⟩
end
end Go.P
