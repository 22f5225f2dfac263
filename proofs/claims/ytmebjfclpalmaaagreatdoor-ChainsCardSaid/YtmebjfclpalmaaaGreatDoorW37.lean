import Derived.Test.YtmebjfclpalmaaaGreatDoorW36
set_option maxRecDepth 100000
set_option maxHeartbeats 8000000
set_option linter.unusedSimpArgs false
open Go.Proofs Go.RowKit Go.W Tryz
namespace Go.P
variable {l:By}{a:Nat->Addr}{w:World}{B D:Nat}{key:ByteArray}
def Zj7 (l:By):Except Int ByteArray:=match Zo3 l with
 | .error n=> .error n
 | .ok ch=> .ok (Zcc true (ch.links.map (·.1)) (Zaj ⟨ch.tag.toArray⟩ [Zh4]))
def Zyu:Except Int ByteArray->ByteArray
 | .error _=>⟨#[]⟩
 | .ok t=>t
def Zs1:Except Int ByteArray->Int
 | .error n=>n
 | .ok _=>0
theorem Z7c {n:Int}(h:Zj7 l= .error n):Ten n:=by
 unfold Zj7 at h;split at h
 ·rename_i hx;cases h;exact Z5f hx
 ·cases h
theorem Zyt (Z:Zao a w)(E:Zjs a w){r:Except Int ByteArray}(h: ∀ n,r= .error n->Ten n):Calls prog 20 #[Zcm a (Zs1 r)] w fun e w'=>e= .returned (.tuple #[.int .i64 (Zs1 r),.int .i64 (-1)])/\Below w.heap.size w w':=by
 cases r with
 | error n=>exact Zxg Z E (h n rfl)
 | ok t=>exact Zws Z E wr0
theorem Z4f (V:Zav)(CL:Zbh)(Z:Zao a w)(E:Zjs a w)(hl:l.length < 1000000000):Calls prog 7 #[.string (ba l)] w fun e w'=>e= .returned (.tuple #[.string (Zyu (Zj7 l)),.int .i64 (Zs1 (Zj7 l))])/\Below w.heap.size w w':=by
 have C:Box (Calls prog 19 #[.string (ba l)] w fun e w'=>e= .returned (.tuple #[.string (Zyu (Zj7 l)),Zcm a (Zs1 (Zj7 l))])/\Below w.heap.size w w'):=⟨(Z4r V CL Z hl).mono fun e w' h=>⟨by
  rcases h.1 with⟨n,h1,_,rfl⟩ | ⟨ch,h1,rfl⟩
  ·unfold Zj7;rw[h1];rfl
  ·unfold Zj7;rw[h1];exact congrArg _ (congrArg _ (by rw[show Zs1 _=0 from rfl,Za0];rfl)),h.2⟩⟩
 have N:=Zaa (fun u (hu:Below w.heap.size w u)=>Zyt (Z.below hu) (E.below hu) (r:=Zj7 l) fun _=>Z7c);clear Z E;generalize Zs1 (Zj7 l)=n at*;generalize Zyu (Zj7 l)=t at*;generalize Zcm a n=er at*;generalize ba l=s at*;go_in
 go_wp2_with fail
 refine mq C.out ?_;rintro w1 hb;have B1:=Zaa hb;clear hb;go_wp2_with fail
 refine(N.out _ B1.out).mono ?_;rintro e w2 ⟨rfl,hb⟩;have B2:=tr B1 hb;clear hb;go_wp2
 go_ret2
 exact⟨rfl,B2.out⟩
theorem Zsh (V:Zav)(CL:Zbh){p:Option Addr}{c:Nat}{xs:List Bk}(Z:Zao a w)(E:Zjs a w)(hl:l.length < 1000000000)(hB:B<=w.heap.size)(hrow:Zan 3 (Zbx B w (D+1)) p xs):Calls prog 8 #[.string (ba l),.slice p xs.length c] w fun e w'=>e= .returned (.tuple #[.string (Zyu (Zmq l xs)),.int .i64 (Zs1 (Zmq l xs))])/\Below w.heap.size w w':=by
 have C:Box (Calls prog 21 #[.string (ba l),.slice p xs.length c] w fun e w'=>e= .returned (.tuple #[.string (Zyu (Zmq l xs)),Zcm a (Zs1 (Zmq l xs))])/\Below w.heap.size w w'):=⟨(Zro V CL Z hl hB hrow).mono fun e w' h=>⟨by
  rcases h.1 with⟨n,h1,_,rfl⟩ | ⟨t,h1,rfl⟩
  ·rw[h1];rfl
  ·rw[h1];exact congrArg _ (congrArg _ (by rw[show Zs1 _=0 from rfl,Za0];rfl)),h.2⟩⟩
 have N:=Zaa (fun u (hu:Below w.heap.size w u)=>Zyt (Z.below hu) (E.below hu) (r:=Zmq l xs) fun _=>Z8v);clear Z E hrow;generalize Zs1 (Zmq l xs)=n at*;generalize Zyu (Zmq l xs)=t at*;generalize Zcm a n=er at*;generalize ba l=s at*;go_in
 go_wp2_with fail
 refine mq C.out ?_;rintro w1 hb;have B1:=Zaa hb;clear hb;go_wp2_with fail
 refine(N.out _ B1.out).mono ?_;rintro e w2 ⟨rfl,hb⟩;have B2:=tr B1 hb;clear hb;go_wp2
 go_ret2
 exact⟨rfl,B2.out⟩
theorem Z3w (key:ByteArray)(x:Bk):Zg9 key x=0\/Ten (Zg9 key x):=by
 unfold Zg9;split
 ·rcases(Zd1 (Zjd x) (Zd1 (.inr r4) wr0):Wr (Zh6 x))with h | h
  ·exact .inl h
  ·exact .inr h.ten
 ·exact .inr ⟨by omega,by omega⟩
theorem Zup (V:Zav){vs:List Value}{x:Bk}(Z:Zao a w)(E:Zjs a w)(hk:key.size < 1000000000)(hB:B<=w.heap.size)(hS:Zbd B w D vs x):Calls prog 17 #[.string key,.agg vs.toArray] w fun e w'=>e= .returned (.tuple #[.string (Zff key x),.int .i64 (Zg9 key x)])/\Below w.heap.size w w':=by
 have C:=Zaa (fun u (hu:Below w.heap.size w u)=>Z6o V (key:=key) (Z.below hu) hk (Ydc hB hu.size) (Zbd.carry hS (Za4 hu hB)));have N:Box (∀ u,Below w.heap.size w u->Calls prog 20 #[Zcm a (Zg9 key x)] u fun e w'=>e= .returned (.tuple #[.int .i64 (Zg9 key x),.int .i64 (-1)])/\Below u.heap.size u w'):=⟨fun u hu=>by
  rcases Z3w key x with h | h
  ·rw[h];exact Zws (Z.below hu) (E.below hu) wr0
  ·exact Zxg (Z.below hu) (E.below hu) h⟩
 obtain⟨p,c,p1,c1,p2,c2,rfl,_⟩:=hS;clear Z E;generalize Zg9 key x=n at*;generalize Zff key x=t at*;generalize Zcm a n=er at*;go_in
 go_wp2_with fail
 refine(C.out _ ((Ydb _ w).alloc lr _)).mono ?_;rintro e w1 ⟨rfl,hb⟩;have B1:=Zaa (((Ydb w.heap.size w).alloc lr _).trans (hb.mono (by simp)));clear hb;go_wp2_with fail
 refine(N.out _ B1.out).mono ?_;rintro e w2 ⟨rfl,hb⟩;have B2:=tr B1 hb;clear hb;go_wp2
 go_ret2
 exact⟨rfl,B2.out⟩
def Zs6 (key:ByteArray) (l:By) (S:Bool) (y0:ByteArray×Bk) (ys:List (ByteArray×Bk)):Prop:=Zjh key=true/\Zb1 Zcf l= .ok ⟨S,y0::ys,Zp0 S (Zk2 (Zaj key [y0.1]) (ys.map (·.1)))⟩/\ys.length < 8
def Z5u (key:ByteArray) (l:By) (w:World) (v1 v2:Value) (n:Int) (u:World):Prop:=(Ten n/\v1= .slice none 0 0/\v2= .slice none 0 0/\ ∀ S y0 ys,¬ Zs6 key l S y0 ys)\/(n=0/\ ∃ S y0 ys,Zs6 key l S y0 ys/\ ∃ F1 F2 W0,Below w.heap.size w W0/\Below W0.heap.size W0 u/\Zag 45 3 (Zvj W0 3) u v1 ((y0::ys).map (·.2)) F1/\Zag 9 1 Zji u v2 ((Zaj key [y0.1]::Zf4 (Zaj key [y0.1]) (ys.map (·.1))).map fun t=>⟨(ofB [⟨t.toArray⟩]).toArray⟩) F2/\Za7 W0.heap.size u F1/\Za7 W0.heap.size u F2)
theorem Z1s (V:Zav)(CL:Zbh)(Z:Zao a w)(hks:key.size < 1000000000)(hl:l.length < 1000000000):Calls prog 22 #[.string key,.string (ba l)] w fun e w'=> ∃ v1 v2 n,e= .returned (.tuple #[v1,v2,Zcm a n])/\Z5u key l w v1 v2 n w'/\Below w.heap.size w w':=by
 cases hk:Zjh key with
 | false=>exact(Z1u Z hks hk).mono fun e w' h=>⟨_,_,8,h.1,.inl ⟨⟨by omega,by omega⟩,rfl,rfl,fun S y0 ys g=>by have:=g.1;rw[hk]at this;exact absurd this (by simp)⟩,h.2⟩
 | true=>
  cases hch:Zb1 Zcf l with
  | error n=>exact(Z1t V CL Z hk hl hch).mono fun e w' h=>⟨_,_,n,h.2.1,.inl ⟨(Ztj hch).ten,rfl,rfl,fun S y0 ys g=>by have:=g.2.1;rw[hch]at this;cases this⟩,h.2.2⟩
  | ok ch=>
   obtain⟨_,_,hne,h8,_⟩:=Zfz hch;obtain⟨S,L,T⟩:=ch;cases L with
   | nil=>exact absurd rfl hne
   | cons y0 ys=>
    have hn:ys.length < 8:=by
     have:(y0::ys).length<=8:=h8
     simp at this;omega
    by_cases ht:T=Zp0 S (Zk2 (Zaj key [y0.1]) (ys.map (·.1)))
    ·refine(Zo4 V CL Z hk hl hch (S:=S) rfl rfl hn ht).mono fun e w' h=>?_;obtain⟨v1,v2,F1,F2,W0,rfl,hb,hb',h⟩:=h;subst ht;exact⟨v1,v2,0,by rw[Za0],.inr ⟨rfl,S,y0,ys,⟨hk,hch,hn⟩,F1,F2,W0,hb,hb',h⟩,hb.trans (hb'.mono hb.size)⟩
    ·exact(Z1v V CL Z hk hl hch (S:=S) rfl rfl hn ht).mono fun e w' h=>⟨_,_,10,h.1,.inl ⟨⟨by omega,by omega⟩,rfl,rfl,fun S' z0 zs g=>ht (by
      have:=hch.symm.trans g.2.1
      cases this
      rfl)⟩,h.2⟩
theorem Zol (V:Zav)(CL:Zbh)(Z:Zao a w)(E:Zjs a w)(hks:key.size < 1000000000)(hl:l.length < 1000000000):Calls prog 9 #[.string key,.string (ba l)] w fun e w'=> ∃ v1 v2 n,e= .returned (.tuple #[v1,v2,.int .i64 n])/\Z5u key l w v1 v2 n w'/\Below w.heap.size w w':=by
 have C:=Zaa (Z1s V CL (key:=key) Z hks hl);have N:=Zaa (fun u (hu:Below w.heap.size w u) n (h:Ten n)=>Zxg (Z.below hu) (E.below hu) h);have N0:=Zaa Zha;clear Z E;obtain⟨Q,hQ⟩: ∃ Q:Value->Value->Int->World->Prop,Q=Z5u key l w:=⟨_,rfl⟩;have hQ1:Box (∀ v1 v2 n u,Z5u key l w v1 v2 n u->Q v1 v2 n u):=⟨fun _ _ _ _ h=>by rw[hQ];exact h⟩;have hQ2:Box (∀ v1 v2 n u u',Ten n->Z5u key l w v1 v2 n u->Q v1 v2 n u'):=⟨fun v1 v2 n u u' ht h=>by
  rw[hQ];rcases h with h | ⟨h,_⟩
  ·exact .inl h
  ·have:=ht.1;omega⟩
 rw[<- hQ];clear hQ;generalize ba l=s at*;go_in
 go_wp2_with fail
 refine C.out.mono ?_;rintro e w1 ⟨v1,v2,n,rfl,hK,hb⟩;have B1:=Zaa hb;have hn:n=0\/Ten n:=by
  rcases hK with h | h
  ·exact .inr h.1
  ·exact .inl h.1
 rcases hn with rfl | hT
 ·rw[Za0];have hK:=Zaa (hQ1.out _ _ _ _ hK);clear hb;go_wp2_with fail
  refine(N0.out _).mono ?_;rintro e w2 ⟨rfl,rfl⟩;go_wp2
  refine Ye6 (by simp[results,results9,go_sem];try rfl) rfl ?_;exact⟨_,_,_,rfl,hK.out,B1.out⟩
 ·have hK:=Zaa (fun u=>hQ2.out _ _ _ _ u hT hK);have N1:=Zaa (N.out _ hb n hT);clear hb hT;generalize Zcm a n=er at*;go_wp2_with fail
  refine mq N1.out ?_;rintro w2 hb;have B2:=tr B1 hb;clear hb;go_wp2
  refine Ye6 (by simp[results,results9,go_sem];try rfl) rfl ?_;exact⟨_,_,_,rfl,hK.out _,B2.out⟩
end Go.P
namespace Go.P
variable {a:Nat->Addr}{B D:Nat}{w:World}{vs:List Value}
theorem Z88 (x:Bk):Wr (Zh6 x):=Zd1 (Zjd x) (Zd1 (.inr r4) wr0)
theorem Zoi (V:Zav){x:Bk}(Z:Zao a w)(E:Zjs a w)(hB:B<=w.heap.size)(hS:Zbd B w D vs x):Calls prog 27 #[.agg vs.toArray] w fun e w'=>e= .returned (.tuple #[.string (Zcd x),.int .i64 (Zh6 x)])/\Below w.heap.size w w':=by
 have C:=Zaa (fun u (hu:Below w.heap.size w u)=>Zlo V (Z.below hu) (Ydc hB hu.size) (Zbd.carry hS (Za4 hu hB)));have N:=Zaa (fun u (hu:Below w.heap.size w u)=>Zws (Z.below hu) (E.below hu) (Z88 x));obtain⟨p,c,p1,c1,p2,c2,rfl,_⟩:=hS;clear Z E;generalize Zh6 x=n at*;generalize Zcd x=t at*;generalize Zcm a n=er at*;go_in
 go_wp2_with fail
 refine(C.out _ ((Ydb _ w).alloc lr _)).mono ?_;rintro e w1 ⟨rfl,hb⟩;have B1:=Zaa (((Ydb w.heap.size w).alloc lr _).trans (hb.mono (by simp)));clear hb;go_wp2_with fail
 refine(N.out _ B1.out).mono ?_;rintro e w2 ⟨rfl,hb⟩;have B2:=tr B1 hb;clear hb;go_wp2
 go_ret2
 exact⟨rfl,B2.out⟩
theorem Z4c (V:Zav)(Z:Zao a w)(E:Zjs a w)(hB:B<=w.heap.size)(hS:Zbd B w D vs bkB):Calls prog 17 #[.string Z14,.agg vs.toArray] w fun e w'=>e= .returned (.tuple #[.string Z93,.int .i64 0])/\Below w.heap.size w w':=by
 have e1:Zff Z14 bkB=Z93:=if_pos ⟨by decide,Zrz⟩;have e2:Zg9 Z14 bkB=0:=(if_pos (by decide)).trans Zrz;have C:=Zup V (key:=Z14) Z E (by decide) hB hS;rw[e1,e2]at C;exact C
theorem Z60 (V:Zav)(CL:Zbh)(Z:Zao a w)(E:Zjs a w)(hB:B<=w.heap.size)(iB:Zvl bkB){p:Option Addr}{c:Nat}(hr:Zan 3 (Zbx B w 4) p [bkC]):Calls prog 8 #[.string Z93,.slice p 1 c] w fun e w'=>e= .returned (.tuple #[.string Z7o,.int .i64 0])/\Below w.heap.size w w':=by
 have hch:Zb1 Zcf (bl Z93)= .ok ⟨false,[(Zcd bkB,bkB)],Zaj Z14 [Zcd bkB]⟩:=Zkj (xs:=[bkB]) (by simp) (by simp) (Zar _) fun x hx=>by
  obtain rfl:=List.mem_singleton.mp hx;exact⟨Zrz,iB⟩
 have hsz:(bl Z93).length < 1000000000:=by
  rw[Zcy];exact Ze0 false (by simp) (fun t ht=>by
   obtain rfl:=List.mem_singleton.mp ht;exact Zc7 _) (Zar _)
 have hat:Zmq (bl Z93) [bkC]= .ok Z7o:=by
  have h0:Zhl 1 [bkC]=0:=by simp[Zhl,Zxv,Z2z]
  unfold Zmq Zo3;rw[hch];exact if_pos h0
 have C:=Zsh V CL (D:=3) (xs:=[bkC]) (c:=c) Z E hsz hB hr;rw[hat,Zjw]at C;exact C
theorem Z4b (V:Zav)(CL:Zbh)(Z:Zao a w)(hB:B<=w.heap.size)(iB:Zvl bkB)(iC:Zvl bkC){pp:Option Addr}{cp:Nat}(hp:Zan 2 (Zjt B w 4) pp [Yac]):
  Calls prog 18 #[.string Z14,.string Z7o,.agg #[.int .i64 4,.slice none 0 0,.slice none 0 0],.slice pp 1 cp] w fun e w'=>e= .returned (.tuple #[.int .i64 6,.int .i64 0])/\Below w.heap.size w w':=by
 have C:=Zaa (fun u (hu:Below w.heap.size w u)=>Z5w V CL (cp:=cp) (Z.below hu) (Ydc hB hu.size) iB iC (hp.carry fun _ _ _ q=>q.carry (Za4 hu hB) lr));have N:=Zaa Zha;clear hp Z;generalize Z7o=t at*;generalize Z14=k at*;go_in
 go_wp2_with fail
 refine(C.out _ ((Ydb _ w).alloc lr _)).mono ?_;rintro e w1 ⟨rfl,hb⟩;have B1:=Zaa (((Ydb w.heap.size w).alloc lr _).trans (hb.mono (by simp)));clear hb;go_wp2_with fail
 refine(N.out _).mono ?_;rintro e w2 ⟨rfl,rfl⟩;go_wp2
 go_ret2
 exact⟨rfl,B1.out⟩
def Ycu (w:World) (Y:Prop) (G:List Pol->Prop) (v:Value) (m:Int) (u:World):Prop:=(Y/\m≠0/\v= .slice none 0 0)\/(m=0/\ ∃ l F,G l/\Zag 187 2 (Zhi Zad 4) u v l F/\Za7 w.heap.size u F)
theorem Zur (t:ByteArray)(ht:t.size < 1000000000)(Z:Zao a w)(E:Zjs a w):Calls prog 16 #[.string t] w fun e w'=> ∃ v m p,e= .returned (.tuple #[v,.int .i64 m,.int .i64 p])/\Ycu w (∃ er,Zcn t (Zdo t)= .error er) (fun l=>Zcn t (Zdo t)= .ok l) v m w'/\Below w.heap.size w w':=by
 have C:=Zaa (Zlw t ht Z);have HY:=Zaa (Z62 t);have HZ:=Zaa Z;have HE:=Zaa E;have N:=Zaa Zha;clear Z E;generalize Zcn t (Zdo t)=Y at*;go_in
 go_wp2_with fail
 refine C.out.mono ?_;rintro e w1 ⟨hb,(⟨n,p,L,rfl,hn,hL,rfl,hF⟩ | ⟨v,y,rfl,rfl,F,hO,hN⟩)⟩
 ·obtain⟨k,rfl,hk⟩:=Z9x (HY.out _ rfl);have B1:=Zaa hb;have M:=Zaa (Zmf (HZ.out.below hb) (HE.out.below hb) L 0 k p hk hF.two.1 (by have:=hF.two.2.1;rwa [Zx8]at this));clear hF hb;go_wp2_with fail
  refine mq M.out ?_;rintro w2 hb;have B2:=tr B1 hb;clear hb;go_wp2
  refine Ye6 (by simp[results,results16,go_sem];try rfl) rfl ?_;exact⟨_,_,_,rfl,.inl ⟨⟨_,rfl⟩,by omega,rfl⟩,B2.out⟩
 ·obtain⟨q,c,rfl⟩:=hO.form;have B1:=Zaa hb;have J1:=Zaa (Yda hO hN);clear hO hN hb;go_wp2_with fail
  refine(N.out _).mono ?_;rintro e w2 ⟨rfl,rfl⟩;go_wp2
  refine Ye6 (by simp[results,results16,go_sem];try rfl) rfl ?_;exact⟨_,_,_,rfl,.inr ⟨rfl,_,F,rfl,J1.out.1,J1.out.2⟩,B1.out⟩
end Go.P
namespace Go.P
variable {key:ByteArray}{xs:List Bk}{k:Nat}
def Zph (key:ByteArray) (ts:List ByteArray):ByteArray:=ts.foldl (fun k t=>⟨(Zaj k [t]).toArray⟩) key
def Zwg (S:Bool) (n:Nat):ByteArray:=(ba Zcj++b1 (if S then 1 else 0))++Zel n
def Yaq (w:World) (key base:ByteArray) (xs:List Bk) (kv tv iv:Value) (wr:World):Prop:= ∃ k:Nat,k<=xs.length/\iv= .int .i64 (k:Int)/\kv= .string (Zph key ((xs.take k).map Zcd))/\tv= .string (base++cat Zb4 ((xs.take k).map Zcd))/\Below w.heap.size w wr
theorem Zue (h:k < xs.length):Zph key ((xs.take (k+1)).map Zcd)=⟨(Zaj (Zph key ((xs.take k).map Zcd)) [Zcd xs[k]]).toArray⟩:=by
 rw[Yes,Ydi h,List.map_append,Zph,List.foldl_append];rfl
theorem Zqi {α:Type}(f:α->ByteArray): ∀ (l m:List α),cat f (l++m)=cat f l++cat f m
 | [],m=>by simp[cat]
 | x::l,m=>by rw[Ydv,cat,cat,Zqi f l m,Zay]
theorem Zgc {base:ByteArray}(h:k < xs.length):base++cat Zb4 ((xs.take (k+1)).map Zcd)=((base++cat Zb4 ((xs.take k).map Zcd))++Zel (Zcd xs[k]).size)++Zcd xs[k]:=by
 rw[Yes,Ydi h,List.map_append,Zqi];simp[cat,Zb4,Zay]
theorem Zrr: ∀ (ts:List ByteArray),(∀ t,t∈ts->t.size<=4000)->(cat Zb4 ts).size<=ts.length*4011
 | [],_=>by simp[cat]
 | t::ts,h=>by
  have h1:=Zrr ts fun x hx=>h x (List.mem_cons_of_mem _ hx);have h2:=h t (List.mem_cons_self ..);have h3:=Zj4 t.size;rw[cat,Zae,Zb4,Zae,Ydp,Nat.add_mul];omega
theorem Zoa (ts:List ByteArray)(h:key.size < 1000000000):(Zph key ts).size < 1000000000:=by
 unfold Zph;induction ts generalizing key with
 | nil=>exact h
 | cons t ts ih=>
  refine ih ?_
  have:(⟨(Zaj key [t]).toArray⟩:ByteArray).size=(Zaj key [t]).length:=Zcx _
  rw[this,show(Zaj key [t]).length=32 from Zar _];decide
theorem Zw5 (V:Zav){a:Nat->Addr}{w:World}{p:Option Addr}{c:Nat}{S:Bool}(Z:Zao a w)(E:Zjs a w)(hk:key.size < 1000000000)(h8:xs.length<=8)(hrow:Zan 3 (Zbx w.heap.size w 4) p xs)(hok: ∀ x,x∈xs->Zh6 x=0):Calls prog 26 #[.string key,.slice p xs.length c,.bool S] w fun e w'=>e= .returned (.tuple #[.string ((Zwg S xs.length++cat Zb4 (xs.map Zcd))++(if S then⟨(Zaj (Zph key (xs.map Zcd)) [Zh4]).toArray⟩else Zph key (xs.map Zcd))),.bool true])/\Below w.heap.size w w':=by
 obtain⟨n,hn⟩: ∃ n,Box (xs.length=n):=⟨_,⟨rfl⟩⟩;obtain⟨z,hz⟩: ∃ z:Nat,z=(if S then 1 else 0):=⟨_,rfl⟩;have hz1:z<=1:=by rw[hz];split <;> omega
 rw[hn.out]at h8⊢;have hcv:(convert 74 9 (.slice (some ⟨w.heap.size,0,none⟩) 2 2)).run prog (w.alloc (.cells #[.int .u8 (z:Int),.int .u8 (n:Int)] 5))= .ok (.string ⟨[UInt8.ofNat z,UInt8.ofNat n].toArray⟩) (w.alloc (.cells #[.int .u8 (z:Int),.int .u8 (n:Int)] 5)):=by
  refine Za6 (xs:=[UInt8.ofNat z,UInt8.ofNat n]) (Blk.new w _ _) (fun j hj=>?_) 2 rfl;rcases(by simp at hj;omega:j=0\/j=1)with rfl | rfl
  ·simp;omega
  ·simp;omega
 have hbase:Box ((⟨#[119,114,116,49]⟩:ByteArray)++⟨[UInt8.ofNat z,UInt8.ofNat n].toArray⟩=Zwg S n):=⟨by
  unfold Zwg;rw[Zq1 (by omega),hz];cases S <;> rfl⟩
 have HB0:=Zaa ((Ydb w.heap.size w).alloc lr (.cells #[.int .u8 (z:Int),.int .u8 (n:Int)] 5));have hsn:(⟨[UInt8.ofNat z,UInt8.ofNat n].toArray⟩:ByteArray).size<=2:=Yec 2;have hhs:(Zwg S n).size<=6:=by rw[<- hbase.out,Zae];exact Nat.add_le_add (Yec 4) hsn
 generalize (⟨[UInt8.ofNat z,UInt8.ofNat n].toArray⟩:ByteArray)=sn at*;have CE:=Zaa (fun u (hu:Below w.heap.size w u) vs x (hS:Zbd u.heap.size u 3 vs x)=>Zoi V (Z.below hu) (E.below hu) lr hS);have CM:=Zaa (fun u (hu:Below w.heap.size w u) (kk t:ByteArray) (hk:kk.size < 1000000000) p (hT:Zef u p [t])=>Zyy (c:=1) (Z.below hu) hk hT (by simp));have CC:=Zaa (fun u m (hm:m<=4000)=>Z2u hm u);have HR:=Zaa hrow;have HO:=Zaa hok;clear hrow hok Z E;generalize Zwg S n=base at*;obtain⟨KK,hKK⟩: ∃ KK,Box (Zph key (xs.map Zcd)=KK):=⟨_,⟨rfl⟩⟩;obtain⟨TT,hTT⟩: ∃ TT,Box (base++cat Zb4 (xs.map Zcd)=TT):=⟨_,⟨rfl⟩⟩;rw[hKK.out,hTT.out];obtain⟨zi,hzi⟩: ∃ zi:Int,zi=(z:Int):=⟨_,rfl⟩;rw[<- hzi]at hcv HB0;have hzi0:S=false->zi=0:=fun h=>by rw[hzi,hz,h];rfl
 have hzi1:S=true->zi=1:=fun h=>by rw[hzi,hz,h];rfl
 clear hzi hz hz1;cases S
 case' false=>obtain rfl:=hzi0 rfl
 case' true=>obtain rfl:=hzi1 rfl
 all_goals
  clear hzi0 hzi1;first
  | (simp only[Bool.false_eq_true,if_false])
  | (simp only[if_true])
  go_in
  go_wp2_with fail
  rw[hbase.out];go_loopw [0,9,10] (fun kv tv iv wr=>Yaq w key base xs kv tv iv wr) (fun _ _ iv _=>n - (intOf iv).toNat)
  case atStart=>exact⟨0,by omega,rfl,by simp[Zph],by simp[cat],HB0.out⟩
  case round=>
   obtain⟨k,hkn,rfl,rfl,rfl,hbw⟩:=hrel;rw[hn.out]at hkn;have HB:=Zaa hbw;clear hbw;by_cases hlt:k < n
   ·have hlt':k < xs.length:=by rw[hn.out];exact hlt
    obtain⟨b,o,rfl,hx⟩:=HR.out.get k hlt';obtain⟨_,p1,c1,p2,c2,p3,c3,x0,x1,x2,hS⟩:=hx.vals;have HX:=Zaa (fun u (hu:Below w.heap.size w u)=>Yda (Zab x0 hu) (Yda (Zab x1 hu) (Zab x2 hu)));have HS:=Zaa (fun u (hu:Below w.heap.size w u)=>Zbd.carry hS (Go.W.Below.carry hu hu.size));have h0:=Zaa (HO.out xs[k] (Yel hlt'));have e1:=Zaa (Zue (key:=key) hlt');have e2:=Zaa (Zgc (base:=base) hlt');clear x0 x1 x2 hS hx;generalize xs[k]=x at*;obtain⟨y0,y1,y2⟩:=HX.out wr HB.out;have hts:(base++cat Zb4 ((xs.take k).map Zcd)).size<=40000:=by
     have:=Zrr ((xs.take k).map Zcd) fun t ht=>by
      obtain⟨y,_,rfl⟩:=List.mem_map.1 ht;exact Zc7 y
     rw[Yeo,List.length_take]at this;rw[Zae]
     have:min k xs.length<=8:=by omega
     omega
    have hks:=Zaa (Zoa ((xs.take k).map Zcd) hk);have htx:=Zc7 x;go_wp2_with fail
    refine(CE.out _ HB.out _ _ (HS.out _ HB.out)).mono ?_;rintro e w1 ⟨rfl,hb1⟩;have B1:=tr HB hb1;rw[h0.out];clear hb1 y0 y1 y2 HB HS HX CE h0;generalize Zph key ((xs.take k).map Zcd)=kk at*;generalize base++cat Zb4 ((xs.take k).map Zcd)=tt at*;generalize Zcd x=t at*;go_wp2_with fail
    refine(CC.out _ _ htx).mono ?_;rintro e w2 ⟨rfl,hb2⟩;have B2:=tr B1 hb2;have hnl:=Zj4 t.size;clear hb2 CC B1;obtain⟨nt,hnt⟩: ∃ nt,Box (Zel t.size=nt):=⟨_,⟨rfl⟩⟩;rw[hnt.out]at hnl e2⊢;go_wp2_with fail
    have B3:=Zaa (B2.out.alloc B2.out.size (.cells #[.string t] 9));refine(CM.out _ B3.out kk t hks.out _ ?_).mono ?_
    ·intro i y hy;obtain⟨rfl,rfl⟩:i=0/\y=t:=by
      cases i with
      | zero=>exact⟨rfl,by simpa using hy.symm⟩
      | succ i=>simp at hy
     exact⟨by omega,w2.heap.size,0,rfl,by simp,(Blk.new w2 _ _).cell 0⟩
    rintro e w3 ⟨rfl,hb3⟩;have B4:=tr B3 hb3;clear hb3 B3 B2 CM;obtain⟨k2,hk2⟩: ∃ k2,Box ((⟨(Zaj kk [t]).toArray⟩:ByteArray)=k2):=⟨_,⟨rfl⟩⟩;rw[hk2.out]at e1⊢;go_wp2
    exact⟨⟨k+1,by omega,by go_num,by rw[e1.out],by rw[e2.out],B4.out⟩,by simp[intOf];omega⟩
   ·obtain rfl:k=n:=by omega
    have htk:xs.take k=xs:=Yd9 (by rw[hn.out];exact Yec _);have hts:TT.size<=40000:=by
     rw[<- hTT.out]
     have:=Zrr (xs.map Zcd) fun t ht=>by
      obtain⟨y,_,rfl⟩:=List.mem_map.1 ht;exact Zc7 y
     rw[Yeo,hn.out]at this;rw[Zae];omega
    have hks:KK.size < 1000000000:=by rw[<- hKK.out];exact Zoa (xs.map Zcd) hk
    rw[htk,hKK.out,hTT.out];clear htk CE CC HR HO;go_wp2_with fail
    first
    | (refine Ye6 (by simp[results,results26,go_sem];try rfl) rfl ?_
       exact⟨rfl,HB.out⟩)
    | (have B3:=Zaa (HB.out.alloc HB.out.size (.cells #[.string Zh4] 9))
       refine(CM.out _ B3.out KK Zh4 hks _ ?_).mono ?_
       ·intro i y hy;obtain⟨rfl,rfl⟩:i=0/\y=Zh4:=by
         cases i with
         | zero=>exact⟨rfl,by simpa using hy.symm⟩
         | succ i=>simp at hy
        exact⟨by decide,wr.heap.size,0,rfl,by simp,(Blk.new wr _ _).cell 0⟩
       rintro e w3 ⟨rfl,hb3⟩;have B4:=tr B3 hb3;clear hb3 B3 CM;have hkl:(⟨(Zaj KK [Zh4]).toArray⟩:ByteArray).size=32:=(Zcx _).trans (Zar _);have hk3:(⟨(Zaj KK [Zh4]).toArray⟩:ByteArray).size<=32:=Nat.le_of_eq hkl;clear hkl;obtain⟨k3,hk3e⟩: ∃ k3,Box ((⟨(Zaj KK [Zh4]).toArray⟩:ByteArray)=k3):=⟨_,⟨rfl⟩⟩;rw[hk3e.out]at hk3⊢;go_wp2
       refine Ye6 (by simp[results,results26,go_sem];try rfl) rfl ?_;exact⟨by rw[hk3e.out],B4.out⟩)
end Go.P
namespace Go.W
variable {w:World}{F:List Nat}
def OpO:Zgj (Int×Int×ByteArray):=fun _ vs x F=>F=[]/\vs=[.int .i64 x.1,.int .i64 x.2.1,.string x.2.2]
theorem OpO.stable:Zc3 OpO:=fun _ _ _ _ _ h _=>h
theorem OpO.one {vs:List Value}{x:Int×Int×ByteArray}(h:OpO w vs x F): ∀ u,u∈vs->u.oneCell'=true:=by
 obtain⟨_,rfl⟩:=h;intro u hu;simp at hu;rcases hu with rfl | rfl | rfl <;> rfl
theorem Zs0.put {α:Type}{e:TypeId}{s:Nat}{Q:Zgj α}(hQ:Zc3 Q){L:Nat}(j:Nat){u w1:World}{cs:Array Value}{t:TypeId}{xs:List α}{G F':List Nat}{y:α}{g cap:Nat}{O:List Nat}(happ:Zs0 e s Q (L+1) w w1 xs F G y g cap F')(hL:Blk u L cs t)(hb:Below u.heap.size u w)(hF: ∀ k,k∈F->L < k)(hG: ∀ k,k∈G->u.heap.size<=k)(hO: ∀ k,k∈O->L < k/\k < u.heap.size/\k∉F):
  Zag e s Q (w1.setCell ⟨L,j,none⟩ (.slice (some ⟨g,0,none⟩) (xs.length+1) cap)) (.slice (some ⟨g,0,none⟩) (xs.length+1) cap) (xs++[y]) F'/\Za7 (L+1) (w1.setCell ⟨L,j,none⟩ (.slice (some ⟨g,0,none⟩) (xs.length+1) cap)) F'/\(∀ k,k∈O->k∉F')/\(∀ k,k∈O->(w1.setCell ⟨L,j,none⟩ (.slice (some ⟨g,0,none⟩) (xs.length+1) cap)).heap[k]?=u.heap[k]?)/\Blk (w1.setCell ⟨L,j,none⟩ (.slice (some ⟨g,0,none⟩) (xs.length+1) cap)) L (cs.setIfInBounds j (.slice (some ⟨g,0,none⟩) (xs.length+1) cap)) t/\Below L u (w1.setCell ⟨L,j,none⟩ (.slice (some ⟨g,0,none⟩) (xs.length+1) cap)):=by
 have hl:=hL.lt;have hs:=hb.size;have hsame: ∀ k,k < u.heap.size->k∉F->w1.heap[k]?=u.heap[k]?:=fun k hk hf=>(happ.same k (by omega) hf).trans (hb.block k hk);have hB1:Below L u w1:=⟨happ.os.trans hb.os,happ.tape.trans hb.tape,happ.output.trans hb.output,Ydc hs happ.size,fun k hk=>hsame k (by omega) fun hf=>by have:=hF k hf;omega⟩;have hne: ∀ k,L < k-> ∀ v:Value,(w1.setCell ⟨L,j,none⟩ v).heap[k]?=w1.heap[k]?:=fun k hk v=>Ydg w1 ⟨L,j,none⟩ v k (by show k≠L;omega);have hB2:=hB1.setCell (p:=⟨L,j,none⟩) (Yec L) (.slice (some ⟨g,0,none⟩) (xs.length+1) cap);refine⟨Zag.stable hQ _ _ _ _ _ happ.row fun k hk=>hne k (happ.new.ge k hk) _,happ.new.later lr (by simp),fun k hk hf=>?_,fun k hk=>(hne k (hO k hk).1 _).trans (hsame k (hO k hk).2.1 (hO k hk).2.2),(hL.of (hsame L hl fun hf=>by have:=hF L hf;omega)).set j _,hB2⟩;have h1:=hO k hk;rcases happ.sub k hf with h | h | h
 ·exact h1.2.2 h
 ·have:=hG k h;omega
 ·omega
end Go.W
namespace Go.P
variable {x:ByteArray}
structure Zdf (L:Nat) (u:World) (vb vp vk vc vy vr vd:Value) (bs:List Bk) (ys rs:List ByteArray) (ds:List (Int×Int×ByteArray)) (Fb Fy Fr Fd:List Nat):Prop where
 blk:Blk u L #[vb,vp,vk,vc,vy,vr,vd] 38
 rb:Zag 45 3 (Zbj Zad 4) u vb bs Fb
 ry:Zag 9 1 Zji u vy ys Fy
 rr:Zag 9 1 Zji u vr rs Fr
 rd:Zag 48 3 OpO u vd ds Fd
 nb:Za7 (L+1) u Fb
 ny:Za7 (L+1) u Fy
 nr:Za7 (L+1) u Fr
 nd:Za7 (L+1) u Fd
 ib: ∀ k,k∈Fb->k∉Fy/\k∉Fr/\k∉Fd
 iy: ∀ k,k∈Fy->k∉Fr/\k∉Fd
 ir: ∀ k,k∈Fr->k∉Fd
section
variable {L:Nat} {u w:World} {vb vp vk vc vy vr vd:Value} {bs:List Bk} {ys rs:List ByteArray} {ds:List (Int×Int×ByteArray)} {Fb Fy Fr Fd:List Nat}
theorem Zdf.later (h:Zdf L u vb vp vk vc vy vr vd bs ys rs ds Fb Fy Fr Fd)(hb:Below u.heap.size u w):Zdf L w vb vp vk vc vy vr vd bs ys rs ds Fb Fy Fr Fd:=
 ⟨h.blk.of (hb.block _ h.blk.lt),Zag.stable (Zbj.stable (ty:=Zad) 4) _ _ _ _ _ h.rb fun k hk=>hb.block k (h.nb.lt k hk),Zag.stable Zji.stable _ _ _ _ _ h.ry fun k hk=>hb.block k (h.ny.lt k hk),Zag.stable Zji.stable _ _ _ _ _ h.rr fun k hk=>hb.block k (h.nr.lt k hk),Zag.stable OpO.stable _ _ _ _ _ h.rd fun k hk=>hb.block k (h.nd.lt k hk),h.nb.later lr hb.size,h.ny.later lr hb.size,h.nr.later lr hb.size,h.nd.later lr hb.size,h.ib,h.iy,h.ir⟩
theorem Zdf.set (h:Zdf L u vb vp vk vc vy vr vd bs ys rs ds Fb Fy Fr Fd)(j:Nat)(v:Value){vp' vk' vc':Value}(he:(#[vb,vp,vk,vc,vy,vr,vd]:Array Value).setIfInBounds j v=#[vb,vp',vk',vc',vy,vr,vd]):Zdf L (u.setCell ⟨L,j,none⟩ v) vb vp' vk' vc' vy vr vd bs ys rs ds Fb Fy Fr Fd:=by
 have hne: ∀ k,L < k->(u.setCell ⟨L,j,none⟩ v).heap[k]?=u.heap[k]?:=fun k hk=>Ydg u ⟨L,j,none⟩ v k (by show k≠L;omega);have hs:u.heap.size<=(u.setCell ⟨L,j,none⟩ v).heap.size:=by simp
 exact⟨he▸h.blk.set j v,Zag.stable (Zbj.stable (ty:=Zad) 4) _ _ _ _ _ h.rb fun k hk=>hne k (h.nb.ge k hk),Zag.stable Zji.stable _ _ _ _ _ h.ry fun k hk=>hne k (h.ny.ge k hk),Zag.stable Zji.stable _ _ _ _ _ h.rr fun k hk=>hne k (h.nr.ge k hk),Zag.stable OpO.stable _ _ _ _ _ h.rd fun k hk=>hne k (h.nd.ge k hk),h.nb.later lr hs,h.ny.later lr hs,h.nr.later lr hs,h.nd.later lr hs,h.ib,h.iy,h.ir⟩
variable {w1:World} {G F':List Nat} {g cap:Nat}
theorem Zdf.appB (h:Zdf L u vb vp vk vc vy vr vd bs ys rs ds Fb Fy Fr Fd){x:Bk}(hb:Below u.heap.size u w)(hG: ∀ k,k∈G->u.heap.size<=k)(happ:Zs0 45 3 (Zbj Zad 4) (L+1) w w1 bs Fb G x g cap F'):Zdf L (w1.setCell ⟨L,0,none⟩ (.slice (some ⟨g,0,none⟩) (bs.length+1) cap)) (.slice (some ⟨g,0,none⟩) (bs.length+1) cap) vp vk vc vy vr vd (bs++[x]) ys rs ds F' Fy Fr Fd/\Below L u (w1.setCell ⟨L,0,none⟩ (.slice (some ⟨g,0,none⟩) (bs.length+1) cap)):=by
 obtain⟨h1,h2,h3,h4,h5,h6⟩:=Zs0.put (Zbj.stable (ty:=Zad) 4) 0 (O:=Fy++(Fr++Fd)) happ h.blk hb (fun k hk=>h.nb.ge k hk) hG fun k hk=>by
  simp only[Ydk]at hk;rcases hk with hk | hk | hk
  ·exact⟨h.ny.ge k hk,h.ny.lt k hk,fun hf=>(h.ib k hf).1 hk⟩
  ·exact⟨h.nr.ge k hk,h.nr.lt k hk,fun hf=>(h.ib k hf).2.1 hk⟩
  ·exact⟨h.nd.ge k hk,h.nd.lt k hk,fun hf=>(h.ib k hf).2.2 hk⟩
 have hs:=h6.size;exact⟨⟨h5,h1,Zag.stable Zji.stable _ _ _ _ _ h.ry fun k hk=>h4 k (by simp[hk]),Zag.stable Zji.stable _ _ _ _ _ h.rr fun k hk=>h4 k (by simp[hk]),Zag.stable OpO.stable _ _ _ _ _ h.rd fun k hk=>h4 k (by simp[hk]),h2,h.ny.later lr hs,h.nr.later lr hs,h.nd.later lr hs,fun k hk=>⟨fun q=>h3 k (by simp[q]) hk,fun q=>h3 k (by simp[q]) hk,fun q=>h3 k (by simp[q]) hk⟩,h.iy,h.ir⟩,h6⟩
theorem Zdf.appY (h:Zdf L u vb vp vk vc vy vr vd bs ys rs ds Fb Fy Fr Fd)(hb:Below u.heap.size u w)(hG: ∀ k,k∈G->u.heap.size<=k)(happ:Zs0 9 1 Zji (L+1) w w1 ys Fy G x g cap F'):Zdf L (w1.setCell ⟨L,4,none⟩ (.slice (some ⟨g,0,none⟩) (ys.length+1) cap)) vb vp vk vc (.slice (some ⟨g,0,none⟩) (ys.length+1) cap) vr vd bs (ys++[x]) rs ds Fb F' Fr Fd/\Below L u (w1.setCell ⟨L,4,none⟩ (.slice (some ⟨g,0,none⟩) (ys.length+1) cap)):=by
 obtain⟨h1,h2,h3,h4,h5,h6⟩:=Zs0.put Zji.stable 4 (O:=Fb++(Fr++Fd)) happ h.blk hb (fun k hk=>h.ny.ge k hk) hG fun k hk=>by
  simp only[Ydk]at hk;rcases hk with hk | hk | hk
  ·exact⟨h.nb.ge k hk,h.nb.lt k hk,(h.ib k hk).1⟩
  ·exact⟨h.nr.ge k hk,h.nr.lt k hk,fun hf=>(h.iy k hf).1 hk⟩
  ·exact⟨h.nd.ge k hk,h.nd.lt k hk,fun hf=>(h.iy k hf).2 hk⟩
 have hs:=h6.size;exact⟨⟨h5,Zag.stable (Zbj.stable (ty:=Zad) 4) _ _ _ _ _ h.rb fun k hk=>h4 k (by simp[hk]),h1,Zag.stable Zji.stable _ _ _ _ _ h.rr fun k hk=>h4 k (by simp[hk]),Zag.stable OpO.stable _ _ _ _ _ h.rd fun k hk=>h4 k (by simp[hk]),h.nb.later lr hs,h2,h.nr.later lr hs,h.nd.later lr hs,fun k hk=>⟨h3 k (by simp[hk]),(h.ib k hk).2⟩,fun k hk=>⟨fun q=>h3 k (by simp[q]) hk,fun q=>h3 k (by simp[q]) hk⟩,h.ir⟩,h6⟩
theorem Zdf.appR (h:Zdf L u vb vp vk vc vy vr vd bs ys rs ds Fb Fy Fr Fd)(hb:Below u.heap.size u w)(hG: ∀ k,k∈G->u.heap.size<=k)(happ:Zs0 9 1 Zji (L+1) w w1 rs Fr G x g cap F'):Zdf L (w1.setCell ⟨L,5,none⟩ (.slice (some ⟨g,0,none⟩) (rs.length+1) cap)) vb vp vk vc vy (.slice (some ⟨g,0,none⟩) (rs.length+1) cap) vd bs ys (rs++[x]) ds Fb Fy F' Fd/\Below L u (w1.setCell ⟨L,5,none⟩ (.slice (some ⟨g,0,none⟩) (rs.length+1) cap)):=by
 obtain⟨h1,h2,h3,h4,h5,h6⟩:=Zs0.put Zji.stable 5 (O:=Fb++(Fy++Fd)) happ h.blk hb (fun k hk=>h.nr.ge k hk) hG fun k hk=>by
  simp only[Ydk]at hk;rcases hk with hk | hk | hk
  ·exact⟨h.nb.ge k hk,h.nb.lt k hk,(h.ib k hk).2.1⟩
  ·exact⟨h.ny.ge k hk,h.ny.lt k hk,(h.iy k hk).1⟩
  ·exact⟨h.nd.ge k hk,h.nd.lt k hk,fun hf=>h.ir k hf hk⟩
 have hs:=h6.size;exact⟨⟨h5,Zag.stable (Zbj.stable (ty:=Zad) 4) _ _ _ _ _ h.rb fun k hk=>h4 k (by simp[hk]),Zag.stable Zji.stable _ _ _ _ _ h.ry fun k hk=>h4 k (by simp[hk]),h1,Zag.stable OpO.stable _ _ _ _ _ h.rd fun k hk=>h4 k (by simp[hk]),h.nb.later lr hs,h.ny.later lr hs,h2,h.nd.later lr hs,fun k hk=>⟨(h.ib k hk).1,h3 k (by simp[hk]),(h.ib k hk).2.2⟩,fun k hk=>⟨h3 k (by simp[hk]),(h.iy k hk).2⟩,fun k hk q=>h3 k (by simp[q]) hk⟩,h6⟩
theorem Zdf.appD (h:Zdf L u vb vp vk vc vy vr vd bs ys rs ds Fb Fy Fr Fd){x:Int×Int×ByteArray}(hb:Below u.heap.size u w)(hG: ∀ k,k∈G->u.heap.size<=k)(happ:Zs0 48 3 OpO (L+1) w w1 ds Fd G x g cap F'):Zdf L (w1.setCell ⟨L,6,none⟩ (.slice (some ⟨g,0,none⟩) (ds.length+1) cap)) vb vp vk vc vy vr (.slice (some ⟨g,0,none⟩) (ds.length+1) cap) bs ys rs (ds++[x]) Fb Fy Fr F'/\Below L u (w1.setCell ⟨L,6,none⟩ (.slice (some ⟨g,0,none⟩) (ds.length+1) cap)):=by
 obtain⟨h1,h2,h3,h4,h5,h6⟩:=Zs0.put OpO.stable 6 (O:=Fb++(Fy++Fr)) happ h.blk hb (fun k hk=>h.nd.ge k hk) hG fun k hk=>by
  simp only[Ydk]at hk;rcases hk with hk | hk | hk
  ·exact⟨h.nb.ge k hk,h.nb.lt k hk,(h.ib k hk).2.2⟩
  ·exact⟨h.ny.ge k hk,h.ny.lt k hk,(h.iy k hk).2⟩
  ·exact⟨h.nr.ge k hk,h.nr.lt k hk,h.ir k hk⟩
 have hs:=h6.size;exact⟨⟨h5,Zag.stable (Zbj.stable (ty:=Zad) 4) _ _ _ _ _ h.rb fun k hk=>h4 k (by simp[hk]),Zag.stable Zji.stable _ _ _ _ _ h.ry fun k hk=>h4 k (by simp[hk]),Zag.stable Zji.stable _ _ _ _ _ h.rr fun k hk=>h4 k (by simp[hk]),h1,h.nb.later lr hs,h.ny.later lr hs,h.nr.later lr hs,h2,fun k hk=>⟨(h.ib k hk).1,(h.ib k hk).2.1,h3 k (by simp[hk])⟩,fun k hk=>⟨(h.iy k hk).1,h3 k (by simp[hk])⟩,fun k hk=>h3 k (by simp[hk])⟩,h6⟩
end
end Go.P
namespace Go.P
variable {L:Nat}{u:World}{vb vp vk vc vy vr vd:Value}{bs:List Bk}{ys rs:List ByteArray}{ds:List (Int×Int×ByteArray)}{Fb Fy Fd:List Nat}
def InI (i:Int):Prop:= -9223372036854775808<=i/\i < 9223372036854775808
def Ybk:Value->Nat
 | .string t=>t.size
 | _=>0
def KpR (vk:Value) (ys:List ByteArray) (ds:List (Int×Int×ByteArray)):Prop:=(∀ y,y∈ys->y.size<=65536)/\Ybk vk<=65536/\ ∀ d,d∈ds->InI d.2.1
def Kp (L:Nat) (u:World) (n:Nat):Prop:= ∃ vb vp vk vc vy vr vd bs ys rs ds Fb Fy Fr Fd,Zdf L u vb vp vk vc vy vr vd bs ys rs ds Fb Fy Fr Fd/\(∃ p m c,vp= .slice p m c)/\(∃ t,vk= .string t)/\(∃ i,vc= .int .i64 i)/\bs.length<=n/\ys.length<=n/\rs.length<=n/\ds.length<=n/\(∀ x,x∈bs-> ∃ t,Zcn t (Ze7 t)= .ok x)/\KpR vk ys ds
def Ze1 (L n:Nat) (u:World) (e:Ending) (w':World):Prop:=e= .returned (.tuple #[])/\Kp L w' (n+1)/\Below L u w'
theorem Kp.mk {w:World}{n:Nat}{Fr:List Nat}(h:Zdf L w vb vp vk vc vy vr vd bs ys rs ds Fb Fy Fr Fd)(hb:Below L u w)(h1: ∃ p m c,vp= .slice p m c)(h2: ∃ t,vk= .string t)(h3: ∃ i,vc= .int .i64 i)(h4:bs.length<=n+1)(h5:ys.length<=n+1)(h6:rs.length<=n+1)(h7:ds.length<=n+1)(h8: ∀ x,x∈bs-> ∃ t,Zcn t (Ze7 t)= .ok x)(h9:KpR vk ys ds):Ze1 L n u (.returned (.tuple #[])) w:=⟨rfl,⟨vb,vp,vk,vc,vy,vr,vd,bs,ys,rs,ds,Fb,Fy,Fr,Fd,h,h1,h2,h3,h4,h5,h6,h7,h8,h9⟩,hb⟩
theorem Zdf.up {Fr:List Nat}(h:Zdf L u vb vp vk vc vy vr vd bs ys rs ds Fb Fy Fr Fd)(o:Obj):Zdf L (u.alloc o) vb vp vk vc vy vr vd bs ys rs ds Fb Fy Fr Fd:=h.later ((Ydb _ u).alloc lr o)
theorem Z9e:(prog.info? 48).map (fun i=>(i.zero,i.size,i.bytes))=some (some (.agg #[.int .i64 0,.int .i64 0,.string ⟨#[]⟩]),3,32):=by kernel_rfl
theorem Z84:Zdw prog 22 48 3 32:=by
 obtain⟨i0,hi,hz0,hz1,hz2⟩:=info_parts Z9e;exact⟨i0,_,underlying22,hi,hz0,hz1,hz2,rfl,by decide,by decide⟩
section
variable {L n:Nat} {u:World} {A:Int} {s:ByteArray}
theorem Z1i (h:Kp L u n):Calls prog 14 #[.pointer (some ⟨L,0,none⟩),.agg #[.int .i64 4,.int .i64 A,.string s]] u (Ze1 L n u):=by
 obtain⟨vb,vp,vk,vc,vy,vr,vd,bs,ys,rs,ds,Fb,Fy,Fr,Fd,H,⟨pp,mp,cp,rfl⟩,⟨tk,rfl⟩,⟨ik,rfl⟩,hl⟩:=h;have HK:=Zaa H;have HL:=Zaa hl;have hL:=H.blk.lt;have hc:=(H.blk.alloc (.cells #[.int .i64 4,.int .i64 A,.string s] 48)).cell 3;have hs:=(H.blk.alloc (.cells #[.int .i64 4,.int .i64 A,.string s] 48)).soft;clear H hl;go_in
 go_wp2_with fail
 refine⟨rfl,_,(by simp[results,results14,go_sem];try rfl),?_⟩;obtain⟨l1,l2,l3,l4,l5,l6⟩:=HL.out;exact Kp.mk ((HK.out.set 3 _ rfl).up _) (((Ydb L u).setCell lr _).alloc (by simp;omega) _) ⟨_,_,_,rfl⟩ ⟨_,rfl⟩ ⟨_,rfl⟩ (by omega) (by omega) (by omega) (by omega) l5 l6
theorem Z7j (h:Kp L u n)(hss:s.size<=65536):Calls prog 14 #[.pointer (some ⟨L,0,none⟩),.agg #[.int .i64 3,.int .i64 A,.string s]] u (Ze1 L n u):=by
 obtain⟨vb,vp,vk,vc,vy,vr,vd,bs,ys,rs,ds,Fb,Fy,Fr,Fd,H,⟨pp,mp,cp,rfl⟩,⟨tk,rfl⟩,⟨ik,rfl⟩,hl⟩:=h;have HK:=Zaa H;have HL:=Zaa hl;have hL:=H.blk.lt;have hc:=(H.blk.alloc (.cells #[.int .i64 3,.int .i64 A,.string s] 48)).cell 2;have hs:=(H.blk.alloc (.cells #[.int .i64 3,.int .i64 A,.string s] 48)).soft;clear H hl;go_in
 go_wp2_with fail
 all_goals
  refine⟨rfl,_,(by simp[results,results14,go_sem];try rfl),?_⟩;obtain⟨l1,l2,l3,l4,l5,l6⟩:=HL.out;first
  | exact Kp.mk (HK.out.up _) ((Ydb L u).alloc (by omega) _) ⟨_,_,_,rfl⟩ ⟨_,rfl⟩ ⟨_,rfl⟩ (by omega) (by omega) (by omega) (by omega) l5 l6
  | exact Kp.mk ((HK.out.set 2 _ rfl).up _) (((Ydb L u).setCell lr _).alloc (by simp;omega) _) ⟨_,_,_,rfl⟩ ⟨_,rfl⟩ ⟨_,rfl⟩ (by omega) (by omega) (by omega) (by omega) l5 ⟨l6.1,hss,l6.2.2⟩
theorem Z1j (h:Kp L u n){k:Int}(h1:k≠1)(h2:k≠2)(h3:k≠3)(h4:k≠4)(h5:k≠5)(h6:k≠6)(h7:k≠7):Calls prog 14 #[.pointer (some ⟨L,0,none⟩),.agg #[.int .i64 k,.int .i64 A,.string s]] u (Ze1 L n u):=by
 obtain⟨vb,vp,vk,vc,vy,vr,vd,bs,ys,rs,ds,Fb,Fy,Fr,Fd,H,⟨pp,mp,cp,rfl⟩,⟨tk,rfl⟩,⟨ik,rfl⟩,hl⟩:=h;have HK:=Zaa H;have HL:=Zaa hl;have hL:=H.blk.lt;clear H hl;go_in
 go_wp2_with fail
 refine⟨rfl,_,(by simp[results,results14,go_sem];try rfl),?_⟩;obtain⟨l1,l2,l3,l4,l5,l6⟩:=HL.out;exact Kp.mk (HK.out.up _) ((Ydb L u).alloc (by omega) _) ⟨_,_,_,rfl⟩ ⟨_,rfl⟩ ⟨_,rfl⟩ (by omega) (by omega) (by omega) (by omega) l5 l6
theorem Z1g (h:Kp L u n)(hn:n < 65536)(hss:s.size<=65536):Calls prog 14 #[.pointer (some ⟨L,0,none⟩),.agg #[.int .i64 5,.int .i64 A,.string s]] u (Ze1 L n u):=by
 obtain⟨vb,vp,vk,vc,vy,vr,vd,bs,ys,rs,ds,Fb,Fy,Fr,Fd,H,⟨pp,mp,cp,rfl⟩,⟨tk,rfl⟩,⟨ik,rfl⟩,hl⟩:=h;obtain⟨pr,cr,rfl⟩:=H.ry.form;have HK:=Zaa H;have HL:=Zaa hl;have hL:=H.blk.lt;obtain⟨U,hU⟩: ∃ U,Box (u.alloc (.cells #[.int .i64 5,.int .i64 A,.string s] 48)=U):=⟨_,⟨rfl⟩⟩;have hN:=Blk.new u #[.int .i64 5,.int .i64 A,.string s] 48;have hBU:Box (Below u.heap.size u U):=⟨hU.out▸(Ydb _ u).alloc lr _⟩;have hsU:Box (U.heap.size=u.heap.size+1):=⟨by rw[<- hU.out];simp⟩;rw[hU.out]at hN;have KU:=Zaa (H.later hBU.out);have hS0:U.drew.cell? ⟨L,4,none⟩=some (.slice pr ys.length cr)/\U.drew.cell? ⟨u.heap.size,0,none⟩=some (.int .i64 5)/\U.drew.cell? ⟨u.heap.size,1,none⟩=some (.int .i64 A)/\U.drew.cell? ⟨u.heap.size,2,none⟩=some (.string s):=⟨KU.out.blk.cell 4,hN.three.1,hN.three.2.1,hN.three.2.2.1⟩;have HN:=Zaa hN;clear H hl hN;go_in
 go_wp2_with fail
 rw[hU.out];refine Zat 11 (fun v=>v.cell? ⟨L,4,none⟩=some (.slice pr ys.length cr)/\v.cell? ⟨u.heap.size,0,none⟩=some (.int .i64 5)/\v.cell? ⟨u.heap.size,1,none⟩=some (.int .i64 A)/\v.cell? ⟨u.heap.size,2,none⟩=some (.string s)) (by kernel_rfl) ?_;refine tz 0 (.pointer (some ⟨L,0,none⟩)) hS0 ?_;try simp only[zz]
 refine tz 1 (.pointer (some ⟨L,0,none⟩)) hS0 ?_;try simp only[zz]
 refine tz 2 (.pointer (some ⟨L,0,none⟩)) hS0 ?_;try simp only[zz]
 refine tz 3 (.pointer (some ⟨L,4,none⟩)) hS0 ?_;try simp only[zz]
 refine tz 4 (.slice pr ys.length cr) hS0 (hy:=fun _ ⟨s0,s1,s2,s3⟩=>by go_simp) ?_;try simp only[zz]
 refine tz 5 (.pointer (some ⟨u.heap.size,2,none⟩)) hS0 ?_;try simp only[zz]
 refine tz 6 (.string s) hS0 (hy:=fun _ ⟨s0,s1,s2,s3⟩=>by go_simp) ?_;try simp only[zz]
 refine rz 7 (h:=fun K' hK'=>?_);go_simp;obtain⟨W,hW⟩: ∃ W,Box (U.alloc (.cells #[.string s] 9)=W):=⟨_,⟨rfl⟩⟩;rw[hW.out];have hBW:Below U.heap.size U W:=hW.out▸(Ydb _ U).alloc lr _;have hsW:Box (W.heap.size=U.heap.size+1):=⟨by rw[<- hW.out];simp⟩;have NW:W.heap[U.heap.size]?=some (.cells #[.string s] 9):=hW.out▸Zaw _ _;have KW:=Zaa (KU.out.later hBW);have HW:=Zaa (HN.out.of (hBW.block _ HN.out.lt));refine hK'.out _ _ ⟨KW.out.blk.cell 4,HW.out.three.1,HW.out.three.2.1,HW.out.three.2.2.1⟩ ?_;try simp only[zz]
 refine rz 8 (h:=fun K' hK'=>?_);refine Zdz Zry rfl (.tmp 78) (.tmp 81) rfl Zji.stable (fun _ _ _ _ h=>Zji.one h) (L+1) (.slice pr ys.length cr) ys Fy rfl (KW.out.ry:Zag _ _ _ W.drew _ _ _) U.heap.size #[.string s] 9 (0,0) s [] rfl NW rfl ⟨rfl,rfl⟩ (by have:=HL.out;omega) (by show L+1<=W.heap.size;have:=hsU.out;have:=hsW.out;omega) (KW.out.ny.later lr lr) (Za7.nil _ _) (fun _ _ h=>by cases h) ?_;intro g cap w1 F' happ;have hse:=happ.size;have hsm:=fun k (h:k < W.heap.size) hf=>happ.same k h hf;have KL:=Zaa (KW.out.blk.of (w':=w1) (hsm L KW.out.blk.lt fun hf=>by have:=KW.out.ny.ge L hf;omega));have HX:=Zaa (HW.out.of (w':=w1) (hsm _ HW.out.lt fun hf=>by have:=HK.out.ny.lt _ hf;omega));have hS1:w1.cell? ⟨L,4,none⟩=some (.slice pr ys.length cr)/\w1.cell? ⟨u.heap.size,0,none⟩=some (.int .i64 5)/\w1.cell? ⟨u.heap.size,1,none⟩=some (.int .i64 A)/\w1.cell? ⟨u.heap.size,2,none⟩=some (.string s):=⟨KL.out.cell 4,HX.out.three.1,HX.out.three.2.1,HX.out.three.2.2.1⟩;have ks:=KL.out.soft;have FIN:=Zaa (HK.out.appY (hBU.out.trans (hBW.mono hBU.out.size)).drew (fun _ h=>by cases h) happ);refine hK'.out _ _ hS1 ?_;try simp only[zz]
 refine rz 9 (h:=fun K' hK'=>?_);go_simp;refine hK'.out _ _ hS1 ?_;try simp only[zz]
 refine rz 10 (h:=fun K' hK'=>?_);go_simp;refine hK'.out _ _ hS1 ?_;try simp only[zz]
 have c1:=hS1.1;refine rzl (h:=fun K' hK'=>?_);go_simp;refine hK'.out _ _ ?_;try simp only[zz]
 refine dz (h:=?_);clear happ ks c1 hS0 hS1;go_wp2_with fail
 refine⟨rfl,_,(by simp[results,results14,go_sem];try rfl),?_⟩;obtain⟨l1,l2,l3,l4,l5,l6⟩:=HL.out;exact Kp.mk FIN.out.1 FIN.out.2 ⟨_,_,_,rfl⟩ ⟨_,rfl⟩ ⟨_,rfl⟩ (by omega) (by simp;omega) (by omega) (by omega) l5 ⟨fun y hy=>by
  rcases Ydk.1 hy with hy | hy
  ·exact l6.1 y hy
  ·obtain rfl:=Yeb.1 hy;exact hss,l6.2⟩
end
end Go.P
namespace Go.P
section
variable {L n:Nat} {u:World} {A:Int} {s:ByteArray}
theorem Zxc (h:Kp L u n)(hn:n < 65536):Calls prog 14 #[.pointer (some ⟨L,0,none⟩),.agg #[.int .i64 6,.int .i64 A,.string s]] u (Ze1 L n u):=by
 obtain⟨vb,vp,vk,vc,vy,vr,vd,bs,ys,rs,ds,Fb,Fy,Fr,Fd,H,⟨pp,mp,cp,rfl⟩,⟨tk,rfl⟩,⟨ik,rfl⟩,hl⟩:=h;obtain⟨pr,cr,rfl⟩:=H.rr.form;have HK:=Zaa H;have HL:=Zaa hl;have hL:=H.blk.lt;obtain⟨U,hU⟩: ∃ U,Box (u.alloc (.cells #[.int .i64 6,.int .i64 A,.string s] 48)=U):=⟨_,⟨rfl⟩⟩;have hN:=Blk.new u #[.int .i64 6,.int .i64 A,.string s] 48;have hBU:Box (Below u.heap.size u U):=⟨hU.out▸(Ydb _ u).alloc lr _⟩;have hsU:Box (U.heap.size=u.heap.size+1):=⟨by rw[<- hU.out];simp⟩;rw[hU.out]at hN;have KU:=Zaa (H.later hBU.out);have hS0:U.drew.cell? ⟨L,5,none⟩=some (.slice pr rs.length cr)/\U.drew.cell? ⟨u.heap.size,0,none⟩=some (.int .i64 6)/\U.drew.cell? ⟨u.heap.size,1,none⟩=some (.int .i64 A)/\U.drew.cell? ⟨u.heap.size,2,none⟩=some (.string s):=⟨KU.out.blk.cell 5,hN.three.1,hN.three.2.1,hN.three.2.2.1⟩;have HN:=Zaa hN;clear H hl hN;go_in
 go_wp2_with fail
 rw[hU.out];refine Zat 11 (fun v=>v.cell? ⟨L,5,none⟩=some (.slice pr rs.length cr)/\v.cell? ⟨u.heap.size,0,none⟩=some (.int .i64 6)/\v.cell? ⟨u.heap.size,1,none⟩=some (.int .i64 A)/\v.cell? ⟨u.heap.size,2,none⟩=some (.string s)) (by kernel_rfl) ?_;refine tz 0 (.pointer (some ⟨L,0,none⟩)) hS0 ?_;try simp only[zz]
 refine tz 1 (.pointer (some ⟨L,0,none⟩)) hS0 ?_;try simp only[zz]
 refine tz 2 (.pointer (some ⟨L,0,none⟩)) hS0 ?_;try simp only[zz]
 refine tz 3 (.pointer (some ⟨L,5,none⟩)) hS0 ?_;try simp only[zz]
 refine tz 4 (.slice pr rs.length cr) hS0 (hy:=fun _ ⟨s0,s1,s2,s3⟩=>by go_simp) ?_;try simp only[zz]
 refine tz 5 (.pointer (some ⟨u.heap.size,2,none⟩)) hS0 ?_;try simp only[zz]
 refine tz 6 (.string s) hS0 (hy:=fun _ ⟨s0,s1,s2,s3⟩=>by go_simp) ?_;try simp only[zz]
 refine rz 7 (h:=fun K' hK'=>?_);go_simp;obtain⟨W,hW⟩: ∃ W,Box (U.alloc (.cells #[.string s] 9)=W):=⟨_,⟨rfl⟩⟩;rw[hW.out];have hBW:Below U.heap.size U W:=hW.out▸(Ydb _ U).alloc lr _;have hsW:Box (W.heap.size=U.heap.size+1):=⟨by rw[<- hW.out];simp⟩;have NW:W.heap[U.heap.size]?=some (.cells #[.string s] 9):=hW.out▸Zaw _ _;have KW:=Zaa (KU.out.later hBW);have HW:=Zaa (HN.out.of (hBW.block _ HN.out.lt));refine hK'.out _ _ ⟨KW.out.blk.cell 5,HW.out.three.1,HW.out.three.2.1,HW.out.three.2.2.1⟩ ?_;try simp only[zz]
 refine rz 8 (h:=fun K' hK'=>?_);refine Zdz Zry rfl (.tmp 91) (.tmp 94) rfl Zji.stable (fun _ _ _ _ h=>Zji.one h) (L+1) (.slice pr rs.length cr) rs Fr rfl (KW.out.rr:Zag _ _ _ W.drew _ _ _) U.heap.size #[.string s] 9 (0,0) s [] rfl NW rfl ⟨rfl,rfl⟩ (by have:=HL.out;omega) (by show L+1<=W.heap.size;have:=hsU.out;have:=hsW.out;omega) (KW.out.nr.later lr lr) (Za7.nil _ _) (fun _ _ h=>by cases h) ?_;intro g cap w1 F' happ;have hse:=happ.size;have hsm:=fun k (h:k < W.heap.size) hf=>happ.same k h hf;have KL:=Zaa (KW.out.blk.of (w':=w1) (hsm L KW.out.blk.lt fun hf=>by have:=KW.out.nr.ge L hf;omega));have HX:=Zaa (HW.out.of (w':=w1) (hsm _ HW.out.lt fun hf=>by have:=HK.out.nr.lt _ hf;omega));have hS1:w1.cell? ⟨L,5,none⟩=some (.slice pr rs.length cr)/\w1.cell? ⟨u.heap.size,0,none⟩=some (.int .i64 6)/\w1.cell? ⟨u.heap.size,1,none⟩=some (.int .i64 A)/\w1.cell? ⟨u.heap.size,2,none⟩=some (.string s):=⟨KL.out.cell 5,HX.out.three.1,HX.out.three.2.1,HX.out.three.2.2.1⟩;have ks:=KL.out.soft;have FIN:=Zaa (HK.out.appR (hBU.out.trans (hBW.mono hBU.out.size)).drew (fun _ h=>by cases h) happ);refine hK'.out _ _ hS1 ?_;try simp only[zz]
 refine rz 9 (h:=fun K' hK'=>?_);go_simp;refine hK'.out _ _ hS1 ?_;try simp only[zz]
 refine rz 10 (h:=fun K' hK'=>?_);go_simp;refine hK'.out _ _ hS1 ?_;try simp only[zz]
 have c1:=hS1.1;refine rzl (h:=fun K' hK'=>?_);go_simp;refine hK'.out _ _ ?_;try simp only[zz]
 refine dz (h:=?_);clear happ ks c1 hS0 hS1;go_wp2_with fail
 refine⟨rfl,_,(by simp[results,results14,go_sem];try rfl),?_⟩;obtain⟨l1,l2,l3,l4,l5,l6⟩:=HL.out;exact Kp.mk FIN.out.1 FIN.out.2 ⟨_,_,_,rfl⟩ ⟨_,rfl⟩ ⟨_,rfl⟩ (by omega) (by omega) (by simp;omega) (by omega) l5 l6
theorem Z40 (h:Kp L u n)(hn:n < 65536)(hA:InI A):Calls prog 14 #[.pointer (some ⟨L,0,none⟩),.agg #[.int .i64 7,.int .i64 A,.string s]] u (Ze1 L n u):=by
 obtain⟨vb,vp,vk,vc,vy,vr,vd,bs,ys,rs,ds,Fb,Fy,Fr,Fd,H,⟨pp,mp,cp,rfl⟩,⟨tk,rfl⟩,⟨ik,rfl⟩,hl⟩:=h;obtain⟨pr,cr,rfl⟩:=H.rd.form;have HK:=Zaa H;have HL:=Zaa hl;have hL:=H.blk.lt;obtain⟨U,hU⟩: ∃ U,Box (u.alloc (.cells #[.int .i64 7,.int .i64 A,.string s] 48)=U):=⟨_,⟨rfl⟩⟩;have hN:=Blk.new u #[.int .i64 7,.int .i64 A,.string s] 48;have hBU:Box (Below u.heap.size u U):=⟨hU.out▸(Ydb _ u).alloc lr _⟩;have hsU:Box (U.heap.size=u.heap.size+1):=⟨by rw[<- hU.out];simp⟩;rw[hU.out]at hN;have KU:=Zaa (H.later hBU.out);have hS0:U.drew.cell? ⟨L,6,none⟩=some (.slice pr ds.length cr)/\U.drew.cell? ⟨u.heap.size,0,none⟩=some (.int .i64 7)/\U.drew.cell? ⟨u.heap.size,1,none⟩=some (.int .i64 A)/\U.drew.cell? ⟨u.heap.size,2,none⟩=some (.string s):=⟨KU.out.blk.cell 6,hN.three.1,hN.three.2.1,hN.three.2.2.1⟩;have HN:=Zaa hN;clear H hl hN;go_in
 go_wp2_with fail
 rw[hU.out];refine Zat 10 (fun v=>v.cell? ⟨L,6,none⟩=some (.slice pr ds.length cr)/\v.cell? ⟨u.heap.size,0,none⟩=some (.int .i64 7)/\v.cell? ⟨u.heap.size,1,none⟩=some (.int .i64 A)/\v.cell? ⟨u.heap.size,2,none⟩=some (.string s)) (by kernel_rfl) ?_;refine tz 0 (.pointer (some ⟨L,0,none⟩)) hS0 ?_;try simp only[zz]
 refine tz 1 (.pointer (some ⟨L,0,none⟩)) hS0 ?_;try simp only[zz]
 refine tz 2 (.pointer (some ⟨L,0,none⟩)) hS0 ?_;try simp only[zz]
 refine tz 3 (.pointer (some ⟨L,6,none⟩)) hS0 ?_;try simp only[zz]
 refine tz 4 (.slice pr ds.length cr) hS0 (hy:=fun _ ⟨s0,s1,s2,s3⟩=>by go_simp) ?_;try simp only[zz]
 refine tz 5 (.agg #[.int .i64 7,.int .i64 A,.string s]) hS0 (hy:=fun _ ⟨s0,s1,s2,s3⟩=>by go_simp) ?_;try simp only[zz]
 refine rz 6 (h:=fun K' hK'=>?_);go_simp;obtain⟨W,hW⟩: ∃ W,Box (U.alloc (.cells #[.int .i64 7,.int .i64 A,.string s] 48)=W):=⟨_,⟨rfl⟩⟩;rw[hW.out];have hBW:Below U.heap.size U W:=hW.out▸(Ydb _ U).alloc lr _;have hsW:Box (W.heap.size=U.heap.size+1):=⟨by rw[<- hW.out];simp⟩;have NW:W.heap[U.heap.size]?=some (.cells #[.int .i64 7,.int .i64 A,.string s] 48):=hW.out▸Zaw _ _;have KW:=Zaa (KU.out.later hBW);have HW:=Zaa (HN.out.of (hBW.block _ HN.out.lt));refine hK'.out _ _ ⟨KW.out.blk.cell 6,HW.out.three.1,HW.out.three.2.1,HW.out.three.2.2.1⟩ ?_;try simp only[zz]
 refine rz 7 (h:=fun K' hK'=>?_);refine Zdz Z84 rfl (.tmp 104) (.tmp 106) rfl OpO.stable (fun _ _ _ _ h=>OpO.one h) (L+1) (.slice pr ds.length cr) ds Fd rfl (KW.out.rd:Zag _ _ _ W.drew _ _ _) U.heap.size #[.int .i64 7,.int .i64 A,.string s] 48 (0,0) ((7:Int),A,s) [] rfl NW rfl ⟨rfl,rfl⟩ (by have:=HL.out;omega) (by show L+1<=W.heap.size;have:=hsU.out;have:=hsW.out;omega) (KW.out.nd.later lr lr) (Za7.nil _ _) (fun _ _ h=>by cases h) ?_;intro g cap w1 F' happ;have hse:=happ.size;have hsm:=fun k (h:k < W.heap.size) hf=>happ.same k h hf;have KL:=Zaa (KW.out.blk.of (w':=w1) (hsm L KW.out.blk.lt fun hf=>by have:=KW.out.nd.ge L hf;omega));have HX:=Zaa (HW.out.of (w':=w1) (hsm _ HW.out.lt fun hf=>by have:=HK.out.nd.lt _ hf;omega));have hS1:w1.cell? ⟨L,6,none⟩=some (.slice pr ds.length cr)/\w1.cell? ⟨u.heap.size,0,none⟩=some (.int .i64 7)/\w1.cell? ⟨u.heap.size,1,none⟩=some (.int .i64 A)/\w1.cell? ⟨u.heap.size,2,none⟩=some (.string s):=⟨KL.out.cell 6,HX.out.three.1,HX.out.three.2.1,HX.out.three.2.2.1⟩;have ks:=KL.out.soft;have FIN:=Zaa (HK.out.appD (hBU.out.trans (hBW.mono hBU.out.size)).drew (fun _ h=>by cases h) happ);refine hK'.out _ _ hS1 ?_;try simp only[zz]
 refine rz 8 (h:=fun K' hK'=>?_);go_simp;refine hK'.out _ _ hS1 ?_;try simp only[zz]
 refine rz 9 (h:=fun K' hK'=>?_);go_simp;refine hK'.out _ _ hS1 ?_;try simp only[zz]
 have c1:=hS1.1;refine rzl (h:=fun K' hK'=>?_);go_simp;refine hK'.out _ _ ?_;try simp only[zz]
 refine dz (h:=?_);clear happ ks c1 hS0 hS1;go_wp2_with fail
 refine⟨rfl,_,(by simp[results,results14,go_sem];try rfl),?_⟩;obtain⟨l1,l2,l3,l4,l5,l6⟩:=HL.out;exact Kp.mk FIN.out.1 FIN.out.2 ⟨_,_,_,rfl⟩ ⟨_,rfl⟩ ⟨_,rfl⟩ (by omega) (by omega) (by omega) (by simp;omega) l5 ⟨l6.1,l6.2.1,fun d hd=>by
  rcases Ydk.1 hd with hd | hd
  ·exact l6.2.2 d hd
  ·obtain rfl:=Yeb.1 hd;exact hA⟩
end
end Go.P
namespace Go.P
section
variable {L n:Nat} {u:World} {A:Int} {s:ByteArray} {a:Nat->Addr}
theorem Zzs {ty:Tys}{d:Nat}{w:World}{vs:List Value}{x:Bk}{F:List Nat}(h:Zbj ty d w vs x F): ∀ u,u∈vs->u.oneCell'=true:=by
 obtain⟨p,c,p1,c1,p2,c2,rfl⟩:=Zbj.vals h;intro u hu;simp at hu;rcases hu with rfl | rfl | rfl <;> rfl
theorem Z1f (h:Kp L u n)(hn:n < 65536)(hss:s.size<=65536)(Z:Zao a u)(E:Zjs a u):Calls prog 14 #[.pointer (some ⟨L,0,none⟩),.agg #[.int .i64 1,.int .i64 A,.string s]] u (Ze1 L n u):=by
 obtain⟨vb,vp,vk,vc,vy,vr,vd,bs,ys,rs,ds,Fb,Fy,Fr,Fd,H,⟨pp,mp,cp,rfl⟩,⟨tk,rfl⟩,⟨ik,rfl⟩,hl⟩:=h;obtain⟨pr,cr,rfl⟩:=H.rb.form;have HK:=Zaa H;have HL:=Zaa hl;have hL:=H.blk.lt;have C:=Zaa (fun v (hv:Below u.heap.size u v)=>Zq7 s (by omega) (Z.below hv) (E.below hv));clear H hl Z E;go_in
 go_wp2_with fail
 have B0:=(Ydb u.heap.size u).alloc lr (.cells #[.int .i64 1,.int .i64 A,.string s] 48);have hz0:u.heap.size < (u.alloc (.cells #[.int .i64 1,.int .i64 A,.string s] 48)).heap.size:=by simp
 refine(C.out _ B0).mono ?_;generalize u.alloc (.cells #[.int .i64 1,.int .i64 A,.string s] 48)=U at*;rintro e w1 ⟨⟨⟨p,c0,c⟩,⟨p1,c1,c2⟩,p2,c3,c4⟩,m,q,rfl,hk,hb⟩;have B1:=Zaa (B0.trans (hb.mono B0.size));have hsz:=hb.size;simp only[sl3];rcases hk with⟨_,hm,_⟩ | ⟨rfl,x,F,hx,hO,hN⟩
 ·have hm':(m==0)=false:=by simpa using hm
  clear hb;go_wp2_with fail
  refine⟨rfl,_,(by simp[results,results14,go_sem];try rfl),?_⟩;obtain⟨l1,l2,l3,l4,l5,l6⟩:=HL.out;exact Kp.mk ((HK.out.later B1.out).up _) ((B1.out.alloc B1.out.size _).mono (by omega)) ⟨_,_,_,rfl⟩ ⟨_,rfl⟩ ⟨_,rfl⟩ (by omega) (by omega) (by omega) (by omega) l5 l6
 ·have HX:=Zaa (Yda hx (Yda hO hN));clear hx hO hN hb;go_wp2_with fail
  obtain⟨U1,hU⟩: ∃ U1,Box (w1.alloc (.cells #[.slice p c0 c,.slice p1 c1 c2,.slice p2 c3 c4] 45)=U1):=⟨_,⟨rfl⟩⟩;have HN:=Zaa (Blk.new w1 #[.slice p c0 c,.slice p1 c1 c2,.slice p2 c3 c4] 45);have hBU:Box (Below w1.heap.size w1 U1):=⟨hU.out▸(Ydb _ w1).alloc lr _⟩;have hsU:Box (U1.heap.size=w1.heap.size+1):=⟨by rw[<- hU.out];simp⟩;rw[hU.out]at HN⊢;have KU:=Zaa ((HK.out.later B1.out).later hBU.out);have hS0:U1.drew.cell? ⟨L,0,none⟩=some (.slice pr bs.length cr)/\U1.drew.cell? ⟨w1.heap.size,0,none⟩=some (.slice p c0 c)/\U1.drew.cell? ⟨w1.heap.size,1,none⟩=some (.slice p1 c1 c2)/\U1.drew.cell? ⟨w1.heap.size,2,none⟩=some (.slice p2 c3 c4):=⟨KU.out.blk.cell 0,HN.out.three.1,HN.out.three.2.1,HN.out.three.2.2.1⟩;refine Zat 10 (fun v=>v.cell? ⟨L,0,none⟩=some (.slice pr bs.length cr)/\v.cell? ⟨w1.heap.size,0,none⟩=some (.slice p c0 c)/\v.cell? ⟨w1.heap.size,1,none⟩=some (.slice p1 c1 c2)/\v.cell? ⟨w1.heap.size,2,none⟩=some (.slice p2 c3 c4)) (by kernel_rfl) ?_;refine tz 0 (.pointer (some ⟨L,0,none⟩)) hS0 ?_;try simp only[zz]
  refine tz 1 (.pointer (some ⟨L,0,none⟩)) hS0 ?_;try simp only[zz]
  refine tz 2 (.pointer (some ⟨L,0,none⟩)) hS0 ?_;try simp only[zz]
  refine tz 3 (.pointer (some ⟨L,0,none⟩)) hS0 ?_;try simp only[zz]
  refine tz 4 (.slice pr bs.length cr) hS0 (hy:=fun _ ⟨s0,s1,s2,s3⟩=>by go_simp) ?_;try simp only[zz]
  refine tz 5 (.agg #[.slice p c0 c,.slice p1 c1 c2,.slice p2 c3 c4]) hS0 (hy:=fun _ ⟨s0,s1,s2,s3⟩=>by go_simp) ?_;try simp only[zz]
  refine rz 6 (h:=fun K' hK'=>?_);go_simp;obtain⟨W,hW⟩: ∃ W,Box (U1.alloc (.cells #[.slice p c0 c,.slice p1 c1 c2,.slice p2 c3 c4] 45)=W):=⟨_,⟨rfl⟩⟩;rw[hW.out];have hBW:Below U1.heap.size U1 W:=hW.out▸(Ydb _ U1).alloc lr _;have hsW:Box (W.heap.size=U1.heap.size+1):=⟨by rw[<- hW.out];simp⟩;have NW:W.heap[U1.heap.size]?=some (.cells #[.slice p c0 c,.slice p1 c1 c2,.slice p2 c3 c4] 45):=hW.out▸Zaw _ _;have KW:=Zaa (KU.out.later hBW);have HW:=Zaa (HN.out.of (hBW.block _ HN.out.lt));have hb1:Below w1.heap.size w1 W:=hBU.out.trans (hBW.mono hBU.out.size);have hGl: ∀ k,k∈F->u.heap.size < k:=fun k hk=>by have:=HX.out.2.2.ge k hk;omega
  refine hK'.out _ _ ⟨KW.out.blk.cell 0,HW.out.three.1,HW.out.three.2.1,HW.out.three.2.2.1⟩ ?_;try simp only[zz]
  refine rz 7 (h:=fun K' hK'=>?_);refine Zdz Zx5 rfl (.tmp 27) (.tmp 29) rfl (Zbj.stable (ty:=Zad) 4) (fun _ _ _ _ h=>Zzs h) (L+1) (.slice pr bs.length cr) bs Fb rfl (KW.out.rb:Zag _ _ _ W.drew _ _ _) U1.heap.size #[.slice p c0 c,.slice p1 c1 c2,.slice p2 c3 c4] 45 (0,0) x F rfl NW rfl (Zbj.stable (ty:=Zad) 4 _ _ _ _ _ HX.out.2.1 fun k hk=>hb1.block k (HX.out.2.2.lt k hk)) (by have:=HL.out;omega) (by show L+1<=W.heap.size;have:=hsU.out;have:=hsW.out;omega) (KW.out.nb.later lr lr) (HX.out.2.2.later (by omega) hb1.size) (fun k hk hk'=>by have:=HK.out.nb.lt k hk;have:=hGl k hk';omega) ?_;intro g cap w9 F' happ;have hsm:=fun k (h:k < W.heap.size) hf=>happ.same k h hf;have KL:=Zaa (KW.out.blk.of (w':=w9) (hsm L KW.out.blk.lt fun hf=>by have:=KW.out.nb.ge L hf;omega));have HY:=Zaa (HW.out.of (w':=w9) (hsm _ HW.out.lt fun hf=>by have:=HK.out.nb.lt _ hf;omega));have hS1:w9.cell? ⟨L,0,none⟩=some (.slice pr bs.length cr)/\w9.cell? ⟨w1.heap.size,0,none⟩=some (.slice p c0 c)/\w9.cell? ⟨w1.heap.size,1,none⟩=some (.slice p1 c1 c2)/\w9.cell? ⟨w1.heap.size,2,none⟩=some (.slice p2 c3 c4):=⟨KL.out.cell 0,HY.out.three.1,HY.out.three.2.1,HY.out.three.2.2.1⟩;have ks:=KL.out.soft;have FIN:=Zaa (HK.out.appB (tr B1 hb1).out.drew (fun k hk=>Nat.le_of_lt (hGl k hk)) happ);refine hK'.out _ _ hS1 ?_;try simp only[zz]
  refine rz 8 (h:=fun K' hK'=>?_);go_simp;refine hK'.out _ _ hS1 ?_;try simp only[zz]
  refine rz 9 (h:=fun K' hK'=>?_);go_simp;refine hK'.out _ _ hS1 ?_;try simp only[zz]
  have c1':=hS1.1;refine rzl (h:=fun K' hK'=>?_);go_simp;refine hK'.out _ _ ?_;try simp only[zz]
  refine dz (h:=?_);clear happ ks c1' hS0 hS1;go_wp2_with fail
  refine⟨rfl,_,(by simp[results,results14,go_sem];try rfl),?_⟩;obtain⟨l1,l2,l3,l4,l5,l6⟩:=HL.out;exact Kp.mk FIN.out.1 FIN.out.2 ⟨_,_,_,rfl⟩ ⟨_,rfl⟩ ⟨_,rfl⟩ (by simp;omega) (by omega) (by omega) (by omega) (fun y hy=>by
   rcases Ydk.1 hy with hy | hy
   ·exact l5 y hy
   ·obtain rfl:=Yeb.1 hy;exact⟨s,HX.out.1⟩) l6
theorem Z41 (h:Kp L u n)(hss:s.size<=65536)(Z:Zao a u)(E:Zjs a u):Calls prog 14 #[.pointer (some ⟨L,0,none⟩),.agg #[.int .i64 2,.int .i64 A,.string s]] u (Ze1 L n u):=by
 obtain⟨vb,vp,vk,vc,vy,vr,vd,bs,ys,rs,ds,Fb,Fy,Fr,Fd,H,⟨pp,mp,cp,rfl⟩,⟨tk,rfl⟩,⟨ik,rfl⟩,hl⟩:=h;have HK:=Zaa H;have HL:=Zaa hl;have hL:=H.blk.lt;have C:=Zaa (fun v (hv:Below u.heap.size u v)=>Zur s (by omega) (Z.below hv) (E.below hv));clear H hl Z E;go_in
 go_wp2_with fail
 have B0:=(Ydb u.heap.size u).alloc lr (.cells #[.int .i64 2,.int .i64 A,.string s] 48);refine(C.out _ B0).mono ?_;generalize u.alloc (.cells #[.int .i64 2,.int .i64 A,.string s] 48)=U at*;rintro e w1 ⟨v,m,q,rfl,hk,hb⟩;have B1:=Zaa (B0.trans (hb.mono B0.size));have hsz:=B1.out.size;have K1:=Zaa (HK.out.later B1.out);have KC:=K1.out.blk.cell 1;have KS:=K1.out.blk.soft;have hv: ∃ p' m' c',v= .slice p' m' c':=by
  rcases hk with⟨_,_,rfl⟩ | ⟨_,l,F,_,h3,_⟩
  ·exact⟨_,_,_,rfl⟩
  ·obtain⟨p',c',rfl⟩:=h3.form;exact⟨_,_,_,rfl⟩
 obtain⟨p',m',c',rfl⟩:=hv;clear hk hb B0;by_cases hm:m=0
 ·subst hm;go_wp2_with fail
  refine⟨rfl,_,(by simp[results,results14,go_sem];try rfl),?_⟩;obtain⟨l1,l2,l3,l4,l5,l6⟩:=HL.out;exact Kp.mk (K1.out.set 1 _ rfl) ((B1.out.mono (Nat.le_of_lt hL)).setCell lr _) ⟨_,_,_,rfl⟩ ⟨_,rfl⟩ ⟨_,rfl⟩ (by omega) (by omega) (by omega) (by omega) l5 l6
 ·have hm':(m==0)=false:=by simpa using hm
  go_wp2_with fail
  refine⟨rfl,_,(by simp[results,results14,go_sem];try rfl),?_⟩;obtain⟨l1,l2,l3,l4,l5,l6⟩:=HL.out;exact Kp.mk K1.out (B1.out.mono (by omega)) ⟨_,_,_,rfl⟩ ⟨_,rfl⟩ ⟨_,rfl⟩ (by omega) (by omega) (by omega) (by omega) l5 l6
theorem Z7i {k:Int}(h:Kp L u n)(hn:n < 65536)(hss:s.size<=65536)(hA:InI A)(Z:Zao a u)(E:Zjs a u):Calls prog 14 #[.pointer (some ⟨L,0,none⟩),.agg #[.int .i64 k,.int .i64 A,.string s]] u (Ze1 L n u):=by
 by_cases h1:k=1
 ·subst h1;exact Z1f h hn hss Z E
 by_cases h2:k=2
 ·subst h2;exact Z41 h hss Z E
 by_cases h3:k=3
 ·subst h3;exact Z7j h hss
 by_cases h4:k=4
 ·subst h4;exact Z1i h
 by_cases h5:k=5
 ·subst h5;exact Z1g h hn hss
 by_cases h6:k=6
 ·subst h6;exact Zxc h hn
 by_cases h7:k=7
 ·subst h7;exact Z40 h hn hA
 exact Z1j h h1 h2 h3 h4 h5 h6 h7
end
end Go.P
namespace Go.P
def Z8r (w:World) (n:Nat) (iv:Value) (wr:World):Prop:= ∃ k:Nat,k<=n/\iv= .int .i64 (k:Int)/\Kp w.heap.size wr k/\Below w.heap.size w wr
theorem Z7p {a:Nat->Addr}{w:World}{p:Option Addr}{c:Nat}{xs:List (Int×Int×ByteArray)}(h:Z5o w p xs)(hl:xs.length < 140737488355328)(Z:Zao a w)(E:Zjs a w):Calls prog 4 #[.slice p xs.length c] w fun e w'=>(e= .returned (.tuple #[.pointer none,.bool false])/\w'=w)\/(e= .returned (.tuple #[.pointer (some ⟨w.heap.size,0,none⟩),.bool true])/\Kp w.heap.size w' xs.length/\xs.length<=65536/\Below w.heap.size w w'):=by
 have CS:=Zaa (Z4u (c:=c) h hl);have H:=Zaa h;have HZ:=Zaa (fun u (hu:Below w.heap.size w u)=>Yda (Z.below hu) (E.below hu));clear h Z E;obtain⟨n,hn⟩: ∃ n,Box (xs.length=n):=⟨_,⟨rfl⟩⟩;rw[hn.out]at hl CS⊢;go_in
 go_wp2_with fail
 refine CS.out.mono ?_;rintro e w1 ⟨b,rfl,rfl,hb⟩;cases b with
 | false=>
  clear hb;go_wp2
  go_ret2
  exact .inl ⟨rfl,rfl⟩
 | true=>
  obtain⟨hn1,hs⟩:=hb rfl;have HS:=Zaa hs;clear hb hs CS;go_wp2_with fail
  have K0:Kp w1.heap.size (w1.alloc (.cells #[.slice none 0 0,.slice none 0 0,.string ⟨#[107,101,121]⟩,.int .i64 0,.slice none 0 0,.slice none 0 0,.slice none 0 0] 38)) 0:=⟨_,_,_,_,_,_,_,[],[],[],[],[],[],[],[],⟨Blk.new _ _ _,Zag.nil,Zag.nil,Zag.nil,Zag.nil,Za7.nil _ _,Za7.nil _ _,Za7.nil _ _,Za7.nil _ _,(fun _ h=>by cases h),(fun _ h=>by cases h),(fun _ h=>by cases h)⟩,⟨_,_,_,rfl⟩,⟨_,rfl⟩,⟨_,rfl⟩,by simp,by simp,by simp,by simp,(fun _ h=>by cases h),(fun _ h=>by cases h),by decide,fun _ h=>by cases h⟩;have HK:=Zaa K0;clear K0;go_loopw [6] (fun iv wr=>Z8r w1 n iv wr) (fun iv _=>n - (intOf iv).toNat)
  case atStart=>exact⟨0,by omega,rfl,HK.out,(Ydb _ _).alloc lr _⟩
  case round=>
   obtain⟨k,hk,rfl,hkp,hbw⟩:=hrel;have HB:=Zaa hbw;have HP:=Zaa hkp;by_cases hlt:k < n
   ·have hlt':k < xs.length:=by rw[hn.out];exact hlt
    obtain⟨⟨hs,hA⟩,b,o,rfl,c0,c1,c2⟩:=H.out k xs[k] (Ydi hlt');have hsz:=HS.out k xs[k] (Ydi hlt');have d0:=Zab c0 hbw;have d1:=Zab c1 hbw;have d2:=Zab c2 hbw;have ST:=Zaa (fun kk aa ss (hss:ByteArray.size ss<=65536) (hA:InI aa)=>Z7i (k:=kk) (A:=aa) (s:=ss) hkp (by omega) hss hA (HZ.out _ hbw).1 (HZ.out _ hbw).2);have HA:=Zaa hA;clear c0 c1 c2 hkp hbw hA;generalize xs[k]=x at*;go_wp2_with fail
    refine(ST.out _ _ _ hsz HA.out).mono ?_;rintro e w2 ⟨rfl,hk2,hb2⟩;have HP2:=Zaa (Yda hk2 (HB.out.trans hb2));clear hk2 hb2 ST d0 d1 d2;go_wp2
    exact⟨⟨k+1,by omega,by go_num,HP2.out.1,HP2.out.2⟩,by simp[intOf];omega⟩
   ·obtain rfl:k=n:=by omega
    clear hkp hbw;go_wp2
    go_ret2
    exact .inr ⟨rfl,HP.out,hn1,HB.out⟩
end Go.P
namespace Go.P
theorem Zht {B D:Nat}{w:World}{p q:Option Addr}{c c':Nat}{xs:List A}(hB:B<=w.heap.size)(hp:Zan 2 (Zbb B w (D+1)) p xs)(hq:Zan 2 (Zbb B w (D+1)) q xs):Calls prog 23 #[.slice p xs.length c,.slice q xs.length c'] w fun e w'=>e= .returned (.bool true)/\Below w.heap.size w w':=by
 have hl:=hp.len;have HP:=Zaa hp;have HQ:=Zaa hq;clear hp hq;obtain⟨n,hn⟩: ∃ n,Box (xs.length=n):=⟨_,⟨rfl⟩⟩;rw[hn.out]at hl⊢;go_in
 go_wp2
 go_loopw [5] (fun iv wr=>Z19 w n iv wr) (fun iv _=>n - (intOf iv).toNat)
 case atStart=>exact⟨0,by omega,rfl,Ydb _ _⟩
 case round=>
  obtain⟨k,hk,rfl,hbw⟩:=hrel;have HB:=Zaa hbw;by_cases hlt:k < n
  ·have hlt':k < xs.length:=by rw[hn.out];exact hlt
   obtain⟨b1,o1,rfl,hx⟩:=HP.out.get k hlt';obtain⟨b2,o2,rfl,hy⟩:=HQ.out.get k hlt';obtain⟨l1,p1,c1,k0,k1,_,_,e1,_,_,r1⟩:=(hx.carry (Za4 hbw hB) lr).vals;cases e1;obtain⟨l2,p2,c2,j0,j1,_,_,e2,_,_,r2⟩:=(hy.carry (Za4 hbw hB) lr).vals;cases e2;have CC:=Zaa (fun u (hu:Below wr.heap.size wr u)=>Zkx (D+1) (B:=B) (w:=u) (c:=c1) (c':=c2) (Ydc hB (Ydc hbw.size hu.size)) (r1.carry fun _ _ _ t=>t.carry (Za4 hu (Ydc hB hbw.size)) lr) (r2.carry fun _ _ _ t=>t.carry (Za4 hu (Ydc hB hbw.size)) lr));have HX:=Zaa (fun u (hu:Below wr.heap.size wr u)=>Yda (Yda (Zab k0 hu) (Zab k1 hu)) (Yda (Zab j0 hu) (Zab j1 hu)));clear r1 r2 hx hy hbw k0 j0;generalize xs[k]=x at*;go_wp2_with fail
   have hS0:wr.drew.cell? ⟨b1,o1+k*2+1,none⟩=some (.slice p1 x.terms.length c1)/\wr.drew.cell? ⟨b2,o2+k*2+1,none⟩=some (.slice p2 x.terms.length c2):=⟨k1,j1⟩;refine Zat 10 (fun u=>u.cell? ⟨b1,o1+k*2+1,none⟩=some (.slice p1 x.terms.length c1)/\u.cell? ⟨b2,o2+k*2+1,none⟩=some (.slice p2 x.terms.length c2)) (by kernel_rfl) ?_;refine tf 0 (.slice (some ⟨b1,o1,none⟩) n c) hS0 ?_;try simp only[zz]
   refine tf 1 (.int .i64 (k:Int)) hS0 ?_;try simp only[zz]
   refine tf 2 (.pointer (some ⟨b1,o1+k*2,none⟩)) hS0 ?_;try simp only[zz]
   refine tf 3 (.pointer (some ⟨b1,o1+k*2+1,none⟩)) hS0 ?_;try simp only[zz]
   refine tz 4 (.slice p1 x.terms.length c1) hS0 (hy:=fun _ ⟨s0,s1⟩=>by go_simp) ?_;try simp only[zz]
   refine tf 5 (.slice (some ⟨b2,o2,none⟩) n c') hS0 ?_;try simp only[zz]
   refine tf 6 (.int .i64 (k:Int)) hS0 ?_;try simp only[zz]
   refine tf 7 (.pointer (some ⟨b2,o2+k*2,none⟩)) hS0 ?_;try simp only[zz]
   refine tf 8 (.pointer (some ⟨b2,o2+k*2+1,none⟩)) hS0 ?_;try simp only[zz]
   refine tz 9 (.slice p2 x.terms.length c2) hS0 (hy:=fun _ ⟨s0,s1⟩=>by go_simp) ?_;try simp only[zz]
   refine rzl (h:=fun K' hK'=>?_);go_simp;refine(CC.out _ ((Ydb _ wr).drew)).mono ?_;rintro e w2 ⟨rfl,hb2⟩;have B2:=Zaa ((Ydb _ wr).drew.trans hb2);refine hK'.out _ _ ?_;try simp only[zz]
   refine ry 11 (h:=fun K' hK'=>?_);go_simp;refine hK'.out _ _ ?_;try simp only[zz]
   refine dz (h:=?_);obtain⟨⟨k0,k1⟩,j0,j1⟩:=HX.out w2 B2.out;clear hb2 hS0;go_wp2
   go_quiet (fail)
   have B3:=tr HB B2.out;clear k0 k1 j0 j1;go_wp2
   exact⟨⟨k+1,by omega,by go_num,B3.out.drewK _⟩,by simp[intOf];omega⟩
  ·obtain rfl:k=n:=by omega
   go_wp2
   go_ret
   exact⟨rfl,HB.out⟩
end Go.P
