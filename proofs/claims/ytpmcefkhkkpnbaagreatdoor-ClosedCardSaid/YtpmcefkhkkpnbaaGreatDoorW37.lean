import Derived.Test.YtpmcefkhkkpnbaaGreatDoorW34
set_option linter.all false
set_option maxRecDepth 100000
set_option maxHeartbeats 8000000
open Go.Proofs Go.RowKit Go.W Tryz
namespace Go.W
section
variable {a:Nat->Addr} {B D:Nat} {w:Bb} {x:Dk}
def Zzf (V:D9){vs:Bu}(Z:AZ a w)(hB:B<=w.heap.size)(hS:kV B w D vs x):
  Calls prog 93 #[.agg vs.toArray] w (FT a (J4 x.either) w):=by
 obtain⟨p,c,rfl,_,hr⟩:=hS;have C1:=AC fun u (hu:Bl w u)=>Zj3 V (c:=c) (Z.be hu) (Ab hB hu.size) (hr.cy fun _ _ _ r=>r.cy (Bq hu hB) lr);have B0:=AC<|zv w<|.cells #[.bool x.allow,sP p x.either.length c] 189;clear hr Z;go_in
 go_wp2_with fail
 apply(C1.o _ B0.o).mono;rintro e w1 ⟨rfl,hb⟩;go_wp2
 go_ret
 exact⟨rfl,B0.o.trans<|hb.mono B0.o.size⟩
end
def Yfx (t:TypeId)(v:Value)(w:Bb):(binOp .eql 57 .nilIface<|.iface t v).run prog w= .ok (.bool false) w:=zt
def Yil (t:TypeId)(v:Value)(w:Bb):Calls prog 27 #[.nilIface,.iface t v] w fun e w'=>e=uY (.bool false)/\w'=w:=by
 have h:=Yfx t v w;go_in
 go_wp2
 go_ret
 exact⟨rfl,rfl⟩
def IM (s:Ay):List Ay->Bool
 | []=>false
 | t::l=>decide (t=s) || IM s l
def Z2r {s:Ay}: ∀ {l:List Ay},IM s l=true↔s∈l
 | []=>by simp[IM]
 | t::l=>by rw[IM,Bool.or_eq_true,wA,Z2r,Ak,eq_comm]
def Kz (l:List Ay):List Ay->Bool
 | []=>false
 | t::ts=>IM t l || Kz l ts
def jf {l:List Ay}: ∀ {ts:List Ay},Kz l ts=true↔ ∃ t,t∈ts/\t∈l
 | []=>by simp[Kz]
 | t::ts=>by rw[Kz,Bool.or_eq_true,Z2r,jf];simp
variable {L c:Nat}{p:Bp}
section
variable {w:Bb} {p q:Bp} {c d:Nat} {rv ids:List Ay}
def Z6v (h:IV w p rv)(hl:rv.length<1000000000)(s:Ay):Calls prog 155 #[sP p rv.length c,um s] w fun e w'=>Yjh (IM s rv) e/\w'=w:=by
 obtain⟨n,hn⟩:=cK (rv.length);rw[hn.o]at hl⊢;have HR:=AC h;clear h;go_in
 go_wp2
 go_loopw [8] (fun iv wr=> ∃ k:Nat,k<=n/\iv= zo (k:Int)/\wr=w/\IM s rv=IM s (rv.drop k)) (fun iv _=>n-(intOf iv).toNat)
 .exact⟨0,Eg _,rfl,rfl,rfl⟩
 .obtain⟨k,hk,rfl,hw,Ce⟩:=hrel;obtain rfl:=hw.symm;by_cases hlt:k<n
  .have g:(k:Int)<(n:Int):=zx
   obtain⟨t,ht⟩: ∃ t,rv[k]?=some t:=⟨_,A8 (fw (hn.o))⟩;obtain⟨_,b,o,rfl,_,z0⟩:=HR.o k t ht;have hdr:rv.drop k=t::rv.drop (k+1):=by rw[<- (DW.1 ht).2,xH (fw (hn.o))]
   rw[hdr,IM]at Ce;have HE:=AC Ce;clear Ce hdr ht;by_cases H7:t=s
   .have E:AF (IM s rv=true):=⟨by rw[HE.o];simp[H7]⟩;have g2:(s.toList==t.toList)=true:=by rw[H7];simp
    have g3:(t.toList==s.toList)=true:=by rw[H7];simp
    clear H7;go_wp2
    go_ret
    rw[E.o];exact⟨⟨_,rfl,zw⟩,rfl⟩
   .have E:AF (IM s rv=IM s (rv.drop<|k+1)):=⟨by rw[HE.o];simp[H7]⟩;have hne:t.toList≠s.toList:=fun e=>H7 (by
     rw[Nw,Nw]at e;exact ByteArray.ext<|Array.toList_inj.1 e)
    have g2:(s.toList==t.toList)=false:=by rw[BJ];exact fun e=>hne e.symm
    have g3:(t.toList==s.toList)=false:=by rw[BJ];exact hne
    clear H7 hne;go_wp2
    exact⟨⟨k+1,zx,zw,by trivial,E.o⟩,zd⟩
  .obtain rfl:k=n:=zx
   have hdr:rv.drop k=[]:=List.drop_eq_nil_of_le (fw (hn.o));rw[hdr,IM]at Ce;have HE:=AC Ce;clear Ce hdr;go_wp2
   go_ret
   rw[HE.o];exact⟨⟨-1,rfl,rfl⟩,rfl⟩
def Zwe (h:IV w p rv)(hl:rv.length<1000000000)(s:Ay):Calls prog 99 #[sP p rv.length c,um s] w fun e w'=>e=uY (.bool<|IM s rv)/\w'=w:=by
 have C:=AC<|Z6v (c:=c) h hl s;clear h hl;generalize rv.length=n at*;go_in
 go_wp2_with fail
 apply C.o.mono;rintro e w' ⟨⟨i,rfl,hi⟩,rfl⟩;go_wp2
 go_ret
 first | exact⟨rfl,rfl⟩ | exact⟨by rw[hi],rfl⟩
def Zyt (h:IV w p rv)(hl:rv.length<1000000000)(hc:w.cell? (zm L 0)=some (sP p rv.length c))(s:Ay):Calls prog 98 #[um s,zq L 0] w fun e w'=>e=uY (.bool<|IM s rv)/\w'=w:=by
 have C:=AC<|Zwe (c:=c) h hl s;clear h hl;generalize rv.length=n at*;go_in
 go_wp2_with fail
 apply mq C.o;rintro w' rfl;go_wp2
 go_ret
 exact⟨rfl,rfl⟩
def Z1f (h:IV w p rv)(hl:rv.length<1000000000)(hi:IV w q ids)(Ye:ids.length<1000000000)(hc:w.cell? (zm L 0)=some (sP p rv.length c)):Calls prog 154 #[sP q ids.length d,.func (.func 98) #[] #[zq L 0]] w fun e w'=>Yjh (Kz rv ids) e/\w'=w:=by
 have hen: ∀ args w,(callFunc 98 args).run prog w= .ok (.enter 98 args) w:=EH func98 zt rfl;obtain⟨n,hn⟩:=cK (ids.length);rw[hn.o]at Ye⊢;have HR:=AC hi;have HC:=AC fun s=>Zyt h hl hc s;clear hi h hl hc;go_in
 go_wp2
 go_loopw [8] (fun iv wr=> ∃ k:Nat,k<=n/\iv= zo (k:Int)/\wr=w/\Kz rv ids=Kz rv (ids.drop k)) (fun iv _=>n-(intOf iv).toNat)
 .exact⟨0,Eg _,rfl,rfl,rfl⟩
 .obtain⟨k,hk,rfl,hw,Ce⟩:=hrel;obtain rfl:=hw.symm;by_cases hlt:k<n
  .have g:(k:Int)<(n:Int):=zx
   obtain⟨t,ht⟩: ∃ t,ids[k]?=some t:=⟨_,A8 (fw (hn.o))⟩;obtain⟨_,b,o,rfl,_,z0⟩:=HR.o k t ht;have hdr:ids.drop k=t::ids.drop (k+1):=by rw[<- (DW.1 ht).2,xH (fw (hn.o))]
   rw[hdr,Kz]at Ce;have HE:=AC Ce;have C:=AC<|HC.o t;clear Ce hdr ht;generalize IM t rv=bb at*;go_wp2_with fail
   apply mq C.o;rintro w' rfl;cases bb with
   | true=>
    go_wp2
    go_ret
    rw[HE.o];exact⟨⟨_,rfl,zw⟩,rfl⟩
   | false=>
    have E:AF (Kz rv ids=Kz rv (ids.drop<|k+1)):=⟨by rw[HE.o];simp⟩;go_wp2
    exact⟨⟨k+1,zx,zw,by trivial,E.o⟩,zd⟩
  .obtain rfl:k=n:=zx
   have hdr:ids.drop k=[]:=List.drop_eq_nil_of_le (fw (hn.o));rw[hdr,Kz]at Ce;have HE:=AC Ce;clear Ce hdr;go_wp2
   go_ret
   rw[HE.o];exact⟨⟨-1,rfl,rfl⟩,rfl⟩
def Zvp (h:IV w p rv)(hl:rv.length<1000000000)(hi:IV w q ids)(Ye:ids.length<1000000000):Calls prog 45 #[sP q ids.length d,sP p rv.length c] w fun e w'=>e=uY (.bool<|Kz rv ids)/\Bl w w':=by
 have Ho:=MR;have B0:=zv w<|.cells #[sP p rv.length c] 29;have C:AF (Calls prog 97 #[sP q ids.length d,.func (.func 98) #[] #[zq w.heap.size 0]] (w.alloc<|.cells #[sP p rv.length c] 29) fun e w'=>e=uY (.bool<|Kz rv ids)/\w'=w.alloc (.cells #[sP p rv.length c] 29)):=⟨by
  have C:=AC<|Z1f (d:=d) (c:=c) (L:=w.heap.size) (h.be B0) hl (hi.be B0) Ye<|(AO.new w #[sP p rv.length c] 29).cell 0;clear h hi hl Ye B0;generalize rv.length=nr at*;generalize ids.length=ni at*;generalize w.alloc (.cells #[sP p nr c] 29)=W at*;go_in
  go_wp2_with fail
  apply C.o.mono;rintro e w' ⟨⟨i,rfl,hi⟩,rfl⟩;go_wp2
  go_ret
  first | exact⟨rfl,rfl⟩ | exact⟨by rw[hi],rfl⟩⟩
 have HB:=AC B0;clear h hi hl Ye B0;generalize rv.length=nr at*;generalize ids.length=ni at*;go_in
 go_wp2_with fail
 apply mq C.o;rintro w' rfl;go_wp2
 go_ret
 exact⟨rfl,HB.o⟩
end
section
variable {a:Nat->Addr} {B D:Nat} {w:Bb} {ps:List Dk}
def Zxs (V:D9)(Z:AZ a w)(hB:B<=w.heap.size)(hp:Ap 2 (Jh B w<|D+1) p ps)(hx: ∀ x,x∈ps->J4 x.either=0):
  Calls prog 153 #[sP p ps.length c,.func (.func 93) #[] #[]] w (FT a 0 w):=by
 have hen: ∀ args w,(callFunc 93 args).run prog w= .ok (.enter 93 args) w:=EH func93 zt rfl;have hl:=hp.len;obtain⟨n,hn⟩:=cK (ps.length);rw[hn.o]at hl⊢;have HP:=AC hp;have HX:=AC hx;have HZ:=AC Z;clear hp hx Z;go_in
 go_wp2
 go_loopw [10] (fun iv wr=> ∃ k:Nat,k<=n/\iv= zo (k:Int)/\Bl w wr) (fun iv _=>n-(intOf iv).toNat)
 .exact⟨0,Eg _,rfl,AR _ _⟩
 .obtain⟨k,hk,rfl,Af⟩:=hrel;have HBW:=AC Af;have hz:=Af.size;by_cases hlt:k<n
  .have g:(k:Int)<(n:Int):=zx
   obtain⟨x,GR⟩: ∃ x,ps[k]?=some x:=⟨_,A8 (fw (hn.o))⟩;have hx0:=HX.o x<|Ej GR;obtain⟨b,o,rfl,hq⟩:=HP.o.at_ k x GR;obtain⟨_,p1,c1,k0,k1,hS⟩:=(Jh.cy (Bq Af hB) lr hq).vals;have B0:=AC<|Af.alloc hz<|.cells #[.bool x.allow,sP p1 x.either.length c1] 189;have C:=AC<|Zzf V (HZ.o.be B0.o) (Ab hB B0.o.size)<|kV.cy hS<|Bq ((AR _ wr).alloc lr _) zx;rw[hx0]at C;clear hS hq GR Af hx0;go_wp2_with fail
   apply mq C.o;rintro w1 hb;have B1:=tr B0 hb;clear hb;rw[JR];go_wp2
   go_roundw
   .exact⟨k+1,zx,zw,B1.o⟩
   simp[intOf];omega
  .obtain rfl:k=n:=zx
   go_wp2
   go_ret
   exact⟨rfl,HBW.o⟩
def Yda (V:D9)(Z:AZ a w)(hB:B<=w.heap.size)(hp:Ap 2 (Jh B w<|D+1) p ps)(hx:gD ps=0):
  Calls prog 43 #[sP p ps.length c] w (FT a 0 w):=by
 obtain⟨h24,hx⟩:=MX hx;have C:AF (Calls prog 92 #[sP p ps.length c,zo 24,.func (.func 93) #[] #[]] w<|FT a 0 w):=⟨by
  have C:=AC<|Zxs (c:=c) V Z hB hp hx;clear hp Z hx;have g: ¬ (24:Int)<(ps.length:Int):=zx
  generalize ps.length=n at*;go_in
  go_wp2_with fail
  apply mq C.o;rintro w1 hb;go_wp2
  go_ret
  exact⟨rfl,hb⟩⟩
 clear hp Z hx;generalize ps.length=n at*;go_in
 go_wp2_with fail
 apply mq C.o;rintro w1 hb;go_wp2
 go_ret
 exact⟨rfl,hb⟩
end
variable {U:List UInt8}
def Zqm {T:List UInt8}(d:Nat)(w:Bb): ∀ (is:Cg),(∀ i,i∈is->i<T.length/\i<U.length)->(Op.eqItems (d+1) 5 1 (Lib.byteCells T).toArray (Lib.byteCells U).toArray is).run prog w= .ok (is.all fun i=>T.getD i 0==U.getD i 0) w
 | [],_=>by simp[Op.eqItems]
 | i::is,h=>by
  have h1:=Zyf (h i List.mem_cons_self).1 w;have eu:=Zyf (h i List.mem_cons_self).2 w;have h2:=Zqm d w is fun j hj=>h j (wj _ hj);have h3:=run_equalIn_int (P:=prog) w d 5 .u8 .u8 ((T.getD i 0).toNat:Int) ((U.getD i 0).toNat:Int) underlying5;simp only[Op.eqItems,Uz,h1,eu,Vs,h3];rw[List.all_cons];clear h1 eu h3;generalize T.getD i 0=x;generalize U.getD i 0=y;by_cases he:x=y
  ·subst he;simp[h2]
  ·have: ¬ ((x.toNat:Int)=(y.toNat:Int)):=fun e=>he (UInt8.toNat.inj zx)
   simp[he,this]
def Z8p {T:List UInt8}(h:T.length=32)(h':U.length=32)(w:Bb):(binOp .eql 115 (.agg (Lib.byteCells T).toArray)<|.agg (Lib.byteCells U).toArray).run prog w= .ok (.bool<|decide<|T=U) w:=by
 obtain⟨i,hi,_,hs,_⟩:=info_parts qT;have e:((List.range 32).all fun i=>T.getD i 0==U.getD i 0)=decide (T=U):=by
  by_cases he:T=U
  .subst he;simp
  .rw[I8 he,<- Bool.not_eq_true,SI];intro hall;refine he (List.ext_getElem (h.trans h'.symm) fun j h1 h2=>?_)
   have:=hall j<|List.mem_range.2 zx
   simpa[List.getD,A8 h1,A8 h2]using this
 rw[run_eql_struct,run_equalIn_array w 9999 _ _ underlying115 hi,Zp8,Zqm 9998 w _ (fun j hj=>by rw[h,h'];have:=List.mem_range.1 hj;omega),e];rfl
def Ygr:Ay:=⟨#[115,101,97,108,101,100]⟩
def Yz (S:Bool) (tag:List UInt8):List UInt8:=if S then Bt ⟨tag.toArray⟩ [Ygr]else tag
def Z2j {a:Nat->Addr}{w:Bb}{v:Value}{S:Bool}{tag last:List UInt8}(Z:AZ a w)(ht:tag.length=32)(hl:last.length=32):
  Calls prog 95 #[.agg<|DC S v<|Lib.byteCells tag,Ip last] w fun e w'=>e=uY (.bool<|decide<|tag=Yz S last)/\Bl w w':=by
 obtain⟨CV,Dt⟩:=cK (DC S v (Lib.byteCells tag));have v0:CV[0]?=some (.bool S):=by rw[<- Dt.o];rfl
 have hlen:(Lib.byteCells tag).length=32:=by rw[xl,ht]
 have hC:=fun o=>(AO.new w CV 118).alloc o;have c0:=fun o=>((hC o).cell 0).trans v0;have CB:=AC fun u (hu:Bl w u)=>Zp3 (t:=Ygr) (Z.be hu) hl zu;unfold Ip at CB⊢;rw[Dt.o];have hrg: ∀ o,((w.alloc<|.cells CV 118).alloc o).rangeAt w.heap.size 2 (Lib.byteCells tag):=fun o j u hj=>by
  rw[AO.cell<|hC o,<- Dt.o,DC,Tu,Nat.add_comm 2 j];exact hj
 have hL:AO ((w.alloc<|.cells CV 118).alloc<|.cells (Lib.byteCells last).toArray 115) (w.heap.size+1) (Lib.byteCells last).toArray 115:=by
  have:=AO.new (w.alloc<|.cells CV 118) (Lib.byteCells last).toArray 115
  simpa using this
 cases S with
 | false=>
  have Ce:=fun u=>Z8p ht hl u;go_in
  go_wp2_with (first
   | (refine wpList_load_mid rfl 115 (.tmp 9) rfl w.heap.size 2 rfl (Lib.byteCells tag) _ (hrg _) underlying115 rfl (by rw[hlen];kernel_rfl) ?_)
   | (refine QN rfl 115 (.tmp 3) rfl (w.heap.size+1) rfl 115 (Lib.byteCells last).toArray (0,0) _ hL underlying115 rfl (ZT hl) ?_))
  go_ret
  exact⟨rfl,(zv w _).alloc zw _⟩
 | true=>
  obtain⟨nt,hnt⟩:=cK (Bt ⟨last.toArray⟩ [Ygr]);have L8:nt.length=32:=by rw[<- hnt.o];exact KZ _
  rw[show Yz true last=nt from hnt.o];simp only[hnt.o]at CB;go_in
  go_wp2_with (first
   | (refine QN rfl 115 (.tmp 3) rfl (w.heap.size+1) rfl 115 (Lib.byteCells last).toArray (0,0) _ hL underlying115 rfl (ZT hl) ?_))
  have B2:=(zv w<|.cells CV 118).alloc zw<|.cells (Lib.byteCells last).toArray 115;apply(CB.o _ B2).mono;rintro e w3 ⟨rfl,hb3⟩;have B3:=AC<|B2.trans<|hb3.mono B2.size;have hC3:=(hC<|.cells (Lib.byteCells last).toArray 115).of<|hb3.block _ (hC _).lt;have hL3:=hL.of<|hb3.block _ hL.lt;have Ce:=fun u=>Z8p ht L8 u;have Bw:=ZV nt;have hsz:(Lib.byteCells last).toArray.size=(Lib.byteCells nt).toArray.size:=by rw[GN,GN,xl,xl,hl,L8]
  have hL4:=GM _ _ _ (Lib.byteCells nt).toArray _ _ hL3;have hC4:=hC3.of<|Db w3 (w.heap.size+1) w.heap.size (Lib.byteCells nt).toArray zx;have yh:(w3.setRow (w.heap.size+1) (Lib.byteCells nt).toArray).rangeAt w.heap.size 2 (Lib.byteCells tag):=fun j u hj=>by
   rw[AO.cell hC4,<- Dt.o,DC,Tu,Nat.add_comm 2 j];exact hj
  clear hb3 hC3 hC4 CB hrg hC c0 B2;go_wp2_with (first
   | (refine Ij rfl 115 (.tmp 3) (.tmp 8) rfl (w.heap.size+1) (Lib.byteCells nt).toArray rfl rfl 115 (Lib.byteCells last).toArray hL3 (ZT L8) hsz Bw ?_)
   | (refine wpList_load_mid rfl 115 (.tmp 9) rfl w.heap.size 2 rfl (Lib.byteCells tag) _ yh underlying115 rfl (by rw[hlen];kernel_rfl) ?_)
   | (refine QN rfl 115 (.tmp 3) rfl (w.heap.size+1) rfl 115 (Lib.byteCells nt).toArray (0,0) _ hL4 underlying115 rfl (ZT L8) ?_))
  go_ret
  exact⟨rfl,B3.o.Ar _ zx⟩
def Zr3 (V:D9)(CL:Gg){a:Nat->Addr}{w:Bb}{key:Ay}{l:By}{ch:Ch}{y0:Ay×Bk}{ys:List (Ay×Bk)}(Z:AZ a w)(hk:O9 key=true)(hl:l.length<1000000000)(hch:GZ Hu l= .ok ch){S:Bool}(hs:ch.sealed=S)(nM:ch.links=y0::ys)(hn:ys.length<8)(RD:ch.tag=Yz S (JF (Bt key [y0.1])<|ys.map (·.1))):
  Calls prog 44 #[um key,.string<|ba l] w fun e w'=> ∃ v1 v2 F1 F2 W0,e=uY (.tuple #[v1,v2,.nilIface])/\Bl w W0/\Bl W0 w'/\AQ 38 3 (Rt W0 3) w' v1 ((y0::ys).map (·.2)) F1/\AQ 9 1 GD w' v2 ((Bt key [y0.1]::Ju (Bt key [y0.1]) (ys.map (·.1))).map fun t=>⟨(Ez [⟨t.toArray⟩]).toArray⟩) F2/\Ag W0.heap.size w' F1/\Ag W0.heap.size w' F2:=by
 obtain⟨T0,Rf⟩:=cK (Bt key [y0.1]);rw[Rf.o]at RD⊢;have Ph:key.size<1000000000:=by unfold O9 at hk;simp at hk;omega
 have CK:=AC fun u=>qW key Ph u;have C:=AC<|j6 V CL Z hl;have HE:=AC<|AJ hch<|AJ hs<|AJ nM RD;clear hch hs nM RD;have ZZ:=AC Z;clear Z V CL;go_in
 go_wp2_with fail
 apply(CK.o _).mono;rintro e w1 ⟨rfl,rfl⟩;rw[hk];go_wp2_with fail
 apply C.o.mono;rintro e w2 ⟨hb2,⟨m,hy,hm,rfl⟩ | ⟨y,vs,F,hy,rfl,hQ,hN⟩⟩
 .rw[HE.o.1]at hy;cases hy
 obtain rfl:y=ch:=by rw[HE.o.1]at hy;exact(Except.ok.inj hy).symm
 obtain⟨v,rfl,JW,hrow⟩:=hQ;obtain⟨p1,c1,rfl,RV,Yq⟩:=Z2z hrow fun k hk=>hN.lt k hk;have hlen:(Lib.byteCells y.tag).length=32:=by rw[xl,JW]
 have Jq:y.links.length=ys.length+1:=by rw[HE.o.2.2.1];rfl
 rw[Jq]at RV⊢;have iP:AF ((Value.bool y.sealed::Value.slice p1 (ys.length+1) c1::Lib.byteCells y.tag).toArray=DC S (sP p1 (ys.length+1) c1) (Lib.byteCells y.tag)):=⟨by rw[HE.o.2.1];rfl⟩;rw[iP.o];have S1:=AO.new w2 BH 118;have Ci:=Wv S (sP p1 (ys.length+1) c1) hlen;have Bw:=gK S p1 (ys.length+1) c1 y.tag;have hsz:=Vi S (sP p1 (ys.length+1) c1) hlen;obtain⟨CV,Dt⟩:=cK (DC S (sP p1 (ys.length+1) c1) (Lib.byteCells y.tag));rw[Dt.o]at Ci Bw hsz⊢;have S2:=GM _ _ _ CV _ _ S1;have B3:Bl w2 ((w2.alloc<|.cells BH 118).setRow w2.heap.size CV):=((AR _ w2).alloc lr _).Ar _ lr;rw[HE.o.2.2.1]at Yq;have CT:=AC<|Z30 (S:=S) (tag:=y.tag) (c:=c1) (key:=key) (t0:=y0.1) (ts:=ys.map (·.1)) ((ZZ.o.be hb2).be B3) Ph B3.size (Ztt Yq B3) zc (by simpa using RV);rw[Dj,Dt.o,Rf.o]at CT;have ru:=AC JW;clear C CK hy hrow hN hlen hsz Jq iP JW;go_wp2_with (first
  | (refine Ij rfl 118 (.tmp 7) (.tmp 21) rfl w2.heap.size CV rfl rfl 118 BH S1 Ci (by rw[<- Dt.o,Vi _ _ (by rw[xl,ru.o])];rfl) Bw ?_)
  | (refine QN rfl 118 (.tmp 7) rfl w2.heap.size rfl 118 CV (0,0) _ S2 underlying118 rfl Ci ?_))
 apply CT.o.mono;rintro e w4 ⟨v4,F4,rfl,eT,hN4,hb4⟩;obtain⟨TL,hTL⟩:=cK (T0::Ju T0 (ys.map (·.1)));have Rb:TL.length=ys.length+1:=by rw[<- hTL.o,DU,qz,Dj]
 obtain⟨Kt,htk0⟩:=cK (JF T0 (ys.map (·.1)));have PX:Kt.length=32:=by rw[<- htk0.o];exact wJ (by rw[<- Rf.o];exact KZ _) _
 have HET:AF (y.tag=Yz S Kt):=⟨by rw[<- htk0.o];exact HE.o.2.2.2⟩;have KH:TL[ys.length]?=some Kt:=by
  have:=Zug T0<|ys.map (·.1)
  rw[hTL.o,Dj,htk0.o]at this;exact this
 rw[hTL.o]at eT;obtain⟨p4,c4,rfl,NZ,eF⟩:=Yay eT fun k hk=>hN4.lt k hk;obtain⟨R,o4,rfl,uL,_,hrg⟩:=eF.at_ ys.length _ KH;rw[Rb]at NZ⊢;have B4:=AC<|B3.trans<|hb4.mono B3.size;have C4:=AO.of S2<|hb4.block _<|AO.lt S2;obtain⟨n,Ov⟩:=cK (ys.length);rw[Ov.o]at NZ hrg⊢;obtain⟨YT,hYT⟩:=cK (Lib.byteCells Kt);have uI:YT.length=32:=by rw[<- hYT.o,xl,PX]
 rw[hYT.o]at hrg;have HSR:=AC eF;have HLB:=AC Yq;have iI:=AC<|AJ Rb KH;clear Yq Rb KH RV;clear S1 S2 B3 hb4 CT eF eT;go_wp2_with fail
 have VK:n<8:=fw (Ov.o)
 have hw4:IntKind.i64.wrap (n:Int)=(n:Int):=by rw[IntKind.wrap_i64];omega
 have BI:wrap64 ((n:Int)+1-1)=(n:Int):=by unfold wrap64;omega
 have hw2:wrap64 (n:Int)=(n:Int):=by unfold wrap64;omega
 have hw3:(n:Int)<(n:Int)+1:=zx
 refine Zh (S:=fun u=>AO u w2.heap.size CV 118/\u.rangeAt R (o4+n*32) (YT)) zt ?_;change wpAnyH _ _ _ _ _ _ _ _ (World.drew _);have AY:AO w4.drew w2.heap.size CV 118/\w4.drew.rangeAt R (o4+n*32) (YT):=⟨C4,hrg⟩;refine wpAnyH_take (i:=0) (oi:={dst:=some 29,op:= .load 118<|.tmp 7,type:=118,pos:= "warrant.go:226",after:=#[],guard:=none}) (v:= .agg CV) rfl zt zt zt (fun _ _ _ h=>h) (wP rfl 118 (.tmp 7) rfl (zm w2.heap.size 0) rfl fun u hS=>Vo u w2.heap.size 118 118 _ _ _ hS.1 underlying118 rfl Ci) AY ?_;simp only[zz];refine tk 1 (sP (Qb R o4) (n+1) c4) AY ?_;simp only[zz];refine tk 2 (sP (Qb R o4) (n+1) c4) AY ?_;simp only[zz];refine tk 3 (.int .i64<|(n:Int)+1) AY ?_;simp only[zz];refine tk 4 (zo (n:Int)) AY ?_;simp only[zz];refine tk 5 (zq R<|o4+n*32) AY ?_;simp only[zz];refine wpAnyH_take (i:=6) (oi:={dst:=some 35,op:= .load 115<|.tmp 34,type:=115,pos:= "warrant.go:226",after:=#[{on:=5,ground:=Ground.data}],guard:=none}) (v:= .agg (YT).toArray) rfl zt zt zt (fun _ _ _ h=>h) (yieldsIf_load_mid (by simp[Region.wanted]) 115 (.tmp 34) rfl R (o4+n*32) rfl (YT) _ (fun u hS=>hS.2) underlying115 rfl (by rw[uI];kernel_rfl)) AY ?_;simp only[zz];refine yr 7 fun K' hK'=>?_;go_simp;have XQ:=Z2j (S:=S) (w:=w4.drew) (v:= sP p1 (ys.length+1) c1) (tag:=y.tag) (last:=Kt) (((ZZ.o.be hb2).be B4.o).be<|(AR _ w4).drew) ru.o PX;rw[Dt.o,Nv HET.o]at XQ;unfold Ip at XQ;rw[hYT.o]at XQ;apply mq XQ;rintro w5 BX;have B5:=AC<|B4.o.trans<|Below.mono (B:=w4.drew.heap.size) ⟨BX.os,BX.tape,BX.output,BX.size,BX.block⟩ B4.o.size;have lI:AF (Bl w4 w5):=⟨⟨BX.os,BX.tape,BX.output,BX.size,BX.block⟩⟩;refine hK'.o _ _ ⟨C4.of<|BX.block _<|AO.lt C4,fun j u hj=>(BX.cell (p:=(zm R (o4+n*32+j))) uL).trans (hrg j u hj)⟩ fun VR=>?_;clear hK' K' XQ AY;refine tk 8 (.bool false) VR ?_;simp only[zz];refine Uy zt ?_ _;have v1:CV[1]?=some (sP p1 (n+1) c1):=by rw[<- Dt.o,Ov.o];rfl
 have cl:w5.cell? (zm w2.heap.size 1)=some (sP p1 (n+1) c1):=(VR.1.cell 1).trans v1;clear VR C4;go_wp2_with fail
 obtain⟨xs,VA⟩:=cK ((y0::ys).map (·.2));obtain⟨ids,hids⟩:=cK (TL.map (fun t=>(⟨(Ez [⟨t.toArray⟩]).toArray⟩:Ay)));have FY:AF (xs.length=n+1):=⟨by rw[<- VA.o];simp[Ov.o]⟩;clear cl;clear BI hw2 hw3 hw4 Ci Bw hrg uI hYT Dt hn NZ;go_loopw [42,10,11] (fun iv bv dv wr=>Yh3 w2 w5 xs ids iv bv dv wr) (fun iv _ _ _=>xs.length-(intOf iv).toNat)
 .exact⟨0,[],[],Eg _,rfl,AQ.nil,AQ.nil,Ag.nil _ _,Ag.nil _ _,(fun _ h=>by cases h),AR _ _⟩
 .obtain⟨k,F1,F2,hk,rfl,aO,aN,aQ,BZ,hD,Bo⟩:=hrel;by_cases hlt:k<n+1
  .have g:(k:Int)<(n:Int)+1:=zx
   obtain⟨yk,hyk⟩: ∃ yk,(y0::ys)[k]?=some yk:=⟨(y0::ys)[k]'(by have:=Ov.o;simp;omega),A8 _⟩;obtain⟨b0,o0,rfl,hx⟩:=HLB.o.at_ k yk hyk;have GR:xs[k]?=some yk.2:=by rw[<- VA.o,FK,hyk];rfl
   obtain⟨hbl,Z8,q1,k1,q2,k2,q3,k3,z0,z1,z2,z3,hSk⟩:=hx;have ccw: ∀ o,wr.cell? (zm b0 o)=w2.cell? (zm b0 o):=fun o=>(Bo.cell (p:=(zm b0 o))<|BK hbl B5.o.size).trans (B5.o.cell (p:=(zm b0 o)) hbl);rw[<- ccw]at z0 z1 z2 z3;have hbwr:b0<wr.heap.size:=BK hbl<|Ab B5.o.size Bo.size;obtain⟨Kt,Kv⟩: ∃ Kt,TL[k]?=some Kt:=⟨TL[k]'(jE (Ov.o) (iI.o.1)),A8 _⟩;obtain⟨R',o',hRo,hRl',mY,nI⟩:=HSR.o.at_ k Kt Kv;obtain⟨rfl,rfl⟩:R=R'/\o4=o':=by injection hRo with h;injection h with h1 h2;exact⟨h1,h2⟩
   have HK:=AC<|AJ hyk<|AJ GR<|AJ Kv<|AJ mY<|AJ nI hSk;clear hyk GR Kv mY nI hSk ccw;have UR:=AC Bo.size;have HH:=AC<|AJ aO<|AJ aN<|AJ aQ<|AJ BZ<|AJ hD Bo;clear aO aN aQ BZ hD Bo;have hk32:wr.heap.size<wr.heap.size+1:=zx
   have uN:=AC<|Ab UR.o<|EO wr.heap.size;have LB:AF (AO ((wr.alloc<|.cells #[um yk.1,sP q1 yk.2.fa.length k1,sP q2 yk.2.ru.length k2,sP q3 yk.2.ck.length k3] 112).alloc<|.cells #[sP q1 yk.2.fa.length k1,sP q2 yk.2.ru.length k2,sP q3 yk.2.ck.length k3] 38) (wr.heap.size+1) #[sP q1 yk.2.fa.length k1,sP q2 yk.2.ru.length k2,sP q3 yk.2.ck.length k3] 38):=⟨by
    have:=AO.new (wr.alloc<|.cells #[um yk.1,sP q1 yk.2.fa.length k1,sP q2 yk.2.ru.length k2,sP q3 yk.2.ck.length k3] 112) #[sP q1 yk.2.fa.length k1,sP q2 yk.2.ru.length k2,sP q3 yk.2.ck.length k3] 38
    simpa using this⟩
   have ha2:AF (∀ j,j<wr.heap.size-> ∀ o1 o2,((wr.alloc o1).alloc o2).heap[j]?=wr.heap[j]?):=⟨fun j hj o1 o2=>(Ah _ _ _ zc).trans (Ah _ _ _ hj)⟩;have hlx:(xs.take k).length<100000000:=by rw[wt];have:=FY.o;omega
   go_wp2_with (at_builtin;go_must (refine Nu Zu7 rfl (.tmp 47) (.tmp 50) rfl (Rt.sb w2 3) (fun _ _ _ _ h=>Rt.one h) w5.heap.size u10 (xs.take k) F1 rfl (AQ.sb (Rt.sb w2 3) _ _ _ _ _ HH.o.1 fun j hj=>ha2.o j (HH.o.2.2.1.lt j hj) _ _) (wr.heap.size+1) #[sP q1 yk.2.fa.length k1,sP q2 yk.2.ru.length k2,sP q3 yk.2.ck.length k3] 38 (0,0) yk.2 [] rfl LB.o rfl ⟨rfl,HK.o.2.2.2.2.2⟩ hlx (by have:=uN.o;simp;omega) (HH.o.2.2.1.la lr zc) (Ag.nil _ _) (fun _ _ h=>by cases h) ?_);intro g6 Cm w6 F6 AM;have za:(convert 149 9<|sP (Qb R<|o4+k*32) 32 32).run prog w6= .ok (.string ⟨Kt.toArray⟩) w6:=Zjx (fun j u hj=>(A9 (a:=(zm R (o4+k*32+j)))<|(AM.same R (by have:=UR.o;have:=lI.o.size;simp;omega) (fun h=>jE (HH.o.2.2.1.ge R h) (lI.o.size))).trans<|ha2.o R (jE (UR.o) (lI.o.size)) _ _).trans ((HH.o.2.2.2.2.2.cell (p:=(zm R (o4+k*32+j))) (by have:=lI.o.size;show R<_;omega)).trans<|(lI.o.cell (p:=(zm R (o4+k*32+j))) uL).trans<|HK.o.2.2.2.2.1 j u hj)) 32 HK.o.2.2.2.1.symm)
   have yg:wr.heap.size+2<=w6.heap.size:=by have:=AM.size;simpa using this
   have st6:AF (∀ j,j<wr.heap.size->j∉F1->w6.heap[j]?=wr.heap[j]?):=⟨fun j hj hF=>(AM.same j zc hF).trans (ha2.o j hj _ _)⟩;have B56:AF (Bl w5 w6):=⟨⟨AM.os.trans HH.o.2.2.2.2.2.os,AM.tape.trans HH.o.2.2.2.2.2.tape,AM.output.trans HH.o.2.2.2.2.2.output,fw (UR.o),fun j hj=>(st6.o j (fw (UR.o)) (fun h=>fw (HH.o.2.2.1.ge j h))).trans (HH.o.2.2.2.2.2.block j hj)⟩⟩;have Z6:=((ZZ.o.be hb2).be B5.o).be B56.o;have CS:=AC<|Ygu (t:=⟨Kt.toArray⟩) Z6 (by have:=HK.o.2.2.2.1;simp[ByteArray.size,this]);have R6:=AC<|AJ AM.row<|AJ AM.new AM.sub;clear Z6 AM;clear za;apply mq CS.o;rintro w7 G6;have PY:=G6.size;obtain⟨S7,JZ⟩: ∃ S7:Ay,AF ((⟨(Ez [⟨Kt.toArray⟩]).toArray⟩:Ay)=S7):=⟨_,⟨rfl⟩⟩;rw[JZ.o];have st7:AF (∀ j,j<wr.heap.size->j∉F1-> ∀ o,(w7.alloc o).heap[j]?=wr.heap[j]?):=⟨fun j hj hF o=>(Ah _ _ _ zx).trans ((G6.block j zx).trans<|st6.o j hj hF)⟩;have hli:(ids.take k).length<100000000:=by rw[wt,<- hids.o,Dj];have:=iI.o.1;have:=Ov.o;omega
   have sO:=tr B56 G6;have R7:AF (AQ 38 3 (Rt w2 3) w7 (sP (Qb g6 0) ((xs.take k).length+1) Cm) (xs.take k++[yk.2]) F6):=⟨AQ.sb (Rt.sb w2 3) _ _ _ _ _ R6.o.1 fun j hj=>G6.block j (R6.o.2.1.lt j hj)⟩;clear G6 CS;go_wp2_with (at_builtin;go_must (refine Nu gB rfl (.tmp 52) (.tmp 59) rfl GD.sb (fun _ _ _ _ h=>GD.one h) w5.heap.size u11 (ids.take k) F2 rfl (AQ.sb GD.sb _ _ _ _ _ HH.o.2.1 fun j hj=>st7.o j (HH.o.2.2.2.1.lt j hj) (fun h=>HH.o.2.2.2.2.1 j h hj) _) w7.heap.size #[um S7] 9 (0,0) S7 [] rfl (Hw _ _) rfl ⟨rfl,rfl⟩ hli (by have:=UR.o;simp;omega) (HH.o.2.2.2.1.la lr zc) (Ag.nil _ _) (fun _ _ h=>by cases h) ?_);intro g8 UU w8 F8 AM)
   have hlk:(xs.take k).length=k:=by rw[wt];have:=FY.o;omega
   have mi:=AM.size;simp only[EV]at mi;have hw58:=sO.o.size;have d62: ∀ j,j∈F6->j∉F2:=fun j hj h2=>by
    rcases R6.o.2.2 j hj with h | h | h
    .exact HH.o.2.2.2.2.1 j h h2
    .cases h
    .have:=HH.o.2.2.2.1.lt j h2
     simp at h;omega
   have tk1:xs.take (k+1)=xs.take k++[yk.2]:=by rw[PM,HK.o.2.1];rfl
   have tk2:ids.take (k+1)=ids.take k++[S7]:=by
    have:ids[k]?=some S7:=by rw[<- hids.o,FK,HK.o.2.2.1,<- JZ.o];rfl
    rw[PM,this];rfl
   go_roundw
   .refine⟨k+1,F6,F8,fw (FY.o),by go_num,?_,?_,R6.o.2.1.la lr zx,AM.new,fun j hj h8=>?_,?_⟩
    .rw[tk1]
     have:=AQ.sb (Rt.sb w2 3) _ w8 _ _ _ R7.o fun j hj=>(AM.same j (by have:=R6.o.2.1.lt j hj;simp;omega)<|d62 j hj).trans (Ah _ _ _ (fw (R6.o.2.1.lt j hj)))
     rw[hlk]at this;exact this
    .rw[tk2]
     have:=AM.row
     rw[wt]at this;exact this
    .rcases AM.sub j h8 with h | h | h
     .exact d62 j hj h
     .cases h
     .have:=R6.o.2.1.lt j hj
      simp at h;omega
    .exact⟨AM.os.trans sO.o.os,AM.tape.trans sO.o.tape,AM.output.trans sO.o.output,zx,fun j hj=>(AM.same j zc (fun h=>fw (HH.o.2.2.2.1.ge j h))).trans ((Ah _ _ _ zx).trans<|sO.o.block j hj)⟩
   simp[intOf];have:=FY.o;omega
  .obtain rfl:k=n+1:=fw (FY.o)
   have e1:xs.take (n+1)=xs:=U0 (fw (FY.o));have e2:ids.take (n+1)=ids:=U0 (by rw[<- hids.o,Dj];have:=iI.o.1;have:=Ov.o;omega);rw[e1]at aO;rw[e2]at aN;have HH:=AC<|AJ aO<|AJ aN<|AJ aQ<|AJ BZ Bo;clear e1 e2 aO aN aQ BZ hD Bo;go_wp2
   go_ret3
   rw[VA.o,hTL.o,hids.o];exact⟨u10,u11,F1,F2,w2,rfl,hb2,B5.o.trans<|HH.o.2.2.2.2.mono B5.o.size,HH.o.1,HH.o.2.1,HH.o.2.2.1.la B5.o.size lr,HH.o.2.2.2.1.la B5.o.size lr⟩
end Go.W
