import Derived.Test.YtaoiihbjdonaoaaGreatDoorW40
set_option linter.defProp false
set_option maxRecDepth 100000
set_option maxHeartbeats 8000000
set_option linter.unusedSimpArgs false
open Go.Proofs Go.RowKit Go.W Tryz
namespace Go.P
section
variable {a:Nat->Addr} {B D:Nat} {w:World} {x:Dk}
def Zzf (V:D9){vs:List Value}(Z:AZ a w)(hB:B<=w.heap.size)(hS:kV B w D vs x):
  Calls prog 58 #[.agg vs.toArray] w (FT a (J4 x.either) w):=by
 obtain⟨p,c,rfl,_,hr⟩:=hS;have C1:=AC fun u (hu:Bl w u)=>Zj3 V (c:=c) (Z.below hu) (Ab hB hu.size) (hr.carry fun _ _ _ r=>r.carry (Bq hu hB) lr);have B0:=AC<|(AR w.heap.size w).alloc lr<|.cells #[.bool x.allow,.slice p x.either.length c] 148;clear hr Z;go_in
 go_wp2_with fail
 refine(C1.out _ B0.out).mono ?_;rintro e w1 ⟨rfl,hb⟩;go_wp2
 go_ret
 exact⟨rfl,B0.out.trans<|hb.mono B0.out.size⟩
end
end Go.P
namespace Go.P
def Yfx (t:TypeId)(v:Value)(w:World):(binOp .eql 67 .nilIface<|.iface t v).run prog w= .ok (.bool false) w:=zt
def Yil (t:TypeId)(v:Value)(w:World):Calls prog 23 #[.nilIface,.iface t v] w fun e w'=>e= .returned (.bool false)/\w'=w:=by
 have h:=Yfx t v w;go_in
 go_wp2
 go_ret
 exact⟨rfl,rfl⟩
end Go.P
namespace Go.W
def IM (s:ByteArray):List ByteArray->Bool
 | []=>false
 | t::l=>decide (t=s) || IM s l
def Z2r {s:ByteArray}: ∀ {l:List ByteArray},IM s l=true↔s∈l
 | []=>by simp[IM]
 | t::l=>by rw[IM,Bool.or_eq_true,decide_eq_true_eq,Z2r,Ak,eq_comm]
def Kz (l:List ByteArray):List ByteArray->Bool
 | []=>false
 | t::ts=>IM t l || Kz l ts
def jf {l:List ByteArray}: ∀ {ts:List ByteArray},Kz l ts=true↔ ∃ t,t∈ts/\t∈l
 | []=>by simp[Kz]
 | t::ts=>by rw[Kz,Bool.or_eq_true,Z2r,jf];simp
end Go.W
namespace Go.P
variable {L c:Nat}{p:Option Addr}
section
variable {w:World} {p q:Option Addr} {c d:Nat} {rv ids:List ByteArray}
def Z6v (h:IV w p rv)(hl:rv.length<1000000000)(s:ByteArray):Calls prog 100 #[.slice p rv.length c,.string s] w fun e w'=>Yjh (IM s rv) e/\w'=w:=by
 obtain⟨n,hn⟩: ∃ n,AF (rv.length=n):=⟨_,⟨rfl⟩⟩;rw[hn.out]at hl⊢;have HR:=AC h;clear h;go_in
 go_wp2
 go_loopw [8] (fun iv wr=> ∃ k:Nat,k<=n/\iv= zo (k:Int)/\wr=w/\IM s rv=IM s (rv.drop k)) (fun iv _=>n-(intOf iv).toNat)
 case atStart=>exact⟨0,Eg _,rfl,rfl,rfl⟩
 case round=>
  obtain⟨k,hk,rfl,hw,Ce⟩:=hrel;obtain rfl:=hw.symm;by_cases hlt:k<n
  ·have g:(k:Int)<(n:Int):=zx
   obtain⟨t,ht⟩: ∃ t,rv[k]?=some t:=⟨_,A8 (by have:=hn.out;omega)⟩;obtain⟨_,b,o,rfl,_,z0⟩:=HR.out k t ht;have hdr:rv.drop k=t::rv.drop (k+1):=by rw[<- (DW.1 ht).2,List.drop_eq_getElem_cons (by have:=hn.out;omega)]
   rw[hdr,IM]at Ce;have HE:=AC Ce;clear Ce hdr ht;by_cases H7:t=s
   ·have E:AF (IM s rv=true):=⟨by rw[HE.out];simp[H7]⟩;have g2:(s.toList==t.toList)=true:=by rw[H7];simp
    have g3:(t.toList==s.toList)=true:=by rw[H7];simp
    clear H7;go_wp2
    go_ret
    rw[E.out];exact⟨⟨_,rfl,zw⟩,rfl⟩
   ·have E:AF (IM s rv=IM s (rv.drop<|k+1)):=⟨by rw[HE.out];simp[H7]⟩;have hne:t.toList≠s.toList:=fun e=>H7 (by
     rw[Nw,Nw]at e;exact ByteArray.ext<|Array.toList_inj.1 e)
    have g2:(s.toList==t.toList)=false:=by rw[BJ];exact fun e=>hne e.symm
    have g3:(t.toList==s.toList)=false:=by rw[BJ];exact hne
    clear H7 hne;go_wp2
    exact⟨⟨k+1,zx,zw,by trivial,E.out⟩,by simp[intOf];omega⟩
  ·obtain rfl:k=n:=zx
   have hdr:rv.drop k=[]:=List.drop_eq_nil_of_le (by have:=hn.out;omega);rw[hdr,IM]at Ce;have HE:=AC Ce;clear Ce hdr;go_wp2
   go_ret
   rw[HE.out];exact⟨⟨-1,rfl,rfl⟩,rfl⟩
def Zwe (h:IV w p rv)(hl:rv.length<1000000000)(s:ByteArray):Calls prog 64 #[.slice p rv.length c,.string s] w fun e w'=>e= .returned (.bool<|IM s rv)/\w'=w:=by
 have C:=AC<|Z6v (c:=c) h hl s;clear h hl;generalize rv.length=n at*;go_in
 go_wp2_with fail
 refine C.out.mono ?_;rintro e w' ⟨⟨i,rfl,hi⟩,rfl⟩;go_wp2
 go_ret
 first | exact⟨rfl,rfl⟩ | exact⟨by rw[hi],rfl⟩
def Zyt (h:IV w p rv)(hl:rv.length<1000000000)(hc:w.cell? (zm L 0)=some (.slice p rv.length c))(s:ByteArray):Calls prog 63 #[.string s,zq L 0] w fun e w'=>e= .returned (.bool<|IM s rv)/\w'=w:=by
 have C:=AC<|Zwe (c:=c) h hl s;clear h hl;generalize rv.length=n at*;go_in
 go_wp2_with fail
 refine mq C.out ?_;rintro w' rfl;go_wp2
 go_ret
 exact⟨rfl,rfl⟩
def Z1f (h:IV w p rv)(hl:rv.length<1000000000)(hi:IV w q ids)(Ye:ids.length<1000000000)(hc:w.cell? (zm L 0)=some (.slice p rv.length c)):Calls prog 99 #[.slice q ids.length d,.func (.func 63) #[] #[zq L 0]] w fun e w'=>Yjh (Kz rv ids) e/\w'=w:=by
 have hen: ∀ args w,(callFunc 63 args).run prog w= .ok (.enter 63 args) w:=EH func63 zt rfl;obtain⟨n,hn⟩: ∃ n,AF (ids.length=n):=⟨_,⟨rfl⟩⟩;rw[hn.out]at Ye⊢;have HR:=AC hi;have HC:=AC fun s=>Zyt h hl hc s;clear hi h hl hc;go_in
 go_wp2
 go_loopw [8] (fun iv wr=> ∃ k:Nat,k<=n/\iv= zo (k:Int)/\wr=w/\Kz rv ids=Kz rv (ids.drop k)) (fun iv _=>n-(intOf iv).toNat)
 case atStart=>exact⟨0,Eg _,rfl,rfl,rfl⟩
 case round=>
  obtain⟨k,hk,rfl,hw,Ce⟩:=hrel;obtain rfl:=hw.symm;by_cases hlt:k<n
  ·have g:(k:Int)<(n:Int):=zx
   obtain⟨t,ht⟩: ∃ t,ids[k]?=some t:=⟨_,A8 (by have:=hn.out;omega)⟩;obtain⟨_,b,o,rfl,_,z0⟩:=HR.out k t ht;have hdr:ids.drop k=t::ids.drop (k+1):=by rw[<- (DW.1 ht).2,List.drop_eq_getElem_cons (by have:=hn.out;omega)]
   rw[hdr,Kz]at Ce;have HE:=AC Ce;have C:=AC<|HC.out t;clear Ce hdr ht;generalize IM t rv=bb at*;go_wp2_with fail
   refine mq C.out ?_;rintro w' rfl;cases bb with
   | true=>
    go_wp2
    go_ret
    rw[HE.out];exact⟨⟨_,rfl,zw⟩,rfl⟩
   | false=>
    have E:AF (Kz rv ids=Kz rv (ids.drop<|k+1)):=⟨by rw[HE.out];simp⟩;go_wp2
    exact⟨⟨k+1,zx,zw,by trivial,E.out⟩,by simp[intOf];omega⟩
  ·obtain rfl:k=n:=zx
   have hdr:ids.drop k=[]:=List.drop_eq_nil_of_le (by have:=hn.out;omega);rw[hdr,Kz]at Ce;have HE:=AC Ce;clear Ce hdr;go_wp2
   go_ret
   rw[HE.out];exact⟨⟨-1,rfl,rfl⟩,rfl⟩
def Zvp (h:IV w p rv)(hl:rv.length<1000000000)(hi:IV w q ids)(Ye:ids.length<1000000000):Calls prog 28 #[.slice q ids.length d,.slice p rv.length c] w fun e w'=>e= .returned (.bool<|Kz rv ids)/\Bl w w':=by
 have Ho:=MR;have B0:=(AR w.heap.size w).alloc lr<|.cells #[.slice p rv.length c] 36;have C:AF (Calls prog 62 #[.slice q ids.length d,.func (.func 63) #[] #[zq w.heap.size 0]] (w.alloc<|.cells #[.slice p rv.length c] 36) fun e w'=>e= .returned (.bool<|Kz rv ids)/\w'=w.alloc (.cells #[.slice p rv.length c] 36)):=⟨by
  have C:=AC<|Z1f (d:=d) (c:=c) (L:=w.heap.size) (h.below B0) hl (hi.below B0) Ye<|(AO.new w #[.slice p rv.length c] 36).cell 0;clear h hi hl Ye B0;generalize rv.length=nr at*;generalize ids.length=ni at*;generalize w.alloc (.cells #[.slice p nr c] 36)=W at*;go_in
  go_wp2_with fail
  refine C.out.mono ?_;rintro e w' ⟨⟨i,rfl,hi⟩,rfl⟩;go_wp2
  go_ret
  first | exact⟨rfl,rfl⟩ | exact⟨by rw[hi],rfl⟩⟩
 have HB:=AC B0;clear h hi hl Ye B0;generalize rv.length=nr at*;generalize ids.length=ni at*;go_in
 go_wp2_with fail
 refine mq C.out ?_;rintro w' rfl;go_wp2
 go_ret
 exact⟨rfl,HB.out⟩
end
section
variable {a:Nat->Addr} {B D:Nat} {w:World} {ps:List Dk}
def Zxs (V:D9)(Z:AZ a w)(hB:B<=w.heap.size)(hp:Ap 2 (Jh B w<|D+1) p ps)(hx: ∀ x,x∈ps->J4 x.either=0):
  Calls prog 98 #[.slice p ps.length c,.func (.func 58) #[] #[]] w (FT a 0 w):=by
 have hen: ∀ args w,(callFunc 58 args).run prog w= .ok (.enter 58 args) w:=EH func58 zt rfl;have hl:=hp.len;obtain⟨n,hn⟩: ∃ n,AF (ps.length=n):=⟨_,⟨rfl⟩⟩;rw[hn.out]at hl⊢;have HP:=AC hp;have HX:=AC hx;have HZ:=AC Z;clear hp hx Z;go_in
 go_wp2
 go_loopw [10] (fun iv wr=> ∃ k:Nat,k<=n/\iv= zo (k:Int)/\Bl w wr) (fun iv _=>n-(intOf iv).toNat)
 case atStart=>exact⟨0,Eg _,rfl,AR _ _⟩
 case round=>
  obtain⟨k,hk,rfl,Af⟩:=hrel;have HBW:=AC Af;have hz:=Af.size;by_cases hlt:k<n
  ·have g:(k:Int)<(n:Int):=zx
   obtain⟨x,GR⟩: ∃ x,ps[k]?=some x:=⟨_,A8 (by have:=hn.out;omega)⟩;have hx0:=HX.out x<|Ej GR;obtain⟨b,o,rfl,hq⟩:=HP.out.at_ k x GR;obtain⟨_,p1,c1,k0,k1,hS⟩:=(Jh.carry (Bq Af hB) lr hq).vals;have B0:=AC<|Af.alloc hz<|.cells #[.bool x.allow,.slice p1 x.either.length c1] 148;have C:=AC<|Zzf V (HZ.out.below B0.out) (Ab hB B0.out.size)<|kV.carry hS<|Bq ((AR _ wr).alloc lr _) zx;rw[hx0]at C;clear hS hq GR Af hx0;go_wp2_with fail
   refine mq C.out ?_;rintro w1 hb;have B1:=tr B0 hb;clear hb;rw[JR];go_wp2
   go_roundw
   case rel=>exact⟨k+1,zx,zw,B1.out⟩
   case measure=>simp[intOf];omega
  ·obtain rfl:k=n:=zx
   go_wp2
   go_ret
   exact⟨rfl,HBW.out⟩
def Yda (V:D9)(Z:AZ a w)(hB:B<=w.heap.size)(hp:Ap 2 (Jh B w<|D+1) p ps)(hx:gD ps=0):
  Calls prog 26 #[.slice p ps.length c] w (FT a 0 w):=by
 obtain⟨h24,hx⟩:=MX hx;have C:AF (Calls prog 57 #[.slice p ps.length c,zo 24,.func (.func 58) #[] #[]] w<|FT a 0 w):=⟨by
  have C:=AC<|Zxs (c:=c) V Z hB hp hx;clear hp Z hx;have g: ¬ (24:Int)<(ps.length:Int):=zx
  generalize ps.length=n at*;go_in
  go_wp2_with fail
  refine mq C.out ?_;rintro w1 hb;go_wp2
  go_ret
  exact⟨rfl,hb⟩⟩
 clear hp Z hx;generalize ps.length=n at*;go_in
 go_wp2_with fail
 refine mq C.out ?_;rintro w1 hb;go_wp2
 go_ret
 exact⟨rfl,hb⟩
end
end Go.P
namespace Go.P
variable {U:List UInt8}
def Zqm {T:List UInt8}(d:Nat)(w:World): ∀ (is:List Nat),(∀ i,i∈is->i<T.length/\i<U.length)->(Op.eqItems (d+1) 5 1 (Lib.byteCells T).toArray (Lib.byteCells U).toArray is).run prog w= .ok (is.all fun i=>T.getD i 0==U.getD i 0) w
 | [],_=>by simp[Op.eqItems]
 | i::is,h=>by
  have h1:=Zyf (h i List.mem_cons_self).1 w;have eu:=Zyf (h i List.mem_cons_self).2 w;have h2:=Zqm d w is fun j hj=>h j (List.mem_cons_of_mem _ hj);have h3:=run_equalIn_int (P:=prog) w d 5 .u8 .u8 ((T.getD i 0).toNat:Int) ((U.getD i 0).toNat:Int) underlying5;simp only[Op.eqItems,Uz,h1,eu,Vs,h3];rw[List.all_cons];clear h1 eu h3;generalize T.getD i 0=x;generalize U.getD i 0=y;by_cases he:x=y
  ·subst he;simp[h2]
  ·have: ¬ ((x.toNat:Int)=(y.toNat:Int)):=fun e=>he (UInt8.toNat.inj zx)
   simp[he,this]
def Z8p {T:List UInt8}(h:T.length=32)(h':U.length=32)(w:World):(binOp .eql 80 (.agg (Lib.byteCells T).toArray)<|.agg (Lib.byteCells U).toArray).run prog w= .ok (.bool<|decide<|T=U) w:=by
 obtain⟨i,hi,_,hs,_⟩:=info_parts qT;have e:((List.range 32).all fun i=>T.getD i 0==U.getD i 0)=decide (T=U):=by
  by_cases he:T=U
  ·subst he;simp
  ·rw[I8 he,<- Bool.not_eq_true,SI];intro hall;refine he (List.ext_getElem (h.trans h'.symm) fun j h1 h2=>?_)
   have:=hall j<|List.mem_range.2 zx
   simpa[List.getD,A8 h1,A8 h2]using this
 rw[run_eql_struct,run_equalIn_array w 9999 _ _ underlying80 hi,Zp8,Zqm 9998 w _ (fun j hj=>by rw[h,h'];have:=List.mem_range.1 hj;omega),e];rfl
def Ygr:ByteArray:=⟨#[115,101,97,108,101,100]⟩
def Yz (S:Bool) (tag:List UInt8):List UInt8:=if S then Bt ⟨tag.toArray⟩ [Ygr]else tag
def Z2j {a:Nat->Addr}{w:World}{v:Value}{S:Bool}{tag last:List UInt8}(Z:AZ a w)(ht:tag.length=32)(hl:last.length=32):
  Calls prog 60 #[.agg<|DC S v<|Lib.byteCells tag,Ip last] w fun e w'=>e= .returned (.bool<|decide<|tag=Yz S last)/\Bl w w':=by
 obtain⟨CV,Dt⟩: ∃ CV,AF (DC S v (Lib.byteCells tag)=CV):=⟨_,⟨rfl⟩⟩;have v0:CV[0]?=some (.bool S):=by rw[<- Dt.out];rfl
 have hlen:(Lib.byteCells tag).length=32:=by rw[Lib.byteCells_length,ht]
 have hC:=fun o=>(AO.new w CV 82).alloc o;have c0:=fun o=>((hC o).cell 0).trans v0;have CB:=AC fun u (hu:Bl w u)=>Zp3 (t:=Ygr) (Z.below hu) hl zu;unfold Ip at CB⊢;rw[Dt.out];have hrg: ∀ o,((w.alloc<|.cells CV 82).alloc o).rangeAt w.heap.size 2 (Lib.byteCells tag):=fun o j u hj=>by
  rw[AO.cell<|hC o,<- Dt.out,DC,Tu,Nat.add_comm 2 j];exact hj
 have hL:AO ((w.alloc<|.cells CV 82).alloc<|.cells (Lib.byteCells last).toArray 80) (w.heap.size+1) (Lib.byteCells last).toArray 80:=by
  have:=AO.new (w.alloc<|.cells CV 82) (Lib.byteCells last).toArray 80
  simpa using this
 cases S with
 | false=>
  have Ce:=fun u=>Z8p ht hl u;go_in
  go_wp2_with (first
   | (refine wpList_load_mid rfl 80 (.tmp 9) rfl w.heap.size 2 rfl (Lib.byteCells tag) _ (hrg _) underlying80 rfl (by rw[hlen];kernel_rfl) ?_)
   | (refine QN rfl 80 (.tmp 3) rfl (w.heap.size+1) rfl 80 (Lib.byteCells last).toArray (0,0) _ hL underlying80 rfl (ZT hl) ?_))
  go_ret
  exact⟨rfl,((AR w.heap.size w).alloc lr _).alloc zw _⟩
 | true=>
  obtain⟨nt,hnt⟩: ∃ nt,AF (Bt ⟨last.toArray⟩ [Ygr]=nt):=⟨_,⟨rfl⟩⟩;have L8:nt.length=32:=by rw[<- hnt.out];exact KZ _
  rw[show Yz true last=nt from hnt.out];simp only[hnt.out]at CB;go_in
  go_wp2_with (first
   | (refine QN rfl 80 (.tmp 3) rfl (w.heap.size+1) rfl 80 (Lib.byteCells last).toArray (0,0) _ hL underlying80 rfl (ZT hl) ?_))
  have B2:=((AR w.heap.size w).alloc lr<|.cells CV 82).alloc zw<|.cells (Lib.byteCells last).toArray 80;refine(CB.out _ B2).mono ?_;rintro e w3 ⟨rfl,hb3⟩;have B3:=AC<|B2.trans<|hb3.mono B2.size;have hC3:=(hC<|.cells (Lib.byteCells last).toArray 80).of<|hb3.block _ (hC _).lt;have hL3:=hL.of<|hb3.block _ hL.lt;have Ce:=fun u=>Z8p ht L8 u;have Bw:=ZV nt;have hsz:(Lib.byteCells last).toArray.size=(Lib.byteCells nt).toArray.size:=by rw[GN,GN,Lib.byteCells_length,Lib.byteCells_length,hl,L8]
  have hL4:=GM _ _ _ (Lib.byteCells nt).toArray _ _ hL3;have hC4:=hC3.of<|Db w3 (w.heap.size+1) w.heap.size (Lib.byteCells nt).toArray zx;have yh:(w3.setRow (w.heap.size+1) (Lib.byteCells nt).toArray).rangeAt w.heap.size 2 (Lib.byteCells tag):=fun j u hj=>by
   rw[AO.cell hC4,<- Dt.out,DC,Tu,Nat.add_comm 2 j];exact hj
  clear hb3 hC3 hC4 CB hrg hC c0 B2;go_wp2_with (first
   | (refine Ij rfl 80 (.tmp 3) (.tmp 8) rfl (w.heap.size+1) (Lib.byteCells nt).toArray rfl rfl 80 (Lib.byteCells last).toArray hL3 (ZT L8) hsz Bw ?_)
   | (refine wpList_load_mid rfl 80 (.tmp 9) rfl w.heap.size 2 rfl (Lib.byteCells tag) _ yh underlying80 rfl (by rw[hlen];kernel_rfl) ?_)
   | (refine QN rfl 80 (.tmp 3) rfl (w.heap.size+1) rfl 80 (Lib.byteCells nt).toArray (0,0) _ hL4 underlying80 rfl (ZT L8) ?_))
  go_ret
  exact⟨rfl,B3.out.Ar _ zx⟩
end Go.P
namespace Go.P
def Zr3 (V:D9)(CL:Gg){a:Nat->Addr}{w:World}{key:ByteArray}{l:By}{ch:Ch}{y0:ByteArray×Bk}{ys:List (ByteArray×Bk)}(Z:AZ a w)(hk:O9 key=true)(hl:l.length<1000000000)(hch:GZ Hu l= .ok ch){S:Bool}(hs:ch.sealed=S)(nM:ch.links=y0::ys)(hn:ys.length<8)(RD:ch.tag=Yz S (JF (Bt key [y0.1])<|ys.map (·.1))):
  Calls prog 27 #[.string key,.string<|ba l] w fun e w'=> ∃ v1 v2 F1 F2 W0,e= .returned (.tuple #[v1,v2,.nilIface])/\Bl w W0/\Bl W0 w'/\AQ 33 3 (Rt W0 3) w' v1 ((y0::ys).map (·.2)) F1/\AQ 9 1 GD w' v2 ((Bt key [y0.1]::Ju (Bt key [y0.1]) (ys.map (·.1))).map fun t=>⟨(Ez [⟨t.toArray⟩]).toArray⟩) F2/\Ag W0.heap.size w' F1/\Ag W0.heap.size w' F2:=by
 obtain⟨T0,Rf⟩: ∃ T0,AF (Bt key [y0.1]=T0):=⟨_,⟨rfl⟩⟩;rw[Rf.out]at RD⊢;have Ph:key.size<1000000000:=by unfold O9 at hk;simp at hk;omega
 have CK:=AC fun u=>qW key Ph u;have C:=AC<|j6 V CL Z hl;have HE:=AC<|AJ hch<|AJ hs<|AJ nM RD;clear hch hs nM RD;have ZZ:=AC Z;clear Z V CL;go_in
 go_wp2_with fail
 refine(CK.out _).mono ?_;rintro e w1 ⟨rfl,rfl⟩;rw[hk];go_wp2_with fail
 refine C.out.mono ?_;rintro e w2 ⟨hb2,⟨m,hy,hm,rfl⟩ | ⟨y,vs,F,hy,rfl,hQ,hN⟩⟩
 ·rw[HE.out.1]at hy;cases hy
 obtain rfl:y=ch:=by rw[HE.out.1]at hy;exact(Except.ok.inj hy).symm
 obtain⟨v,rfl,JW,hrow⟩:=hQ;obtain⟨p1,c1,rfl,RV,Yq⟩:=Z2z hrow fun k hk=>hN.lt k hk;have hlen:(Lib.byteCells y.tag).length=32:=by rw[Lib.byteCells_length,JW]
 have Jq:y.links.length=ys.length+1:=by rw[HE.out.2.2.1];rfl
 rw[Jq]at RV⊢;have iP:AF ((Value.bool y.sealed::Value.slice p1 (ys.length+1) c1::Lib.byteCells y.tag).toArray=DC S (.slice p1 (ys.length+1) c1) (Lib.byteCells y.tag)):=⟨by rw[HE.out.2.1];rfl⟩;rw[iP.out];have S1:=AO.new w2 BH 82;have Ci:=Wv S (.slice p1 (ys.length+1) c1) hlen;have Bw:=gK S p1 (ys.length+1) c1 y.tag;have hsz:=Vi S (.slice p1 (ys.length+1) c1) hlen;obtain⟨CV,Dt⟩: ∃ CV,AF (DC S (.slice p1 (ys.length+1) c1) (Lib.byteCells y.tag)=CV):=⟨_,⟨rfl⟩⟩;rw[Dt.out]at Ci Bw hsz⊢;have S2:=GM _ _ _ CV _ _ S1;have B3:Bl w2 ((w2.alloc<|.cells BH 82).setRow w2.heap.size CV):=((AR _ w2).alloc lr _).Ar _ lr;rw[HE.out.2.2.1]at Yq;have CT:=AC<|Z30 (S:=S) (tag:=y.tag) (c:=c1) (key:=key) (t0:=y0.1) (ts:=ys.map (·.1)) ((ZZ.out.below hb2).below B3) Ph B3.size (Ztt Yq B3) (by simp;omega) (by simpa using RV);rw[Dj,Dt.out,Rf.out]at CT;have ru:=AC JW;clear C CK hy hrow hN hlen hsz Jq iP JW;go_wp2_with (first
  | (refine Ij rfl 82 (.tmp 7) (.tmp 21) rfl w2.heap.size CV rfl rfl 82 BH S1 Ci (by rw[<- Dt.out,Vi _ _ (by rw[Lib.byteCells_length,ru.out])];rfl) Bw ?_)
  | (refine QN rfl 82 (.tmp 7) rfl w2.heap.size rfl 82 CV (0,0) _ S2 underlying82 rfl Ci ?_))
 refine CT.out.mono ?_;rintro e w4 ⟨v4,F4,rfl,eT,hN4,hb4⟩;obtain⟨TL,hTL⟩: ∃ TL,AF (T0::Ju T0 (ys.map (·.1))=TL):=⟨_,⟨rfl⟩⟩;have Rb:TL.length=ys.length+1:=by rw[<- hTL.out,DU,qz,Dj]
 obtain⟨Kt,htk0⟩: ∃ Kt,AF (JF T0 (ys.map (·.1))=Kt):=⟨_,⟨rfl⟩⟩;have PX:Kt.length=32:=by rw[<- htk0.out];exact wJ (by rw[<- Rf.out];exact KZ _) _
 have HET:AF (y.tag=Yz S Kt):=⟨by rw[<- htk0.out];exact HE.out.2.2.2⟩;have KH:TL[ys.length]?=some Kt:=by
  have:=Zug T0<|ys.map (·.1)
  rw[hTL.out,Dj,htk0.out]at this;exact this
 rw[hTL.out]at eT;obtain⟨p4,c4,rfl,NZ,eF⟩:=Yay eT fun k hk=>hN4.lt k hk;obtain⟨R,o4,rfl,uL,_,hrg⟩:=eF.at_ ys.length _ KH;rw[Rb]at NZ⊢;have B4:=AC<|B3.trans<|hb4.mono B3.size;have C4:=AO.of S2<|hb4.block _<|AO.lt S2;obtain⟨n,Ov⟩: ∃ n,AF (ys.length=n):=⟨_,⟨rfl⟩⟩;rw[Ov.out]at NZ hrg⊢;obtain⟨YT,hYT⟩: ∃ YT,AF (Lib.byteCells Kt=YT):=⟨_,⟨rfl⟩⟩;have uI:YT.length=32:=by rw[<- hYT.out,Lib.byteCells_length,PX]
 rw[hYT.out]at hrg;have HSR:=AC eF;have HLB:=AC Yq;have iI:=AC<|AJ Rb KH;clear Yq Rb KH RV;clear S1 S2 B3 hb4 CT eF eT;go_wp2_with fail
 have VK:n<8:=by have:=Ov.out;omega
 have hw4:IntKind.i64.wrap (n:Int)=(n:Int):=by rw[IntKind.wrap_i64];omega
 have BI:wrap64 ((n:Int)+1-1)=(n:Int):=by unfold wrap64;omega
 have hw2:wrap64 (n:Int)=(n:Int):=by unfold wrap64;omega
 have hw3:(n:Int)<(n:Int)+1:=zx
 refine Zh (S:=fun u=>AO u w2.heap.size CV 82/\u.rangeAt R (o4+n*32) (YT)) zt ?_;change wpAnyH _ _ _ _ _ _ _ _ (World.drew _);have AY:AO w4.drew w2.heap.size CV 82/\w4.drew.rangeAt R (o4+n*32) (YT):=⟨C4,hrg⟩;refine wpAnyH_take (i:=0) (oi:={dst:=some 29,op:= .load 82<|.tmp 7,type:=82,pos:= "warrant.go:226",after:=#[],guard:=none}) (v:= .agg CV) rfl zt zt zt (fun _ _ _ h=>h) (wP rfl 82 (.tmp 7) rfl (zm w2.heap.size 0) rfl fun u hS=>Vo u w2.heap.size 82 82 _ _ _ hS.1 underlying82 rfl Ci) AY ?_;simp only[zz];refine tk 1 (.slice (Qb R o4) (n+1) c4) AY ?_;simp only[zz];refine tk 2 (.slice (Qb R o4) (n+1) c4) AY ?_;simp only[zz];refine tk 3 (.int .i64<|(n:Int)+1) AY ?_;simp only[zz];refine tk 4 (zo (n:Int)) AY ?_;simp only[zz];refine tk 5 (zq R<|o4+n*32) AY ?_;simp only[zz];refine wpAnyH_take (i:=6) (oi:={dst:=some 35,op:= .load 80<|.tmp 34,type:=80,pos:= "warrant.go:226",after:=#[{on:=5,ground:=Ground.data}],guard:=none}) (v:= .agg (YT).toArray) rfl zt zt zt (fun _ _ _ h=>h) (yieldsIf_load_mid (by simp[Region.wanted]) 80 (.tmp 34) rfl R (o4+n*32) rfl (YT) _ (fun u hS=>hS.2) underlying80 rfl (by rw[uI];kernel_rfl)) AY ?_;simp only[zz];refine MZ (rs:=[7]) zt zw<|ND rfl (fun K' hK'=>?_) M8;go_simp;have XQ:=Z2j (S:=S) (w:=w4.drew) (v:= .slice p1 (ys.length+1) c1) (tag:=y.tag) (last:=Kt) (((ZZ.out.below hb2).below B4.out).below<|(AR _ w4).drew) ru.out PX;rw[Dt.out,Nv HET.out]at XQ;unfold Ip at XQ;rw[hYT.out]at XQ;refine mq XQ ?_;rintro w5 BX;have B5:=AC<|B4.out.trans<|Below.mono (B:=w4.drew.heap.size) ⟨BX.os,BX.tape,BX.output,BX.size,BX.block⟩ B4.out.size;have lI:AF (Bl w4 w5):=⟨⟨BX.os,BX.tape,BX.output,BX.size,BX.block⟩⟩;refine hK'.out _ _ ⟨C4.of<|BX.block _<|AO.lt C4,fun j u hj=>(BX.cell (p:=(zm R (o4+n*32+j))) uL).trans (hrg j u hj)⟩ fun VR=>?_;clear hK' K' XQ AY;refine tk 8 (.bool false) VR ?_;simp only[zz];refine Uy zt ?_ _;have v1:CV[1]?=some (.slice p1 (n+1) c1):=by rw[<- Dt.out,Ov.out];rfl
 have cl:w5.cell? (zm w2.heap.size 1)=some (.slice p1 (n+1) c1):=(VR.1.cell 1).trans v1;clear VR C4;go_wp2_with fail
 obtain⟨xs,VA⟩: ∃ xs,AF ((y0::ys).map (·.2)=xs):=⟨_,⟨rfl⟩⟩;obtain⟨ids,hids⟩: ∃ ids,AF (TL.map (fun t=>(⟨(Ez [⟨t.toArray⟩]).toArray⟩:ByteArray))=ids):=⟨_,⟨rfl⟩⟩;have FY:AF (xs.length=n+1):=⟨by rw[<- VA.out];simp[Ov.out]⟩;clear cl;clear BI hw2 hw3 hw4 Ci Bw hrg uI hYT Dt hn NZ;go_loopw [42,10,11] (fun iv bv dv wr=>Yh3 w2 w5 xs ids iv bv dv wr) (fun iv _ _ _=>xs.length-(intOf iv).toNat)
 case atStart=>exact⟨0,[],[],Eg _,rfl,AQ.nil,AQ.nil,Ag.nil _ _,Ag.nil _ _,(fun _ h=>by cases h),AR _ _⟩
 case round=>
  obtain⟨k,F1,F2,hk,rfl,aO,aN,aQ,BZ,hD,Bo⟩:=hrel;by_cases hlt:k<n+1
  ·have g:(k:Int)<(n:Int)+1:=zx
   obtain⟨yk,hyk⟩: ∃ yk,(y0::ys)[k]?=some yk:=⟨(y0::ys)[k]'(by have:=Ov.out;simp;omega),A8 _⟩;obtain⟨b0,o0,rfl,hx⟩:=HLB.out.at_ k yk hyk;have GR:xs[k]?=some yk.2:=by rw[<- VA.out,FK,hyk];rfl
   obtain⟨hbl,Z8,q1,k1,q2,k2,q3,k3,z0,z1,z2,z3,hSk⟩:=hx;have ccw: ∀ o,wr.cell? (zm b0 o)=w2.cell? (zm b0 o):=fun o=>(Bo.cell (p:=(zm b0 o))<|BK hbl B5.out.size).trans (B5.out.cell (p:=(zm b0 o)) hbl);rw[<- ccw]at z0 z1 z2 z3;have hbwr:b0<wr.heap.size:=BK hbl<|Ab B5.out.size Bo.size;obtain⟨Kt,Kv⟩: ∃ Kt,TL[k]?=some Kt:=⟨TL[k]'(by have:=Ov.out;have:=iI.out.1;omega),A8 _⟩;obtain⟨R',o',hRo,hRl',mY,nI⟩:=HSR.out.at_ k Kt Kv;obtain⟨rfl,rfl⟩:R=R'/\o4=o':=by injection hRo with h;injection h with h1 h2;exact⟨h1,h2⟩
   have HK:=AC<|AJ hyk<|AJ GR<|AJ Kv<|AJ mY<|AJ nI hSk;clear hyk GR Kv mY nI hSk ccw;have UR:=AC Bo.size;have HH:=AC<|AJ aO<|AJ aN<|AJ aQ<|AJ BZ<|AJ hD Bo;clear aO aN aQ BZ hD Bo;have hk32:wr.heap.size<wr.heap.size+1:=zx
   have uN:=AC<|Ab UR.out<|EO wr.heap.size;have LB:AF (AO ((wr.alloc<|.cells #[.string yk.1,.slice q1 yk.2.facts.length k1,.slice q2 yk.2.rules.length k2,.slice q3 yk.2.checks.length k3] 110).alloc<|.cells #[.slice q1 yk.2.facts.length k1,.slice q2 yk.2.rules.length k2,.slice q3 yk.2.checks.length k3] 33) (wr.heap.size+1) #[.slice q1 yk.2.facts.length k1,.slice q2 yk.2.rules.length k2,.slice q3 yk.2.checks.length k3] 33):=⟨by
    have:=AO.new (wr.alloc<|.cells #[.string yk.1,.slice q1 yk.2.facts.length k1,.slice q2 yk.2.rules.length k2,.slice q3 yk.2.checks.length k3] 110) #[.slice q1 yk.2.facts.length k1,.slice q2 yk.2.rules.length k2,.slice q3 yk.2.checks.length k3] 33
    simpa using this⟩
   have ha2:AF (∀ j,j<wr.heap.size-> ∀ o1 o2,((wr.alloc o1).alloc o2).heap[j]?=wr.heap[j]?):=⟨fun j hj o1 o2=>(Ah _ _ _ (by simp;omega)).trans (Ah _ _ _ hj)⟩;have hlx:(xs.take k).length<100000000:=by rw[List.length_take];have:=FY.out;omega
   go_wp2_with (at_builtin;go_must (refine Nu Zu7 rfl (.tmp 47) (.tmp 50) rfl (Rt.stable w2 3) (fun _ _ _ _ h=>Rt.one h) w5.heap.size u10 (xs.take k) F1 rfl (AQ.stable (Rt.stable w2 3) _ _ _ _ _ HH.out.1 fun j hj=>ha2.out j (HH.out.2.2.1.lt j hj) _ _) (wr.heap.size+1) #[.slice q1 yk.2.facts.length k1,.slice q2 yk.2.rules.length k2,.slice q3 yk.2.checks.length k3] 33 (0,0) yk.2 [] rfl LB.out rfl ⟨rfl,HK.out.2.2.2.2.2⟩ hlx (by have:=uN.out;simp;omega) (HH.out.2.2.1.later lr (by simp;omega)) (Ag.nil _ _) (fun _ _ h=>by cases h) ?_);intro g6 Cm w6 F6 AM;have za:(convert 115 9<|.slice (Qb R<|o4+k*32) 32 32).run prog w6= .ok (.string ⟨Kt.toArray⟩) w6:=Zjx (fun j u hj=>(A9 (a:=(zm R (o4+k*32+j)))<|(AM.same R (by have:=UR.out;have:=lI.out.size;simp;omega) (fun h=>by have:=HH.out.2.2.1.ge R h;have:=lI.out.size;omega)).trans<|ha2.out R (by have:=UR.out;have:=lI.out.size;omega) _ _).trans ((HH.out.2.2.2.2.2.cell (p:=(zm R (o4+k*32+j))) (by have:=lI.out.size;show R<_;omega)).trans<|(lI.out.cell (p:=(zm R (o4+k*32+j))) uL).trans<|HK.out.2.2.2.2.1 j u hj)) 32 HK.out.2.2.2.1.symm)
   have yg:wr.heap.size+2<=w6.heap.size:=by have:=AM.size;simpa using this
   have st6:AF (∀ j,j<wr.heap.size->j∉F1->w6.heap[j]?=wr.heap[j]?):=⟨fun j hj hF=>(AM.same j (by simp;omega) hF).trans (ha2.out j hj _ _)⟩;have B56:AF (Bl w5 w6):=⟨⟨AM.os.trans HH.out.2.2.2.2.2.os,AM.tape.trans HH.out.2.2.2.2.2.tape,AM.output.trans HH.out.2.2.2.2.2.output,by have:=UR.out;omega,fun j hj=>(st6.out j (by have:=UR.out;omega) (fun h=>by have:=HH.out.2.2.1.ge j h;omega)).trans (HH.out.2.2.2.2.2.block j hj)⟩⟩;have Z6:=((ZZ.out.below hb2).below B5.out).below B56.out;have CS:=AC<|Ygu (t:=⟨Kt.toArray⟩) Z6 (by have:=HK.out.2.2.2.1;simp[ByteArray.size,this]);have R6:=AC<|AJ AM.row<|AJ AM.new AM.sub;clear Z6 AM;clear za;refine mq CS.out ?_;rintro w7 G6;have PY:=G6.size;obtain⟨S7,JZ⟩: ∃ S7:ByteArray,AF ((⟨(Ez [⟨Kt.toArray⟩]).toArray⟩:ByteArray)=S7):=⟨_,⟨rfl⟩⟩;rw[JZ.out];have st7:AF (∀ j,j<wr.heap.size->j∉F1-> ∀ o,(w7.alloc o).heap[j]?=wr.heap[j]?):=⟨fun j hj hF o=>(Ah _ _ _ zx).trans ((G6.block j zx).trans<|st6.out j hj hF)⟩;have hli:(ids.take k).length<100000000:=by rw[List.length_take,<- hids.out,Dj];have:=iI.out.1;have:=Ov.out;omega
   have sO:=tr B56 G6;have R7:AF (AQ 33 3 (Rt w2 3) w7 (.slice (Qb g6 0) ((xs.take k).length+1) Cm) (xs.take k++[yk.2]) F6):=⟨AQ.stable (Rt.stable w2 3) _ _ _ _ _ R6.out.1 fun j hj=>G6.block j (R6.out.2.1.lt j hj)⟩;clear G6 CS;go_wp2_with (at_builtin;go_must (refine Nu gB rfl (.tmp 52) (.tmp 59) rfl GD.stable (fun _ _ _ _ h=>GD.one h) w5.heap.size u11 (ids.take k) F2 rfl (AQ.stable GD.stable _ _ _ _ _ HH.out.2.1 fun j hj=>st7.out j (HH.out.2.2.2.1.lt j hj) (fun h=>HH.out.2.2.2.2.1 j h hj) _) w7.heap.size #[.string S7] 9 (0,0) S7 [] rfl (Hw _ _) rfl ⟨rfl,rfl⟩ hli (by have:=UR.out;simp;omega) (HH.out.2.2.2.1.later lr (by simp;omega)) (Ag.nil _ _) (fun _ _ h=>by cases h) ?_);intro g8 UU w8 F8 AM)
   have hlk:(xs.take k).length=k:=by rw[List.length_take];have:=FY.out;omega
   have mi:=AM.size;simp only[EV]at mi;have hw58:=sO.out.size;have d62: ∀ j,j∈F6->j∉F2:=fun j hj h2=>by
    rcases R6.out.2.2 j hj with h | h | h
    ·exact HH.out.2.2.2.2.1 j h h2
    ·cases h
    ·have:=HH.out.2.2.2.1.lt j h2
     simp at h;omega
   have tk1:xs.take (k+1)=xs.take k++[yk.2]:=by rw[PM,HK.out.2.1];rfl
   have tk2:ids.take (k+1)=ids.take k++[S7]:=by
    have:ids[k]?=some S7:=by rw[<- hids.out,FK,HK.out.2.2.1,<- JZ.out];rfl
    rw[PM,this];rfl
   go_roundw
   case rel=>
    refine⟨k+1,F6,F8,by have:=FY.out;omega,by go_num,?_,?_,R6.out.2.1.later lr zx,AM.new,fun j hj h8=>?_,?_⟩
    ·rw[tk1]
     have:=AQ.stable (Rt.stable w2 3) _ w8 _ _ _ R7.out fun j hj=>(AM.same j (by have:=R6.out.2.1.lt j hj;simp;omega)<|d62 j hj).trans (Ah _ _ _ (by have:=R6.out.2.1.lt j hj;omega))
     rw[hlk]at this;exact this
    ·rw[tk2]
     have:=AM.row
     rw[List.length_take]at this;exact this
    ·rcases AM.sub j h8 with h | h | h
     ·exact d62 j hj h
     ·cases h
     ·have:=R6.out.2.1.lt j hj
      simp at h;omega
    ·exact⟨AM.os.trans sO.out.os,AM.tape.trans sO.out.tape,AM.output.trans sO.out.output,zx,fun j hj=>(AM.same j (by simp;omega) (fun h=>by have:=HH.out.2.2.2.1.ge j h;omega)).trans ((Ah _ _ _ zx).trans<|sO.out.block j hj)⟩
   case measure=>simp[intOf];have:=FY.out;omega
  ·obtain rfl:k=n+1:=by have:=FY.out;omega
   have e1:xs.take (n+1)=xs:=U0 (by have:=FY.out;omega);have e2:ids.take (n+1)=ids:=U0 (by rw[<- hids.out,Dj];have:=iI.out.1;have:=Ov.out;omega);rw[e1]at aO;rw[e2]at aN;have HH:=AC<|AJ aO<|AJ aN<|AJ aQ<|AJ BZ Bo;clear e1 e2 aO aN aQ BZ hD Bo;go_wp2
   go_ret3
   rw[VA.out,hTL.out,hids.out];exact⟨u10,u11,F1,F2,w2,rfl,hb2,B5.out.trans<|HH.out.2.2.2.2.mono B5.out.size,HH.out.1,HH.out.2.1,HH.out.2.2.1.later B5.out.size lr,HH.out.2.2.2.1.later B5.out.size lr⟩
end Go.P
