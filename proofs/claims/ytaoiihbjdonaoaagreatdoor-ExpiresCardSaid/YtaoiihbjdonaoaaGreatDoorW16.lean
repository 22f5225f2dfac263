import Derived.Test.YtaoiihbjdonaoaaGreatDoorW15
set_option linter.defProp false
set_option maxRecDepth 100000
set_option maxHeartbeats 8000000
set_option linter.unusedSimpArgs false
open Go.Proofs Go.RowKit Go.W Tryz
namespace Go.W
def Zz0 {α:Type}(f:α->ByteArray): ∀ l r:List α,cat f (l++r)=cat f l++cat f r
 | [],r=>by simp[cat]
 | x::l,r=>by rw[EC,cat,cat,Zz0 f l r,Jl]
def je {α:Type}(f:α->ByteArray){l:List α}{q:Nat}(h:q<l.length):cat f (l.take<|q+1)=cat f (l.take q)++f l[q]:=by
 rw[List.take_succ_eq_append_getElem h,Zz0];simp[cat]
def jV {α:Type}(f:α->ByteArray)(l:List α)(q:Nat):(cat f<|l.take q).size<=(cat f l).size:=by
 have h:=congrArg ByteArray.size<|Zz0 f (l.take q)<|l.drop q;rw[List.take_append_drop,BM]at h;omega
end Go.W
namespace Go.P
def Yd2 (a:Nat)(h:a<18446744073709551616):a ^^^ 18446744073709551615=18446744073709551615-a:=by
 have e:=congrArg BitVec.toNat<|BitVec.xor_allOnes (x:=BitVec.ofNat 64 a);rw[BitVec.toNat_xor,BitVec.toNat_not,BitVec.toNat_allOnes,BitVec.toNat_ofNat,Nat.mod_eq_of_lt h]at e;exact e
def Ycc (i:Int)(hi:Gq i):bits .xor .u64 (IntKind.u64.wrap<|IntKind.u64.wrap i*2) (IntKind.u64.wrap<|i / 9223372036854775808)=(TJ i:Int):=by
 obtain⟨h1,h2⟩:=hi;simp only[IntKind.wrap_u64];unfold TJ;by_cases h:i<0
 ·rw[if_pos h];have e1:i % 18446744073709551616*2 % 18446744073709551616=((2*i+18446744073709551616).toNat:Int):=zx
  have e2:i / 9223372036854775808 % 18446744073709551616=((18446744073709551615:Nat):Int):=zx
  rw[e1,e2,u64_xor_nat _ _ zx zx,Yd2 _ zx];omega
 ·rw[if_neg h];have e1:i % 18446744073709551616*2 % 18446744073709551616=((2*i).toNat:Int):=zx
  have e2:i / 9223372036854775808 % 18446744073709551616=((0:Nat):Int):=zx
  rw[e1,e2,u64_xor_nat _ _ zx zx,Nat.xor_zero]
def Ql:fH 119:=⟨zt,zu⟩
def jb {α:Type} (T B b:Nat) (s:ByteArray) (f:α->ByteArray) (w:World) (l:List α) (iv:Value) (wr:World):Prop:= ∃ q:Nat,q<=l.length/\iv= zo q/\DV T B b (s++cat f (l.take q)) wr/\Fr B b w wr
def Z5e (i:Int)(hi:Gq i)(w:World):Calls prog 200 #[zo i] w fun e w'=>e= .returned (.int .u64 (TJ i:Int))/\w'=w:=by
 go_in
 go_wp2
 go_ret
 exact⟨Yai<|Ycc i hi,rfl⟩
end Go.P
namespace Go.P
variable {K B D b c:Nat}{first cap:Array Value}{s:ByteArray}{w:World}{p:Option Addr}
def Zjn (hen:Da K){f:T->ByteArray}{xs:List T}(h:DV 119 B b s w)(hs:s.size+(BO f xs).size<1000000000)(hrow:Ap 4 (He B w<|D+1) p xs)(hB:B<=w.heap.size)
  (HC: ∀ u vs x s',x∈xs->DV 119 B b s' u->Fr B b w u->Ed B u D vs x->s'.size+(f x).size<1000000000->Calls prog K (first.push (.agg vs.toArray)++cap) u (LZ 119 B b (s'++f x) u)):
  Calls prog 168 #[zq b 0,.slice p xs.length c,.func (.func K) first cap] w (LZ 119 B b (s++BO f xs) w):=by
 have hl:=hrow.len;have HR:=AC hrow;have HH:=AC HC;have Dz: ∀ args w,(callFunc K args).run prog w= .ok (.enter K args) w:=hen;have hz:s.size+((Do xs.length).size+(cat f xs).size)<1000000000:=by rw[BO,BM]at hs;exact hs
 have EQ:AF (s++Do xs.length++cat f xs=s++BO f xs):=⟨by rw[BO,Jl]⟩;have C:=AC<|bN Ql h xs.length zx zx hB;have SZ:AF ((s++Do xs.length).size=s.size+(Do xs.length).size):=⟨BM _ _⟩;clear hrow HC hen h hs;generalize s++Do xs.length=s1 at*;go_in
 go_wp2_with fail
 refine C.out.mono ?_;rintro e w1 ⟨rfl,hb1,BI⟩;have H1:=AC<|AJ hb1 BI;clear hb1 BI C;go_wp2
 go_loopw [15] (fun iv wr=>jb 119 B b s1 f w xs iv wr) (fun iv _=>xs.length-(intOf iv).toNat)
 case atStart=>exact⟨0,zx,rfl,by simpa[cat]using H1.out.1,H1.out.2⟩
 case round=>
  obtain⟨q,hq,rfl,hbl,Af⟩:=hrel;have HB:=AC<|AJ hbl Af;by_cases hlt:q<xs.length
  ·have FD:=AC<|je f hlt;have LE:=jV f xs<|q+1;obtain⟨b1,o1,rfl,hx⟩:=HR.out.get q hlt;have hm:xs[q]∈xs:=QO hlt;obtain⟨hb1,p1,c1,k0,k1,k2,k3,hS⟩:=(hx.carry (Go.W.Below.carry Af.below lr) lr).vals;have hsz:=Ab hB Af.size;rw[FD.out,BM]at LE;have CC:=AC<|HH.out _ _ _ _ hm (hbl.alloc<|.cells #[zo xs[q].k,zo xs[q].i,.string xs[q].t,.slice p1 xs[q].l.length c1] 46) (Af.alloc hsz _) (Ed.carry hS<|Qk _ hsz) (by rw[BM,SZ.out];omega);clear hbl Af hx hm hS HH;go_wp2_with fail
   refine CC.out.mono ?_;rintro e w2 ⟨rfl,hb2,hw2⟩;have R:=AC<|AJ hb2<|(HB.out.2.alloc hsz _).trans hw2;clear hb2 hw2 CC;go_wp2
   go_roundw
   case rel=>exact⟨q+1,zx,by go_num,by rw[FD.out,<- Jl];exact R.out.1,R.out.2⟩
   case measure=>simp[intOf];omega
  ·obtain rfl:q=xs.length:=zx
   rw[On]at hbl;have Ey:=AC<|AJ hbl Af;clear hbl Af HB;go_wp2
   go_end0
   exact⟨rfl,EQ.out▸Ey.out.1,Ey.out.2⟩
def Zjl (hen:Da K){f:A->ByteArray}{xs:List A}(h:DV 119 B b s w)(hs:s.size+(BO f xs).size<1000000000)(hrow:Ap 2 (Ep B w<|D+1) p xs)(hB:B<=w.heap.size)
  (HC: ∀ u vs x s',x∈xs->DV 119 B b s' u->Fr B b w u->Jz B u D vs x->s'.size+(f x).size<1000000000->Calls prog K (first.push (.agg vs.toArray)++cap) u (LZ 119 B b (s'++f x) u)):
  Calls prog 119 #[zq b 0,.slice p xs.length c,.func (.func K) first cap] w (LZ 119 B b (s++BO f xs) w):=by
 have hl:=hrow.len;have HR:=AC hrow;have HH:=AC HC;have Dz: ∀ args w,(callFunc K args).run prog w= .ok (.enter K args) w:=hen;have hz:s.size+((Do xs.length).size+(cat f xs).size)<1000000000:=by rw[BO,BM]at hs;exact hs
 have EQ:AF (s++Do xs.length++cat f xs=s++BO f xs):=⟨by rw[BO,Jl]⟩;have C:=AC<|bN Ql h xs.length zx zx hB;have SZ:AF ((s++Do xs.length).size=s.size+(Do xs.length).size):=⟨BM _ _⟩;clear hrow HC hen h hs;generalize s++Do xs.length=s1 at*;go_in
 go_wp2_with fail
 refine C.out.mono ?_;rintro e w1 ⟨rfl,hb1,BI⟩;have H1:=AC<|AJ hb1 BI;clear hb1 BI C;go_wp2
 go_loopw [15] (fun iv wr=>jb 119 B b s1 f w xs iv wr) (fun iv _=>xs.length-(intOf iv).toNat)
 case atStart=>exact⟨0,zx,rfl,by simpa[cat]using H1.out.1,H1.out.2⟩
 case round=>
  obtain⟨q,hq,rfl,hbl,Af⟩:=hrel;have HB:=AC<|AJ hbl Af;by_cases hlt:q<xs.length
  ·have FD:=AC<|je f hlt;have LE:=jV f xs<|q+1;obtain⟨b1,o1,rfl,hx⟩:=HR.out.get q hlt;have hm:xs[q]∈xs:=QO hlt;obtain⟨hb1,p1,c1,k0,k1,hS⟩:=(hx.carry (Go.W.Below.carry Af.below lr) lr).vals;have hsz:=Ab hB Af.size;rw[FD.out,BM]at LE;have CC:=AC<|HH.out _ _ _ _ hm (hbl.alloc<|.cells #[.string xs[q].name,.slice p1 xs[q].terms.length c1] 41) (Af.alloc hsz _) (Jz.carry hS<|Qk _ hsz) (by rw[BM,SZ.out];omega);clear hbl Af hx hm hS HH;go_wp2_with fail
   refine CC.out.mono ?_;rintro e w2 ⟨rfl,hb2,hw2⟩;have R:=AC<|AJ hb2<|(HB.out.2.alloc hsz _).trans hw2;clear hb2 hw2 CC;go_wp2
   go_roundw
   case rel=>exact⟨q+1,zx,by go_num,by rw[FD.out,<- Jl];exact R.out.1,R.out.2⟩
   case measure=>simp[intOf];omega
  ·obtain rfl:q=xs.length:=zx
   rw[On]at hbl;have Ey:=AC<|AJ hbl Af;clear hbl Af HB;go_wp2
   go_end0
   exact⟨rfl,EQ.out▸Ey.out.1,Ey.out.2⟩
def Zo5 (hen:Da K){f:G->ByteArray}{xs:List G}(h:DV 119 B b s w)(hs:s.size+(BO f xs).size<1000000000)(hrow:Ap 9 (QK B w<|D+1) p xs)(hB:B<=w.heap.size)
  (HC: ∀ u vs x s',x∈xs->DV 119 B b s' u->Fr B b w u->TQ B u D vs x->s'.size+(f x).size<1000000000->Calls prog K (first.push (.agg vs.toArray)++cap) u (LZ 119 B b (s'++f x) u)):
  Calls prog 201 #[zq b 0,.slice p xs.length c,.func (.func K) first cap] w (LZ 119 B b (s++BO f xs) w):=by
 have hl:=hrow.len;have HR:=AC hrow;have HH:=AC HC;have Dz: ∀ args w,(callFunc K args).run prog w= .ok (.enter K args) w:=hen;have hz:s.size+((Do xs.length).size+(cat f xs).size)<1000000000:=by rw[BO,BM]at hs;exact hs
 have EQ:AF (s++Do xs.length++cat f xs=s++BO f xs):=⟨by rw[BO,Jl]⟩;have C:=AC<|bN Ql h xs.length zx zx hB;have SZ:AF ((s++Do xs.length).size=s.size+(Do xs.length).size):=⟨BM _ _⟩;clear hrow HC hen h hs;generalize s++Do xs.length=s1 at*;go_in
 go_wp2_with fail
 refine C.out.mono ?_;rintro e w1 ⟨rfl,hb1,BI⟩;have H1:=AC<|AJ hb1 BI;clear hb1 BI C;go_wp2
 go_loopw [15] (fun iv wr=>jb 119 B b s1 f w xs iv wr) (fun iv _=>xs.length-(intOf iv).toNat)
 case atStart=>exact⟨0,zx,rfl,by simpa[cat]using H1.out.1,H1.out.2⟩
 case round=>
  obtain⟨q,hq,rfl,hbl,Af⟩:=hrel;have HB:=AC<|AJ hbl Af;by_cases hlt:q<xs.length
  ·have FD:=AC<|je f hlt;have LE:=jV f xs<|q+1;obtain⟨b1,o1,rfl,hx⟩:=HR.out.get q hlt;have hm:xs[q]∈xs:=QO hlt;obtain⟨hb1,p1,c1,p2,c2,k0,k1,k2,k3,k4,k5,k6,k7,k8,hS⟩:=(hx.carry (Go.W.Below.carry Af.below lr) lr).vals;have hsz:=Ab hB Af.size;rw[FD.out,BM]at LE;have CC:=AC<|HH.out _ _ _ _ hm (hbl.alloc<|.cells #[zo xs[q].op,zo xs[q].a.k,zo xs[q].a.i,.string xs[q].a.t,.slice p1 xs[q].a.l.length c1,zo xs[q].b.k,zo xs[q].b.i,.string xs[q].b.t,.slice p2 xs[q].b.l.length c2] 48) (Af.alloc hsz _) (TQ.carry hS<|Qk _ hsz) (by rw[BM,SZ.out];omega);clear hbl Af hx hm hS HH;go_wp2_with fail
   refine CC.out.mono ?_;rintro e w2 ⟨rfl,hb2,hw2⟩;have R:=AC<|AJ hb2<|(HB.out.2.alloc hsz _).trans hw2;clear hb2 hw2 CC;go_wp2
   go_roundw
   case rel=>exact⟨q+1,zx,by go_num,by rw[FD.out,<- Jl];exact R.out.1,R.out.2⟩
   case measure=>simp[intOf];omega
  ·obtain rfl:q=xs.length:=zx
   rw[On]at hbl;have Ey:=AC<|AJ hbl Af;clear hbl Af HB;go_wp2
   go_end0
   exact⟨rfl,EQ.out▸Ey.out.1,Ey.out.2⟩
def Zjm (hen:Da K){f:R->ByteArray}{xs:List R}(h:DV 119 B b s w)(hs:s.size+(BO f xs).size<1000000000)(hrow:Ap 4 (FJ B w<|D+1) p xs)(hB:B<=w.heap.size)
  (HC: ∀ u vs x s',x∈xs->DV 119 B b s' u->Fr B b w u->Jy B u D vs x->s'.size+(f x).size<1000000000->Calls prog K (first.push (.agg vs.toArray)++cap) u (LZ 119 B b (s'++f x) u)):
  Calls prog 121 #[zq b 0,.slice p xs.length c,.func (.func K) first cap] w (LZ 119 B b (s++BO f xs) w):=by
 have hl:=hrow.len;have HR:=AC hrow;have HH:=AC HC;have Dz: ∀ args w,(callFunc K args).run prog w= .ok (.enter K args) w:=hen;have hz:s.size+((Do xs.length).size+(cat f xs).size)<1000000000:=by rw[BO,BM]at hs;exact hs
 have EQ:AF (s++Do xs.length++cat f xs=s++BO f xs):=⟨by rw[BO,Jl]⟩;have C:=AC<|bN Ql h xs.length zx zx hB;have SZ:AF ((s++Do xs.length).size=s.size+(Do xs.length).size):=⟨BM _ _⟩;clear hrow HC hen h hs;generalize s++Do xs.length=s1 at*;go_in
 go_wp2_with fail
 refine C.out.mono ?_;rintro e w1 ⟨rfl,hb1,BI⟩;have H1:=AC<|AJ hb1 BI;clear hb1 BI C;go_wp2
 go_loopw [15] (fun iv wr=>jb 119 B b s1 f w xs iv wr) (fun iv _=>xs.length-(intOf iv).toNat)
 case atStart=>exact⟨0,zx,rfl,by simpa[cat]using H1.out.1,H1.out.2⟩
 case round=>
  obtain⟨q,hq,rfl,hbl,Af⟩:=hrel;have HB:=AC<|AJ hbl Af;by_cases hlt:q<xs.length
  ·have FD:=AC<|je f hlt;have LE:=jV f xs<|q+1;obtain⟨b1,o1,rfl,hx⟩:=HR.out.get q hlt;have hm:xs[q]∈xs:=QO hlt;obtain⟨hb1,p1,c1,p2,c2,p3,c3,k0,k1,k2,k3,hS⟩:=(hx.carry (Go.W.Below.carry Af.below lr) lr).vals;have hsz:=Ab hB Af.size;rw[FD.out,BM]at LE;have CC:=AC<|HH.out _ _ _ _ hm (hbl.alloc<|.cells #[.string xs[q].head.name,.slice p1 xs[q].head.terms.length c1,.slice p2 xs[q].body.length c2,.slice p3 xs[q].guards.length c3] 44) (Af.alloc hsz _) (Jy.carry hS<|Qk _ hsz) (by rw[BM,SZ.out];omega);clear hbl Af hx hm hS HH;go_wp2_with fail
   refine CC.out.mono ?_;rintro e w2 ⟨rfl,hb2,hw2⟩;have R:=AC<|AJ hb2<|(HB.out.2.alloc hsz _).trans hw2;clear hb2 hw2 CC;go_wp2
   go_roundw
   case rel=>exact⟨q+1,zx,by go_num,by rw[FD.out,<- Jl];exact R.out.1,R.out.2⟩
   case measure=>simp[intOf];omega
  ·obtain rfl:q=xs.length:=zx
   rw[On]at hbl;have Ey:=AC<|AJ hbl Af;clear hbl Af HB;go_wp2
   go_end0
   exact⟨rfl,EQ.out▸Ey.out.1,Ey.out.2⟩
def Zo4 (hen:Da K){f:(List R)->ByteArray}{xs:List (List R)}(h:DV 119 B b s w)(hs:s.size+(BO f xs).size<1000000000)(hrow:Ap 1 (Go.W.Rw B w<|D+1) p xs)(hB:B<=w.heap.size)
  (HC: ∀ u vs x s',x∈xs->DV 119 B b s' u->Fr B b w u->Wi B u D vs x->s'.size+(f x).size<1000000000->Calls prog K (first.push (.agg vs.toArray)++cap) u (LZ 119 B b (s'++f x) u)):
  Calls prog 123 #[zq b 0,.slice p xs.length c,.func (.func K) first cap] w (LZ 119 B b (s++BO f xs) w):=by
 have hl:=hrow.len;have HR:=AC hrow;have HH:=AC HC;have Dz: ∀ args w,(callFunc K args).run prog w= .ok (.enter K args) w:=hen;have hz:s.size+((Do xs.length).size+(cat f xs).size)<1000000000:=by rw[BO,BM]at hs;exact hs
 have EQ:AF (s++Do xs.length++cat f xs=s++BO f xs):=⟨by rw[BO,Jl]⟩;have C:=AC<|bN Ql h xs.length zx zx hB;have SZ:AF ((s++Do xs.length).size=s.size+(Do xs.length).size):=⟨BM _ _⟩;clear hrow HC hen h hs;generalize s++Do xs.length=s1 at*;go_in
 go_wp2_with fail
 refine C.out.mono ?_;rintro e w1 ⟨rfl,hb1,BI⟩;have H1:=AC<|AJ hb1 BI;clear hb1 BI C;go_wp2
 go_loopw [15] (fun iv wr=>jb 119 B b s1 f w xs iv wr) (fun iv _=>xs.length-(intOf iv).toNat)
 case atStart=>exact⟨0,zx,rfl,by simpa[cat]using H1.out.1,H1.out.2⟩
 case round=>
  obtain⟨q,hq,rfl,hbl,Af⟩:=hrel;have HB:=AC<|AJ hbl Af;by_cases hlt:q<xs.length
  ·have FD:=AC<|je f hlt;have LE:=jV f xs<|q+1;obtain⟨b1,o1,rfl,hx⟩:=HR.out.get q hlt;have hm:xs[q]∈xs:=QO hlt;obtain⟨hb1,p1,c1,k0,hS⟩:=(hx.carry (Go.W.Below.carry Af.below lr) lr).vals;have hsz:=Ab hB Af.size;rw[Nat.mul_one]at k0;rw[FD.out,BM]at LE;have CC:=AC<|HH.out _ _ _ _ hm (hbl.alloc<|.cells #[.slice p1 xs[q].length c1] 52) (Af.alloc hsz _) (Wi.carry hS<|Qk _ hsz) (by rw[BM,SZ.out];omega);clear hbl Af hx hm hS HH;go_wp2_with fail
   refine CC.out.mono ?_;rintro e w2 ⟨rfl,hb2,hw2⟩;have R:=AC<|AJ hb2<|(HB.out.2.alloc hsz _).trans hw2;clear hb2 hw2 CC;go_wp2
   go_roundw
   case rel=>exact⟨q+1,zx,by go_num,by rw[FD.out,<- Jl];exact R.out.1,R.out.2⟩
   case measure=>simp[intOf];omega
  ·obtain rfl:q=xs.length:=zx
   rw[On]at hbl;have Ey:=AC<|AJ hbl Af;clear hbl Af HB;go_wp2
   go_end0
   exact⟨rfl,EQ.out▸Ey.out.1,Ey.out.2⟩
end Go.P
