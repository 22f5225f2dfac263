import Derived.Test.YtmebjfclpalmaaaGreatDoorW02
set_option maxRecDepth 100000
set_option maxHeartbeats 8000000
set_option linter.unusedSimpArgs false
open Go.Proofs Go.RowKit Go.W Tryz
namespace Go.P
variable {K B D b c:Nat}{first cap:Array Value}{s:ByteArray}{w:World}{p:Option Addr}
theorem Zio (hen:Zaq K){f:T->ByteArray}{xs:List T}(h:Bld 142 B b s w)(hs:s.size+(Zaz f xs).size < 1000000000)(hrow:Zan 4 (Zbl B w (D+1)) p xs)(hB:B<=w.heap.size)
  (HC: ∀ u vs x s',x∈xs->Bld 142 B b s' u->Fr B b w u->Zc2 B u D vs x->s'.size+(f x).size < 1000000000->Calls prog K (first.push (.agg vs.toArray)++cap) u (Zf8 142 B b (s'++f x) u)):
  Calls prog 154 #[.pointer (some ⟨b,0,none⟩),.slice p xs.length c,.func (.func K) first cap] w (Zf8 142 B b (s++Zaz f xs) w):=by
 have hl:=hrow.len;have HR:=Zaa hrow;have HH:=Zaa HC;have hen': ∀ args w,(callFunc K args).run prog w= .ok (.enter K args) w:=hen;have hz:s.size+((Zel xs.length).size+(cat f xs).size) < 1000000000:=by rw[Zaz,Zae]at hs;exact hs
 have EQ:Box (s++Zel xs.length++cat f xs=s++Zaz f xs):=⟨by rw[Zaz,Zay]⟩;have C:=Zaa (Zea Zfi h xs.length (by omega) (by omega) hB);have SZ:Box ((s++Zel xs.length).size=s.size+(Zel xs.length).size):=⟨Zae _ _⟩;clear hrow HC hen h hs;generalize s++Zel xs.length=s1 at*;go_in
 go_wp2_with fail
 refine C.out.mono ?_;rintro e w1 ⟨rfl,hb1,hw1⟩;have H1:=Zaa (Yda hb1 hw1);clear hb1 hw1 C;go_wp2
 go_loopw [15] (fun iv wr=>Zlj 142 B b s1 f w xs iv wr) (fun iv _=>xs.length - (intOf iv).toNat)
 case atStart=>exact⟨0,by omega,rfl,by simpa[cat]using H1.out.1,H1.out.2⟩
 case round=>
  obtain⟨q,hq,rfl,hbl,hbw⟩:=hrel;have HB:=Zaa (Yda hbl hbw);by_cases hlt:q < xs.length
  ·have FD:=Zaa (Zgc f hlt);have LE:=Zqj f xs (q+1);obtain⟨b1,o1,rfl,hx⟩:=HR.out.get q hlt;have hm:xs[q]∈xs:=Yel hlt;obtain⟨hb1,p1,c1,k0,k1,k2,k3,hS⟩:=(hx.carry (Go.W.Below.carry hbw.below lr) lr).vals;have hsz:=Ydc hB hbw.size;rw[FD.out,Zae]at LE;have CC:=Zaa (HH.out _ _ _ _ hm (hbl.alloc (.cells #[.int .i64 xs[q].k,.int .i64 xs[q].i,.string xs[q].t,.slice p1 xs[q].l.length c1] 117)) (hbw.alloc hsz _) (Zc2.carry hS (Zfj _ hsz)) (by rw[Zae,SZ.out];omega));clear hbl hbw hx hm hS HH;go_wp2_with fail
   refine CC.out.mono ?_;rintro e w2 ⟨rfl,hb2,hw2⟩;have R:=Zaa (Yda hb2 ((HB.out.2.alloc hsz _).trans hw2));clear hb2 hw2 CC;go_wp2
   go_roundw
   case rel=>exact⟨q+1,by omega,by go_num,by rw[FD.out,<- Zay];exact R.out.1,R.out.2⟩
   case measure=>simp[intOf];omega
  ·obtain rfl:q=xs.length:=by omega
   rw[Yek]at hbl;have HB2:=Zaa (Yda hbl hbw);clear hbl hbw HB;go_wp2
   go_end0
   exact⟨rfl,EQ.out▸HB2.out.1,HB2.out.2⟩
theorem Zim (hen:Zaq K){f:A->ByteArray}{xs:List A}(h:Bld 142 B b s w)(hs:s.size+(Zaz f xs).size < 1000000000)(hrow:Zan 2 (Zbb B w (D+1)) p xs)(hB:B<=w.heap.size)
  (HC: ∀ u vs x s',x∈xs->Bld 142 B b s' u->Fr B b w u->Ze4 B u D vs x->s'.size+(f x).size < 1000000000->Calls prog K (first.push (.agg vs.toArray)++cap) u (Zf8 142 B b (s'++f x) u)):
  Calls prog 115 #[.pointer (some ⟨b,0,none⟩),.slice p xs.length c,.func (.func K) first cap] w (Zf8 142 B b (s++Zaz f xs) w):=by
 have hl:=hrow.len;have HR:=Zaa hrow;have HH:=Zaa HC;have hen': ∀ args w,(callFunc K args).run prog w= .ok (.enter K args) w:=hen;have hz:s.size+((Zel xs.length).size+(cat f xs).size) < 1000000000:=by rw[Zaz,Zae]at hs;exact hs
 have EQ:Box (s++Zel xs.length++cat f xs=s++Zaz f xs):=⟨by rw[Zaz,Zay]⟩;have C:=Zaa (Zea Zfi h xs.length (by omega) (by omega) hB);have SZ:Box ((s++Zel xs.length).size=s.size+(Zel xs.length).size):=⟨Zae _ _⟩;clear hrow HC hen h hs;generalize s++Zel xs.length=s1 at*;go_in
 go_wp2_with fail
 refine C.out.mono ?_;rintro e w1 ⟨rfl,hb1,hw1⟩;have H1:=Zaa (Yda hb1 hw1);clear hb1 hw1 C;go_wp2
 go_loopw [15] (fun iv wr=>Zlj 142 B b s1 f w xs iv wr) (fun iv _=>xs.length - (intOf iv).toNat)
 case atStart=>exact⟨0,by omega,rfl,by simpa[cat]using H1.out.1,H1.out.2⟩
 case round=>
  obtain⟨q,hq,rfl,hbl,hbw⟩:=hrel;have HB:=Zaa (Yda hbl hbw);by_cases hlt:q < xs.length
  ·have FD:=Zaa (Zgc f hlt);have LE:=Zqj f xs (q+1);obtain⟨b1,o1,rfl,hx⟩:=HR.out.get q hlt;have hm:xs[q]∈xs:=Yel hlt;obtain⟨hb1,p1,c1,k0,k1,hS⟩:=(hx.carry (Go.W.Below.carry hbw.below lr) lr).vals;have hsz:=Ydc hB hbw.size;rw[FD.out,Zae]at LE;have CC:=Zaa (HH.out _ _ _ _ hm (hbl.alloc (.cells #[.string xs[q].name,.slice p1 xs[q].terms.length c1] 112)) (hbw.alloc hsz _) (Ze4.carry hS (Zfj _ hsz)) (by rw[Zae,SZ.out];omega));clear hbl hbw hx hm hS HH;go_wp2_with fail
   refine CC.out.mono ?_;rintro e w2 ⟨rfl,hb2,hw2⟩;have R:=Zaa (Yda hb2 ((HB.out.2.alloc hsz _).trans hw2));clear hb2 hw2 CC;go_wp2
   go_roundw
   case rel=>exact⟨q+1,by omega,by go_num,by rw[FD.out,<- Zay];exact R.out.1,R.out.2⟩
   case measure=>simp[intOf];omega
  ·obtain rfl:q=xs.length:=by omega
   rw[Yek]at hbl;have HB2:=Zaa (Yda hbl hbw);clear hbl hbw HB;go_wp2
   go_end0
   exact⟨rfl,EQ.out▸HB2.out.1,HB2.out.2⟩
theorem Zmv (hen:Zaq K){f:G->ByteArray}{xs:List G}(h:Bld 142 B b s w)(hs:s.size+(Zaz f xs).size < 1000000000)(hrow:Zan 9 (Zct B w (D+1)) p xs)(hB:B<=w.heap.size)
  (HC: ∀ u vs x s',x∈xs->Bld 142 B b s' u->Fr B b w u->Zgb B u D vs x->s'.size+(f x).size < 1000000000->Calls prog K (first.push (.agg vs.toArray)++cap) u (Zf8 142 B b (s'++f x) u)):
  Calls prog 195 #[.pointer (some ⟨b,0,none⟩),.slice p xs.length c,.func (.func K) first cap] w (Zf8 142 B b (s++Zaz f xs) w):=by
 have hl:=hrow.len;have HR:=Zaa hrow;have HH:=Zaa HC;have hen': ∀ args w,(callFunc K args).run prog w= .ok (.enter K args) w:=hen;have hz:s.size+((Zel xs.length).size+(cat f xs).size) < 1000000000:=by rw[Zaz,Zae]at hs;exact hs
 have EQ:Box (s++Zel xs.length++cat f xs=s++Zaz f xs):=⟨by rw[Zaz,Zay]⟩;have C:=Zaa (Zea Zfi h xs.length (by omega) (by omega) hB);have SZ:Box ((s++Zel xs.length).size=s.size+(Zel xs.length).size):=⟨Zae _ _⟩;clear hrow HC hen h hs;generalize s++Zel xs.length=s1 at*;go_in
 go_wp2_with fail
 refine C.out.mono ?_;rintro e w1 ⟨rfl,hb1,hw1⟩;have H1:=Zaa (Yda hb1 hw1);clear hb1 hw1 C;go_wp2
 go_loopw [15] (fun iv wr=>Zlj 142 B b s1 f w xs iv wr) (fun iv _=>xs.length - (intOf iv).toNat)
 case atStart=>exact⟨0,by omega,rfl,by simpa[cat]using H1.out.1,H1.out.2⟩
 case round=>
  obtain⟨q,hq,rfl,hbl,hbw⟩:=hrel;have HB:=Zaa (Yda hbl hbw);by_cases hlt:q < xs.length
  ·have FD:=Zaa (Zgc f hlt);have LE:=Zqj f xs (q+1);obtain⟨b1,o1,rfl,hx⟩:=HR.out.get q hlt;have hm:xs[q]∈xs:=Yel hlt;obtain⟨hb1,p1,c1,p2,c2,k0,k1,k2,k3,k4,k5,k6,k7,k8,hS⟩:=(hx.carry (Go.W.Below.carry hbw.below lr) lr).vals;have hsz:=Ydc hB hbw.size;rw[FD.out,Zae]at LE;have CC:=Zaa (HH.out _ _ _ _ hm (hbl.alloc (.cells #[.int .i64 xs[q].op,.int .i64 xs[q].a.k,.int .i64 xs[q].a.i,.string xs[q].a.t,.slice p1 xs[q].a.l.length c1,.int .i64 xs[q].b.k,.int .i64 xs[q].b.i,.string xs[q].b.t,.slice p2 xs[q].b.l.length c2] 119)) (hbw.alloc hsz _) (Zgb.carry hS (Zfj _ hsz)) (by rw[Zae,SZ.out];omega));clear hbl hbw hx hm hS HH;go_wp2_with fail
   refine CC.out.mono ?_;rintro e w2 ⟨rfl,hb2,hw2⟩;have R:=Zaa (Yda hb2 ((HB.out.2.alloc hsz _).trans hw2));clear hb2 hw2 CC;go_wp2
   go_roundw
   case rel=>exact⟨q+1,by omega,by go_num,by rw[FD.out,<- Zay];exact R.out.1,R.out.2⟩
   case measure=>simp[intOf];omega
  ·obtain rfl:q=xs.length:=by omega
   rw[Yek]at hbl;have HB2:=Zaa (Yda hbl hbw);clear hbl hbw HB;go_wp2
   go_end0
   exact⟨rfl,EQ.out▸HB2.out.1,HB2.out.2⟩
theorem Zin (hen:Zaq K){f:R->ByteArray}{xs:List R}(h:Bld 142 B b s w)(hs:s.size+(Zaz f xs).size < 1000000000)(hrow:Zan 4 (Zb5 B w (D+1)) p xs)(hB:B<=w.heap.size)
  (HC: ∀ u vs x s',x∈xs->Bld 142 B b s' u->Fr B b w u->Zf7 B u D vs x->s'.size+(f x).size < 1000000000->Calls prog K (first.push (.agg vs.toArray)++cap) u (Zf8 142 B b (s'++f x) u)):
  Calls prog 117 #[.pointer (some ⟨b,0,none⟩),.slice p xs.length c,.func (.func K) first cap] w (Zf8 142 B b (s++Zaz f xs) w):=by
 have hl:=hrow.len;have HR:=Zaa hrow;have HH:=Zaa HC;have hen': ∀ args w,(callFunc K args).run prog w= .ok (.enter K args) w:=hen;have hz:s.size+((Zel xs.length).size+(cat f xs).size) < 1000000000:=by rw[Zaz,Zae]at hs;exact hs
 have EQ:Box (s++Zel xs.length++cat f xs=s++Zaz f xs):=⟨by rw[Zaz,Zay]⟩;have C:=Zaa (Zea Zfi h xs.length (by omega) (by omega) hB);have SZ:Box ((s++Zel xs.length).size=s.size+(Zel xs.length).size):=⟨Zae _ _⟩;clear hrow HC hen h hs;generalize s++Zel xs.length=s1 at*;go_in
 go_wp2_with fail
 refine C.out.mono ?_;rintro e w1 ⟨rfl,hb1,hw1⟩;have H1:=Zaa (Yda hb1 hw1);clear hb1 hw1 C;go_wp2
 go_loopw [15] (fun iv wr=>Zlj 142 B b s1 f w xs iv wr) (fun iv _=>xs.length - (intOf iv).toNat)
 case atStart=>exact⟨0,by omega,rfl,by simpa[cat]using H1.out.1,H1.out.2⟩
 case round=>
  obtain⟨q,hq,rfl,hbl,hbw⟩:=hrel;have HB:=Zaa (Yda hbl hbw);by_cases hlt:q < xs.length
  ·have FD:=Zaa (Zgc f hlt);have LE:=Zqj f xs (q+1);obtain⟨b1,o1,rfl,hx⟩:=HR.out.get q hlt;have hm:xs[q]∈xs:=Yel hlt;obtain⟨hb1,p1,c1,p2,c2,p3,c3,k0,k1,k2,k3,hS⟩:=(hx.carry (Go.W.Below.carry hbw.below lr) lr).vals;have hsz:=Ydc hB hbw.size;rw[FD.out,Zae]at LE;have CC:=Zaa (HH.out _ _ _ _ hm (hbl.alloc (.cells #[.string xs[q].head.name,.slice p1 xs[q].head.terms.length c1,.slice p2 xs[q].body.length c2,.slice p3 xs[q].guards.length c3] 115)) (hbw.alloc hsz _) (Zf7.carry hS (Zfj _ hsz)) (by rw[Zae,SZ.out];omega));clear hbl hbw hx hm hS HH;go_wp2_with fail
   refine CC.out.mono ?_;rintro e w2 ⟨rfl,hb2,hw2⟩;have R:=Zaa (Yda hb2 ((HB.out.2.alloc hsz _).trans hw2));clear hb2 hw2 CC;go_wp2
   go_roundw
   case rel=>exact⟨q+1,by omega,by go_num,by rw[FD.out,<- Zay];exact R.out.1,R.out.2⟩
   case measure=>simp[intOf];omega
  ·obtain rfl:q=xs.length:=by omega
   rw[Yek]at hbl;have HB2:=Zaa (Yda hbl hbw);clear hbl hbw HB;go_wp2
   go_end0
   exact⟨rfl,EQ.out▸HB2.out.1,HB2.out.2⟩
theorem Zmu (hen:Zaq K){f:(List R)->ByteArray}{xs:List (List R)}(h:Bld 142 B b s w)(hs:s.size+(Zaz f xs).size < 1000000000)(hrow:Zan 1 (Go.W.Zhj B w (D+1)) p xs)(hB:B<=w.heap.size)
  (HC: ∀ u vs x s',x∈xs->Bld 142 B b s' u->Fr B b w u->Zh9 B u D vs x->s'.size+(f x).size < 1000000000->Calls prog K (first.push (.agg vs.toArray)++cap) u (Zf8 142 B b (s'++f x) u)):
  Calls prog 119 #[.pointer (some ⟨b,0,none⟩),.slice p xs.length c,.func (.func K) first cap] w (Zf8 142 B b (s++Zaz f xs) w):=by
 have hl:=hrow.len;have HR:=Zaa hrow;have HH:=Zaa HC;have hen': ∀ args w,(callFunc K args).run prog w= .ok (.enter K args) w:=hen;have hz:s.size+((Zel xs.length).size+(cat f xs).size) < 1000000000:=by rw[Zaz,Zae]at hs;exact hs
 have EQ:Box (s++Zel xs.length++cat f xs=s++Zaz f xs):=⟨by rw[Zaz,Zay]⟩;have C:=Zaa (Zea Zfi h xs.length (by omega) (by omega) hB);have SZ:Box ((s++Zel xs.length).size=s.size+(Zel xs.length).size):=⟨Zae _ _⟩;clear hrow HC hen h hs;generalize s++Zel xs.length=s1 at*;go_in
 go_wp2_with fail
 refine C.out.mono ?_;rintro e w1 ⟨rfl,hb1,hw1⟩;have H1:=Zaa (Yda hb1 hw1);clear hb1 hw1 C;go_wp2
 go_loopw [15] (fun iv wr=>Zlj 142 B b s1 f w xs iv wr) (fun iv _=>xs.length - (intOf iv).toNat)
 case atStart=>exact⟨0,by omega,rfl,by simpa[cat]using H1.out.1,H1.out.2⟩
 case round=>
  obtain⟨q,hq,rfl,hbl,hbw⟩:=hrel;have HB:=Zaa (Yda hbl hbw);by_cases hlt:q < xs.length
  ·have FD:=Zaa (Zgc f hlt);have LE:=Zqj f xs (q+1);obtain⟨b1,o1,rfl,hx⟩:=HR.out.get q hlt;have hm:xs[q]∈xs:=Yel hlt;obtain⟨hb1,p1,c1,k0,hS⟩:=(hx.carry (Go.W.Below.carry hbw.below lr) lr).vals;have hsz:=Ydc hB hbw.size;rw[Nat.mul_one]at k0;rw[FD.out,Zae]at LE;have CC:=Zaa (HH.out _ _ _ _ hm (hbl.alloc (.cells #[.slice p1 xs[q].length c1] 72)) (hbw.alloc hsz _) (Zh9.carry hS (Zfj _ hsz)) (by rw[Zae,SZ.out];omega));clear hbl hbw hx hm hS HH;go_wp2_with fail
   refine CC.out.mono ?_;rintro e w2 ⟨rfl,hb2,hw2⟩;have R:=Zaa (Yda hb2 ((HB.out.2.alloc hsz _).trans hw2));clear hb2 hw2 CC;go_wp2
   go_roundw
   case rel=>exact⟨q+1,by omega,by go_num,by rw[FD.out,<- Zay];exact R.out.1,R.out.2⟩
   case measure=>simp[intOf];omega
  ·obtain rfl:q=xs.length:=by omega
   rw[Yek]at hbl;have HB2:=Zaa (Yda hbl hbw);clear hbl hbw HB;go_wp2
   go_end0
   exact⟨rfl,EQ.out▸HB2.out.1,HB2.out.2⟩
end Go.P
namespace Go.W
theorem Zge {α:Type}{f:α->Int}{l:List α}(h:Za2 f l=0): ∀ x,x∈l->f x=0:=by
 induction l with
 | nil=>intro x hx;cases hx
 | cons y r ih=>
  rw[Za2]at h;intro x hx;by_cases hy:f y=0
  ·rw[if_neg (by omega)]at h;rcases Ydj.1 hx with rfl | hx
   ·exact hy
   ·exact ih h x hx
  ·rw[if_pos hy]at h;exact absurd h hy
theorem okT {d:Nat}{x:T}(h:Zau d x=0):x.t.size<=64/\x.l.length<=6/\(∀ y,y∈x.l->Zau (d+1) y=0)/\((x.k=1\/x.k=3\/x.k=4)\/(x.k=2\/x.k=5)\/(x.k=6/\(x.i=0\/x.i=1))\/(x.k=7/\d≠3)):=by
 rw[Zlf]at h;by_cases ho:Zyv d x.k x.i x.t x.l.length=0
 ·rw[if_neg (by omega)]at h;refine⟨?_,?_,fun y hy=>Zge h y hy,?_⟩;all_goals
   unfold Zyv at ho;split at ho
   ·cases ho
   ·rename_i hf;split at ho
    ·cases ho
    ·rename_i h4;split at ho
     ·cases ho
     rename_i h3;first
      | omega
      | (have hf:Zh2 x.k x.i x.t x.l.length=true:=(by cases hq:Zh2 x.k x.i x.t x.l.length with | true=>rfl | false=>exact absurd (Or.inl hq) hf);unfold Zh2 Zwd at hf;(repeat' split at hf) <;> simp_all)
 ·rw[if_pos ho]at h;exact absurd h ho
end Go.W
namespace Go.P
theorem Zl8:Zaq 155:=Zam func155 (by kernel_rfl) rfl
def Zfu (d:Nat):Prop:= ∀ {B D b:Nat} {s:ByteArray} {w:World} {vs:List Value} {x:T},Bld 142 B b s w->B<=w.heap.size->Zc2 B w D vs x->Zau d x=0->s.size+(Zed x).size < 1000000000->Calls prog 155 #[.pointer (some ⟨b,0,none⟩),.agg vs.toArray] w (Zf8 142 B b (s++Zed x) w)
theorem Zi8 {d:Nat}(hd:d<=3)(ih:d < 3->Zfu (d+1)):Zfu d:=by
 intro B D b s w vs x h hB hS hok hs;obtain⟨h64,h6,hin,hk⟩:=okT hok;obtain⟨p,c,rfl,ht,hk64,hi64,hc,hrow⟩:=hS;have P:=Zaa (Zw2 x);have B0:=Zaa ((Fr.refl B b w).alloc hB (.cells #[.int .i64 x.k,.int .i64 x.i,.string x.t,.slice p x.l.length c] 117));have H0:=Zaa (h.alloc (.cells #[.int .i64 x.k,.int .i64 x.i,.string x.t,.slice p x.l.length c] 117));have hbw:b < w.heap.size:=by obtain⟨_,_,_,q,_,_⟩:=h.form;exact q.lt
 obtain⟨k,hkk,hk8⟩: ∃ k:Nat,x.k=(k:Int)/\k < 8:=⟨x.k.toNat,by omega,by omega⟩;have hsk:s.size+1+((Zed x).size - 1) < 1000000000/\1<=(Zed x).size:=by
  have:1<=(Zed x).size:=by rw[P.out,Zae,Zco];omega
  omega
 have hw8:IntKind.u8.wrap (k:Int)=(k:Int):=by simp[IntKind.wrap_u8'];omega
 have hk256:(x.k % 256).toNat=k:=by omega
 rw[hk256]at P;rw[hkk]at H0 B0 P hk⊢;have CW:=Zaa (Zdt Zfi H0.out.drew k (by omega) (by omega) (Ydc hB B0.out.drew.size));have L0:=Zaa (Blk.new w #[.int .i64 (k:Int),.int .i64 x.i,.string x.t,.slice p x.l.length c] 117);have FIN:Box (∀ {y:ByteArray},Zed x=b1 k++y->s++b1 k++y=s++Zed x):=⟨fun h=>by rw[h,Zay]⟩;clear h hok;go_in
 go_wp2
 go_region_with (go_at_call 60;refine CW.out.mono ?_;rintro e w1 ⟨rfl,hb1,hw1⟩)
 have R:=Zaa (Yda hb1 (B0.out.drew.trans hw1));obtain⟨y0,y1,y2,y3,sf⟩:=(hw1.blk (L:=w.heap.size) L0.out (by omega) (by decide)).four;have hB1:=Ydc hB R.out.2.size;clear hb1 hw1 CW H0 B0;rcases hk with hk | hk | hk | hk
 ·have E:=Zaa (FIN.out (y:=Zb4 x.t) (by rw[P.out,if_neg (by omega),if_neg (by omega),if_neg (by omega)]));have CT:=Zaa (Zsv Zfi R.out.1 x.t (by rw[Zae,Zco];have:=congrArg ByteArray.size E.out;rw[Zae,Zae,Zco,Zae]at this;omega) hB1);have g1:((k:Int)==2)=false:=by rw[Ye4];omega
  have g2:((k:Int)==5)=false:=by rw[Ye4];omega
  have g3:((k:Int)==6)=false:=by rw[Ye4];omega
  have g4:((k:Int)==7)=false:=by rw[Ye4];omega
  clear hk P FIN hin hrow;go_wp2_with fail
  refine CT.out.mono ?_;rintro e w2 ⟨rfl,hb2,hw2⟩;go_wp2
  go_end0
  exact⟨rfl,E.out▸hb2,R.out.2.trans hw2⟩
 ·have E:=Zaa (FIN.out (y:=Zel (Zjg x.i)) (by rw[P.out,if_pos hk]));have hfold:Zjg x.i < 18446744073709551616:=by obtain⟨h1,h2⟩:=hi64;unfold Zjg;split <;> omega
  have CN:=Zaa (Zea Zfi R.out.1 (Zjg x.i) hfold (by rw[Zae,Zco];have:=congrArg ByteArray.size E.out;rw[Zae,Zae,Zco,Zae]at this;omega) hB1);have CF:=Zaa (Z0h x.i hi64);clear P FIN hin hrow;rcases hk with hk | hk;all_goals
   obtain rfl:k=_:=Int.ofNat.inj hk;go_wp2_with (first | (go_at_call 194;refine(CF.out _).mono ?_;rintro e w2 ⟨rfl,rfl⟩) | (go_at_call 105;refine CN.out.mono ?_;rintro e w3 ⟨rfl,hb2,hw2⟩))
   go_end0
   exact⟨rfl,E.out▸hb2,R.out.2.trans hw2⟩
 ·obtain⟨hk,hi⟩:=hk;obtain rfl:k=6:=Int.ofNat.inj hk;obtain⟨i,hii,hi2⟩: ∃ i:Nat,x.i=(i:Int)/\i < 2:=⟨x.i.toNat,by omega,by omega⟩;have E:=Zaa (FIN.out (y:=b1 i) (by rw[P.out,if_neg (by omega),if_pos hk,hii];congr 2;omega));rw[hii]at y1;have hwi:IntKind.u8.wrap (i:Int)=(i:Int):=by simp[IntKind.wrap_u8'];omega
  have CN:=Zaa (Zdt Zfi R.out.1.drew i (by omega) (by rw[Zae,Zco];omega) hB1);clear P FIN hin hrow hk hi hii;go_wp2
  go_region_with (go_at_call 60;refine CN.out.mono ?_;rintro e w2 ⟨rfl,hb2,hw2⟩)
  go_wp2
  go_end0
  exact⟨rfl,E.out▸hb2,R.out.2.drew.trans hw2⟩
 ·obtain⟨hk,hd3⟩:=hk;have ih:= @ih (by omega);obtain rfl:k=7:=Int.ofNat.inj hk;have E:=Zaa (FIN.out (y:=Zaz Zed x.l) (by rw[P.out,if_neg (by omega),if_neg (by omega),if_pos hk]));have CM:=Zaa (Zio (c:=c) (B:=B) (D:=D) Zl8 (first:=#[.pointer (some ⟨b,0,none⟩)]) (cap:=#[]) (f:=Zed) R.out.1 (by rw[Zae,Zco];have:=congrArg ByteArray.size E.out;rw[Zae,Zae,Zco,Zae]at this;omega) (hrow.carry fun _ _ _ r=>r.carry (Go.W.Below.carry R.out.2.below lr) (Yet D)) hB1 fun u vs y s' hy hu hf hS hz=>ih hu (Ydc hB1 hf.size) hS (hin y hy) hz);have hmf: ∀ (fn:Fn) (first cap:Array Value) (w:World),(Instr.makeFunc fn first cap).run prog w= .ok (.func fn first cap) w:=fun _ _ _ _=>rfl;clear P FIN hin hrow hk ih;go_wp2_with fail
  refine CM.out.mono ?_;rintro e w2 ⟨rfl,hb2,hw2⟩;go_wp2
  go_end0
  exact⟨rfl,E.out▸hb2,R.out.2.trans hw2⟩
theorem Zko: ∀ d,d<=3->Zfu d:=by
 have h3:Zfu 3:=Zi8 (by omega) fun h=>absurd h (by omega);have h2:Zfu 2:=Zi8 (by omega) fun _=> @h3;have h1:Zfu 1:=Zi8 (by omega) fun _=> @h2;have h0:Zfu 0:=Zi8 (by omega) fun _=> @h1;intro d hd;match d,hd with
 | 0,_=>exact @h0
 | 1,_=>exact @h1
 | 2,_=>exact @h2
 | 3,_=>exact @h3
end Go.P
namespace Go.W
theorem Zbz {α:Type}{f:α->Int}{m:Nat}{l:List α}(h:Zb3 f m l=0):l.length<=m/\ ∀ x,x∈l->f x=0:=by
 unfold Zb3 at h;by_cases hm:m < l.length
 ·rw[if_pos hm]at h;cases h
 ·rw[if_neg hm]at h;exact⟨by omega,Zge h⟩
theorem Zeh {a b:Int}(h:(if a≠0 then a else b)=0):a=0/\b=0:=by
 by_cases ha:a=0
 ·rw[if_neg (by omega)]at h;exact⟨ha,h⟩
 ·rw[if_pos ha]at h;exact absurd h ha
theorem okA {x:A}(h:Zcs x=0):x.name.size<=16/\x.terms.length<=6/\ ∀ y,y∈x.terms->Zau 0 y=0:=by
 unfold Zcs at h;by_cases hn:Zdm x.name=false
 ·rw[if_pos hn]at h;cases h
 ·rw[if_neg hn]at h;refine⟨?_,Zbz h⟩
  have:Zdm x.name=true:=by cases hq:Zdm x.name with
   | true=>rfl
   | false=>exact absurd hq hn
  unfold Zdm at this;simp at this;omega
theorem okG {body:List A}{x:G}(h:Zfl body x=0):1<=x.op/\x.op<=7/\Zau 0 x.a=0/\Zau 0 x.b=0:=by
 unfold Zfl at h;by_cases hn:x.op < 1\/7 < x.op
 ·rw[if_pos hn]at h;cases h
 ·rw[if_neg hn]at h;obtain⟨h1,h2⟩:=Zeh h;exact⟨by omega,by omega,(Zeh h1).1,(Zeh h2).1⟩
theorem Yc6 {x:List R}(h:Zba x=0): ∀ y,y∈x->Zbo y=0:=by
 unfold Zba at h;split at h
 ·cases h
 ·intro y hy
  have:=(Zbz h).2 y hy
  unfold Zc9 at this;split at this
  ·cases this
  ·exact this
theorem okB {x:R}(h:Zbo x=0):x.body.length<=4/\x.guards.length<=4/\(∀ y,y∈x.body->Zcs y=0)/\ ∀ y,y∈x.guards->Zfl x.body y=0:=by
 unfold Zbo at h;split at h
 ·cases h
 ·split at h
  ·cases h
  ·obtain⟨h1,h2⟩:=Zeh h;exact⟨by omega,by omega,Zge h1,Zge h2⟩
end Go.W
namespace Go.P
variable {B D b:Nat}{s:ByteArray}{w:World}{vs:List Value}{x:R}
theorem Zgm: ∀ (fn:Fn) (first cap:Array Value) (w:World),(Instr.makeFunc fn first cap).run prog w= .ok (.func fn first cap) w:=fun _ _ _ _=>rfl
theorem Zl7:Zaq 116:=Zam func116 (by kernel_rfl) rfl
theorem Zr3:Zaq 196:=Zam func196 (by kernel_rfl) rfl
theorem Zty:Zaq 156:=Zam func156 (by kernel_rfl) rfl
theorem Zt0:Zaq 118:=Zam func118 (by kernel_rfl) rfl
theorem Zr2:Zaq 120:=Zam func120 (by kernel_rfl) rfl
theorem Znv {x:A}(h:Bld 142 B b s w)(hB:B<=w.heap.size)(hS:Ze4 B w D vs x)(hok:Zcs x=0)(hs:s.size+(Zli x).size < 1000000000):
  Calls prog 116 #[.pointer (some ⟨b,0,none⟩),.agg vs.toArray] w (Zf8 142 B b (s++Zli x) w):=by
 obtain⟨hn,hl,hin⟩:=okA hok;obtain⟨p,c,rfl,ht,hc,hrow⟩:=hS;have hz:s.size+((Zb4 x.name).size+(Zaz Zed x.terms).size) < 1000000000:=by rw[Zli,Zae]at hs;exact hs
 have E:Box (s++Zb4 x.name++Zaz Zed x.terms=s++Zli x):=⟨by rw[Zli,Zay]⟩;have B0:=Zaa ((Fr.refl B b w).alloc hB (.cells #[.string x.name,.slice p x.terms.length c] 112));have CT:=Zaa (Zsv Zfi (h.alloc (.cells #[.string x.name,.slice p x.terms.length c] 112)) x.name (by omega) (Ydc hB B0.out.size));have hbw:b < w.heap.size:=by obtain⟨_,_,_,q,_,_⟩:=h.form;exact q.lt
 have L0:=Zaa (Blk.new w #[.string x.name,.slice p x.terms.length c] 112);have hmf:=Zgm;have CM:=Zaa (fun u (hu:Bld 142 B b (s++Zb4 x.name) u) (hf:Fr B b w u)=>Zio (c:=c) (B:=B) (D:=D) Zl8 (first:=#[.pointer (some ⟨b,0,none⟩)]) (cap:=#[]) (f:=Zed) hu (by rw[Zae];omega) (hrow.carry fun _ _ _ r=>r.carry (Go.W.Below.carry hf.below lr) lr) (Ydc hB hf.size) fun u2 vs y s' hy hu2 hf2 hS hz=>Zko 0 (by omega) hu2 (Ydc hB (Ydc hf.size hf2.size)) hS (hin y hy) hz);clear h hrow hin hok hs hz;go_in
 go_wp2_with fail
 refine CT.out.mono ?_;rintro e w1 ⟨rfl,hb1,hw1⟩;have R:=Zaa (Yda hb1 (B0.out.trans hw1));obtain⟨y0,y1,sf⟩:=(hw1.blk (L:=w.heap.size) L0.out (by omega) (by decide)).two;have C2:=Zaa (CM.out _ hb1 R.out.2);clear hb1 hw1 CT CM;go_wp2_with fail
 refine C2.out.mono ?_;rintro e w2 ⟨rfl,hb2,hw2⟩;go_wp2
 go_end0
 exact⟨rfl,E.out▸hb2,R.out.2.trans hw2⟩
theorem Z0f {x:G}{body:List A}(h:Bld 142 B b s w)(hB:B<=w.heap.size)(hS:Zgb B w D vs x)(hok:Zfl body x=0)(hs:s.size+(Zvh x).size < 1000000000):
  Calls prog 196 #[.pointer (some ⟨b,0,none⟩),.agg vs.toArray] w (Zf8 142 B b (s++Zvh x) w):=by
 obtain⟨h1,h7,hra,hrb⟩:=okG hok;obtain⟨va,vb,rfl,ho,ha,hb⟩:=hS;obtain⟨op,hop,hop8⟩: ∃ k:Nat,x.op=(k:Int)/\k < 8:=⟨x.op.toNat,by omega,by omega⟩;have hpo:(x.op % 256).toNat=op:=by omega
 have hz:s.size+(1+(Zed x.a).size+(Zed x.b).size) < 1000000000:=by rw[Zvh,Zae,Zae,Zco]at hs;exact hs
 have E:Box (s++b1 op++Zed x.a++Zed x.b=s++Zvh x):=⟨by rw[Zvh,hpo,Zay,Zay,Zay]⟩;have hbw:b < w.heap.size:=by obtain⟨_,_,_,q,_,_⟩:=h.form;exact q.lt
 have CA:=Zaa (fun u (hu:Bld 142 B b (s++b1 op) u) (hf:Fr B b w u)=>Zko 0 (by omega) hu (Ydc hB hf.size) (Zc2.carry ha (Go.W.Below.carry hf.below lr)) hra (by rw[Zae,Zco];omega));have CB:=Zaa (fun u (hu:Bld 142 B b (s++b1 op++Zed x.a) u) (hf:Fr B b w u)=>Zko 0 (by omega) hu (Ydc hB hf.size) (Zc2.carry hb (Go.W.Below.carry hf.below lr)) hrb (by rw[Zae,Zae,Zco];omega));obtain⟨p1,c1,rfl,_⟩:=ha;obtain⟨p2,c2,rfl,_⟩:=hb;rw[hop];have B0:=Zaa ((Fr.refl B b w).alloc hB (.cells #[.int .i64 (op:Int),.int .i64 x.a.k,.int .i64 x.a.i,.string x.a.t,.slice p1 x.a.l.length c1,.int .i64 x.b.k,.int .i64 x.b.i,.string x.b.t,.slice p2 x.b.l.length c2] 119));have L0:=Zaa (Blk.new w #[.int .i64 (op:Int),.int .i64 x.a.k,.int .i64 x.a.i,.string x.a.t,.slice p1 x.a.l.length c1,.int .i64 x.b.k,.int .i64 x.b.i,.string x.b.t,.slice p2 x.b.l.length c2] 119);have CW:=Zaa (Zdt Zfi (h.alloc (.cells #[.int .i64 (op:Int),.int .i64 x.a.k,.int .i64 x.a.i,.string x.a.t,.slice p1 x.a.l.length c1,.int .i64 x.b.k,.int .i64 x.b.i,.string x.b.t,.slice p2 x.b.l.length c2] 119)).drew op (by omega) (by omega) (Ydc hB B0.out.drew.size));have hw8:IntKind.u8.wrap (op:Int)=(op:Int):=by simp[IntKind.wrap_u8'];omega
 clear h hok hs hz hop hpo ho h1 h7;go_in
 go_wp2
 go_region_with (go_at_call 60;refine CW.out.mono ?_;rintro e w1 ⟨rfl,hb1,hw1⟩)
 have R:=Zaa (B0.out.drew.trans hw1);have L1:=Zaa (hw1.blk (L:=w.heap.size) L0.out (by omega) (by decide));obtain⟨y0,y1,y2,y3,y4,y5,y6,y7,y8,sf⟩:=L1.out.nine;have C1:=Zaa (CA.out _ hb1 R.out);clear hb1 hw1 CW CA;go_wp2_with fail
 refine C1.out.mono ?_;rintro e w2 ⟨rfl,hb2,hw2⟩;have R2:=Zaa (R.out.trans hw2);have L2:=Zaa (hw2.blk (L:=w.heap.size) L1.out (by omega) (by decide));have C2:=Zaa (CB.out _ hb2 R2.out);clear y0 y1 y2 y3 y4 y5 y6 y7 y8 sf hb2 hw2 CB C1;obtain⟨y0,y1,y2,y3,y4,y5,y6,y7,y8,sf⟩:=L2.out.nine;go_wp2_with fail
 refine C2.out.mono ?_;rintro e w3 ⟨rfl,hb3,hw3⟩;go_wp2
 go_end0
 exact⟨rfl,E.out▸hb3,R2.out.trans hw3⟩
theorem Ztr (h:Bld 142 B b s w)(hB:B<=w.heap.size)(hS:Zf7 B w D vs x)(hok:Zbo x=0)(hs:s.size+(Zb9 x).size < 1000000000):
  Calls prog 156 #[.pointer (some ⟨b,0,none⟩),.agg vs.toArray] w (Zf8 142 B b (s++Zb9 x) w):=by
 obtain⟨_,_,hia,hig⟩:=okB hok;obtain⟨va,p1,c1,p2,c2,rfl,⟨p0,c0,rfl,_⟩,_,hr1,_,hr2⟩:=hS;have hz:s.size+((Zaz Zli x.body).size+(Zaz Zvh x.guards).size) < 1000000000:=by rw[Zb9,Zae]at hs;exact hs
 have E:Box (s++Zaz Zli x.body++Zaz Zvh x.guards=s++Zb9 x):=⟨by rw[Zb9,Zay]⟩;have B0:=Zaa ((Fr.refl B b w).alloc hB (.cells #[.string x.head.name,.slice p0 x.head.terms.length c0,.slice p1 x.body.length c1,.slice p2 x.guards.length c2] 115));have L0:=Zaa (Blk.new w #[.string x.head.name,.slice p0 x.head.terms.length c0,.slice p1 x.body.length c1,.slice p2 x.guards.length c2] 115);have hbw:b < w.heap.size:=by obtain⟨_,_,_,q,_,_⟩:=h.form;exact q.lt
 have hmf:=Zgm;have C1:=Zaa (Zim (c:=c1) (B:=B) (D:=D) Zl7 (first:=#[.pointer (some ⟨b,0,none⟩)]) (cap:=#[]) (f:=Zli) (h.alloc (.cells #[.string x.head.name,.slice p0 x.head.terms.length c0,.slice p1 x.body.length c1,.slice p2 x.guards.length c2] 115)) (by omega) (hr1.carry fun _ _ _ r=>r.carry (Go.W.Below.carry B0.out.below lr) lr) (Ydc hB B0.out.size) fun u2 vs y s' hy hu2 hf2 hS hz=>Znv hu2 (Ydc hB (Ydc B0.out.size hf2.size)) hS (hia y hy) hz);have CM:=Zaa (fun u (hu:Bld 142 B b (s++Zaz Zli x.body) u) (hf:Fr B b w u)=>Zmv (c:=c2) (B:=B) (D:=D) Zr3 (first:=#[.pointer (some ⟨b,0,none⟩)]) (cap:=#[]) (f:=Zvh) hu (by rw[Zae];omega) (hr2.carry fun _ _ _ r=>r.carry (Go.W.Below.carry hf.below lr) lr) (Ydc hB hf.size) fun u2 vs y s' hy hu2 hf2 hS hz=>Z0f hu2 (Ydc hB (Ydc hf.size hf2.size)) hS (hig y hy) hz);clear h hr1 hr2 hia hig hok hs hz;go_in
 go_wp2_with fail
 refine C1.out.mono ?_;rintro e w1 ⟨rfl,hb1,hw1⟩;have R:=Zaa (B0.out.trans hw1);obtain⟨y0,y1,y2,y3,sf⟩:=(hw1.blk (L:=w.heap.size) L0.out (by omega) (by decide)).four;have C2:=Zaa (CM.out _ hb1 R.out);clear hb1 hw1 C1 CM;go_wp2_with fail
 refine C2.out.mono ?_;rintro e w2 ⟨rfl,hb2,hw2⟩;go_wp2
 go_end0
 exact⟨rfl,E.out▸hb2,R.out.trans hw2⟩
theorem Z22 (h:Bld 142 B b s w)(hB:B<=w.heap.size)(hS:Zf7 B w D vs x)(hok:Zdr x=0)(hs:s.size+(Zvi x).size < 1000000000):
  Calls prog 118 #[.pointer (some ⟨b,0,none⟩),.agg vs.toArray] w (Zf8 142 B b (s++Zvi x) w):=by
 obtain⟨hok1,hok2⟩:=Zeh hok;have hok2:=(Zeh hok2).1;have hz:s.size+((Zli x.head).size+(Zb9 x).size) < 1000000000:=by rw[Zvi,Zae]at hs;exact hs
 have E:Box (s++Zli x.head++Zb9 x=s++Zvi x):=⟨by rw[Zvi,Zay]⟩;have CB:=Zaa (fun u (hu:Bld 142 B b (s++Zli x.head) u) (hf:Fr B b w u)=>Ztr hu (Ydc hB hf.size) (Zf7.carry hS (Go.W.Below.carry hf.below lr)) hok2 (by rw[Zae];omega));obtain⟨va,p1,c1,p2,c2,rfl,hA,_,hr1,_,hr2⟩:=hS;have CA:=Zaa (fun u (hu:Bld 142 B b s u) (hf:Fr B b w u)=>Znv hu (Ydc hB hf.size) (Ze4.carry hA (Go.W.Below.carry hf.below lr)) hok1 (by omega));obtain⟨p0,c0,rfl,_⟩:=hA;have B0:=Zaa ((Fr.refl B b w).alloc hB (.cells #[.string x.head.name,.slice p0 x.head.terms.length c0,.slice p1 x.body.length c1,.slice p2 x.guards.length c2] 115));have L0:=Zaa (Blk.new w #[.string x.head.name,.slice p0 x.head.terms.length c0,.slice p1 x.body.length c1,.slice p2 x.guards.length c2] 115);have hbw:b < w.heap.size:=by obtain⟨_,_,_,q,_,_⟩:=h.form;exact q.lt
 have C1:=Zaa (CA.out _ (h.alloc (.cells #[.string x.head.name,.slice p0 x.head.terms.length c0,.slice p1 x.body.length c1,.slice p2 x.guards.length c2] 115)) B0.out);clear h hr1 hr2 hok hs hz CA;go_in
 go_wp2_with fail
 refine C1.out.mono ?_;rintro e w1 ⟨rfl,hb1,hw1⟩;have R:=Zaa (B0.out.trans hw1);obtain⟨y0,y1,y2,y3,sf⟩:=(hw1.blk (L:=w.heap.size) L0.out (by omega) (by decide)).four;have C2:=Zaa (CB.out _ hb1 R.out);clear hb1 hw1 C1 CB;go_wp2_with fail
 refine C2.out.mono ?_;rintro e w2 ⟨rfl,hb2,hw2⟩;go_wp2
 go_end0
 exact⟨rfl,E.out▸hb2,R.out.trans hw2⟩
theorem Z0e {x:List R}(h:Bld 142 B b s w)(hB:B<=w.heap.size)(hS:Zh9 B w D vs x)(hok:Zba x=0)(hs:s.size+(Zaz Zb9 x).size < 1000000000):
  Calls prog 120 #[.pointer (some ⟨b,0,none⟩),.agg vs.toArray] w (Zf8 142 B b (s++Zaz Zb9 x) w):=by
 obtain⟨p,c,rfl,_,hr⟩:=hS;have B0:=Zaa ((Fr.refl B b w).alloc hB (.cells #[.slice p x.length c] 72));have hmf:=Zgm;have C1:=Zaa (Zin (c:=c) (B:=B) (D:=D) Zty (first:=#[.pointer (some ⟨b,0,none⟩)]) (cap:=#[]) (f:=Zb9) (h.alloc (.cells #[.slice p x.length c] 72)) (by omega) (hr.carry fun _ _ _ r=>r.carry (Go.W.Below.carry B0.out.below lr) lr) (Ydc hB B0.out.size) fun u2 vs y s' hy hu2 hf2 hS hz=>Ztr hu2 (Ydc hB (Ydc B0.out.size hf2.size)) hS (Yc6 hok y hy) hz);clear h hr hok hs;go_in
 go_wp2_with fail
 refine C1.out.mono ?_;rintro e w1 ⟨rfl,hb1,hw1⟩;go_wp2
 go_end0
 exact⟨rfl,hb1,B0.out.trans hw1⟩
theorem Z0d {x:Bk}(h:Bld 142 B b s w)(hB:B<=w.heap.size)(hS:Zbd B w D vs x)(hok:Zck x=0)(hs:s.size+(Ze9 x).size < 1000000000):
  Calls prog 73 #[.pointer (some ⟨b,0,none⟩),.agg vs.toArray] w (Zf8 142 B b (s++Ze9 x) w):=by
 obtain⟨ok1,hok⟩:=Zeh hok;obtain⟨ok2,ok3⟩:=Zeh hok;obtain⟨p,c,p1,c1,p2,c2,rfl,_,hr,_,hr1,_,hr2⟩:=hS;have hz:s.size+((Zaz Zli x.facts).size+(Zaz Zvi x.rules).size+(Zaz (Zaz Zb9) x.checks).size) < 1000000000:=by rw[Ze9,Zae,Zae]at hs;exact hs
 have E:Box (s++Zaz Zli x.facts++Zaz Zvi x.rules++Zaz (Zaz Zb9) x.checks=s++Ze9 x):=⟨by rw[Ze9,Zay,Zay,Zay]⟩;have B0:=Zaa ((Fr.refl B b w).alloc hB (.cells #[.slice p x.facts.length c,.slice p1 x.rules.length c1,.slice p2 x.checks.length c2] 45));have L0:=Zaa (Blk.new w #[.slice p x.facts.length c,.slice p1 x.rules.length c1,.slice p2 x.checks.length c2] 45);have hbw:b < w.heap.size:=by obtain⟨_,_,_,q,_,_⟩:=h.form;exact q.lt
 have hmf:=Zgm;have C1:=Zaa (Zim (c:=c) (B:=B) (D:=D) Zl7 (first:=#[.pointer (some ⟨b,0,none⟩)]) (cap:=#[]) (f:=Zli) (h.alloc (.cells #[.slice p x.facts.length c,.slice p1 x.rules.length c1,.slice p2 x.checks.length c2] 45)) (by omega) (hr.carry fun _ _ _ r=>r.carry (Go.W.Below.carry B0.out.below lr) lr) (Ydc hB B0.out.size) fun u2 vs y s' hy hu2 hf2 hS hz=>Znv hu2 (Ydc hB (Ydc B0.out.size hf2.size)) hS (Zeh ((Zbz ok1).2 y hy)).1 hz);have CM:=Zaa (fun u (hu:Bld 142 B b (s++Zaz Zli x.facts) u) (hf:Fr B b w u)=>Zin (c:=c1) (B:=B) (D:=D) Zt0 (first:=#[.pointer (some ⟨b,0,none⟩)]) (cap:=#[]) (f:=Zvi) hu (by rw[Zae];omega) (hr1.carry fun _ _ _ r=>r.carry (Go.W.Below.carry hf.below lr) lr) (Ydc hB hf.size) fun u2 vs y s' hy hu2 hf2 hS hz=>Z22 hu2 (Ydc hB (Ydc hf.size hf2.size)) hS ((Zbz ok2).2 y hy) hz);have CN:=Zaa (fun u (hu:Bld 142 B b (s++Zaz Zli x.facts++Zaz Zvi x.rules) u) (hf:Fr B b w u)=>Zmu (c:=c2) (B:=B) (D:=D) Zr2 (first:=#[.pointer (some ⟨b,0,none⟩)]) (cap:=#[]) (f:=Zaz Zb9) hu (by rw[Zae,Zae];omega) (hr2.carry fun _ _ _ r=>r.carry (Go.W.Below.carry hf.below lr) lr) (Ydc hB hf.size) fun u2 vs y s' hy hu2 hf2 hS hz=>Z0e hu2 (Ydc hB (Ydc hf.size hf2.size)) hS ((Zbz ok3).2 y hy) hz);clear h hr hr1 hr2 hok ok1 ok2 ok3 hs hz;go_in
 go_wp2_with fail
 refine C1.out.mono ?_;rintro e w1 ⟨rfl,hb1,hw1⟩;have R:=Zaa (B0.out.trans hw1);have L1:=Zaa (hw1.blk (L:=w.heap.size) L0.out (by omega) (by decide));obtain⟨y0,y1,y2,sf⟩:=L1.out.three;have C2:=Zaa (CM.out _ hb1 R.out);clear hb1 hw1 C1 CM;go_wp2_with fail
 refine C2.out.mono ?_;rintro e w2 ⟨rfl,hb2,hw2⟩;have R2:=Zaa (R.out.trans hw2);have L2:=Zaa (hw2.blk (L:=w.heap.size) L1.out (by omega) (by decide));clear y0 y1 y2 sf;obtain⟨y0,y1,y2,sf⟩:=L2.out.three;have C3:=Zaa (CN.out _ hb2 R2.out);clear hb2 hw2 C2 CN;go_wp2_with fail
 refine C3.out.mono ?_;rintro e w3 ⟨rfl,hb3,hw3⟩;go_wp2
 go_end0
 exact⟨rfl,E.out▸hb3,R2.out.trans hw3⟩
end Go.P
