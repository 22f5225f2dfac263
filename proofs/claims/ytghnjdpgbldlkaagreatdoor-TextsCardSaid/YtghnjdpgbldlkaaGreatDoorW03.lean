import Derived.Test.YtghnjdpgbldlkaaGreatDoorW02
set_option maxRecDepth 100000
set_option maxHeartbeats 8000000
set_option linter.unusedSimpArgs false
open Go.Proofs Go.RowKit Go.W Tryz
namespace Go.P
variable {K B D b c:Nat}{first cap:Array Value}{s:ByteArray}{w:World}{p:Option Addr}
theorem Zi6 (hen:Bj K){f:T->ByteArray}{xs:List T}(h:Ak 164 B b s w)(hs:s.size+(BZ f xs).size<1000000000)(hrow:Ap 4 (D6 B w<|D+1) p xs)(hB:B<=w.heap.size)
  (HC: ∀ u vs x s',x∈xs->Ak 164 B b s' u->Fr B b w u->Dn B u D vs x->s'.size+(f x).size<1000000000->Calls prog K (first.push (.agg vs.toArray)++cap) u (Df 164 B b (s'++f x) u)):
  Calls prog 178 #[.pointer<|Qb b 0,.slice p xs.length c,.func (.func K) first cap] w (Df 164 B b (s++BZ f xs) w):=by
 have hl:=hrow.len;have HR:=AA hrow;have HH:=AA HC;have Cb: ∀ args w,(callFunc K args).run prog w= .ok (.enter K args) w:=hen;have hz:s.size+((Dm xs.length).size+(cat f xs).size)<1000000000:=by rw[BZ,Ae]at hs;exact hs
 have EQ:AC (s++Dm xs.length++cat f xs=s++BZ f xs):=⟨by rw[BZ,Bw]⟩;have C:=AA<|Xf Ob h xs.length zx zx hB;have SZ:AC ((s++Dm xs.length).size=s.size+(Dm xs.length).size):=⟨Ae _ _⟩;clear hrow HC hen h hs;generalize s++Dm xs.length=s1 at*;go_in
 go_wp2_with fail
 refine C.out.mono ?_;rintro e w1 ⟨rfl,hb1,Ag⟩;have H1:=AA<|AF hb1 Ag;clear hb1 Ag C;go_wp2
 go_loopw [15] (fun iv wr=>bK 164 B b s1 f w xs iv wr) (fun iv _=>xs.length-(intOf iv).toNat)
 case atStart=>exact⟨0,zx,rfl,by simpa[cat]using H1.out.1,H1.out.2⟩
 case round=>
  obtain⟨q,hq,rfl,hbl,AX⟩:=hrel;have HB:=AA<|AF hbl AX;by_cases hlt:q<xs.length
  ·have FD:=AA<|bN f hlt;have LE:=az f xs<|q+1;obtain⟨b1,o1,rfl,hx⟩:=HR.out.get q hlt;have hm:xs[q]∈xs:=KV hlt;obtain⟨hb1,p1,c1,k0,k1,k2,k3,hS⟩:=(hx.carry (Go.W.Below.carry AX.below lr) lr).vals;have hsz:=AU hB AX.size;rw[FD.out,Ae]at LE;have CC:=AA<|HH.out _ _ _ _ hm (hbl.alloc<|.cells #[.int .i64 xs[q].k,.int .i64 xs[q].i,.string xs[q].t,.slice p1 xs[q].l.length c1] 100) (AX.alloc hsz _) (Dn.carry hS<|Hl _ hsz) (by rw[Ae,SZ.out];omega);clear hbl AX hx hm hS HH;go_wp2_with fail
   refine CC.out.mono ?_;rintro e w2 ⟨rfl,hb2,hw2⟩;have R:=AA<|AF hb2<|(HB.out.2.alloc hsz _).trans hw2;clear hb2 hw2 CC;go_wp2
   go_roundw
   case rel=>exact⟨q+1,zx,by go_num,by rw[FD.out,<- Bw];exact R.out.1,R.out.2⟩
   case measure=>simp[intOf];omega
  ·obtain rfl:q=xs.length:=zx
   rw[JQ]at hbl;have Ce:=AA<|AF hbl AX;clear hbl AX HB;go_wp2
   go_end0
   exact⟨rfl,EQ.out▸Ce.out.1,Ce.out.2⟩
theorem Zi4 (hen:Bj K){f:A->ByteArray}{xs:List A}(h:Ak 164 B b s w)(hs:s.size+(BZ f xs).size<1000000000)(hrow:Ap 2 (DX B w<|D+1) p xs)(hB:B<=w.heap.size)
  (HC: ∀ u vs x s',x∈xs->Ak 164 B b s' u->Fr B b w u->FM B u D vs x->s'.size+(f x).size<1000000000->Calls prog K (first.push (.agg vs.toArray)++cap) u (Df 164 B b (s'++f x) u)):
  Calls prog 124 #[.pointer<|Qb b 0,.slice p xs.length c,.func (.func K) first cap] w (Df 164 B b (s++BZ f xs) w):=by
 have hl:=hrow.len;have HR:=AA hrow;have HH:=AA HC;have Cb: ∀ args w,(callFunc K args).run prog w= .ok (.enter K args) w:=hen;have hz:s.size+((Dm xs.length).size+(cat f xs).size)<1000000000:=by rw[BZ,Ae]at hs;exact hs
 have EQ:AC (s++Dm xs.length++cat f xs=s++BZ f xs):=⟨by rw[BZ,Bw]⟩;have C:=AA<|Xf Ob h xs.length zx zx hB;have SZ:AC ((s++Dm xs.length).size=s.size+(Dm xs.length).size):=⟨Ae _ _⟩;clear hrow HC hen h hs;generalize s++Dm xs.length=s1 at*;go_in
 go_wp2_with fail
 refine C.out.mono ?_;rintro e w1 ⟨rfl,hb1,Ag⟩;have H1:=AA<|AF hb1 Ag;clear hb1 Ag C;go_wp2
 go_loopw [15] (fun iv wr=>bK 164 B b s1 f w xs iv wr) (fun iv _=>xs.length-(intOf iv).toNat)
 case atStart=>exact⟨0,zx,rfl,by simpa[cat]using H1.out.1,H1.out.2⟩
 case round=>
  obtain⟨q,hq,rfl,hbl,AX⟩:=hrel;have HB:=AA<|AF hbl AX;by_cases hlt:q<xs.length
  ·have FD:=AA<|bN f hlt;have LE:=az f xs<|q+1;obtain⟨b1,o1,rfl,hx⟩:=HR.out.get q hlt;have hm:xs[q]∈xs:=KV hlt;obtain⟨hb1,p1,c1,k0,k1,hS⟩:=(hx.carry (Go.W.Below.carry AX.below lr) lr).vals;have hsz:=AU hB AX.size;rw[FD.out,Ae]at LE;have CC:=AA<|HH.out _ _ _ _ hm (hbl.alloc<|.cells #[.string xs[q].name,.slice p1 xs[q].terms.length c1] 95) (AX.alloc hsz _) (FM.carry hS<|Hl _ hsz) (by rw[Ae,SZ.out];omega);clear hbl AX hx hm hS HH;go_wp2_with fail
   refine CC.out.mono ?_;rintro e w2 ⟨rfl,hb2,hw2⟩;have R:=AA<|AF hb2<|(HB.out.2.alloc hsz _).trans hw2;clear hb2 hw2 CC;go_wp2
   go_roundw
   case rel=>exact⟨q+1,zx,by go_num,by rw[FD.out,<- Bw];exact R.out.1,R.out.2⟩
   case measure=>simp[intOf];omega
  ·obtain rfl:q=xs.length:=zx
   rw[JQ]at hbl;have Ce:=AA<|AF hbl AX;clear hbl AX HB;go_wp2
   go_end0
   exact⟨rfl,EQ.out▸Ce.out.1,Ce.out.2⟩
theorem Zn4 (hen:Bj K){f:G->ByteArray}{xs:List G}(h:Ak 164 B b s w)(hs:s.size+(BZ f xs).size<1000000000)(hrow:Ap 9 (JN B w<|D+1) p xs)(hB:B<=w.heap.size)
  (HC: ∀ u vs x s',x∈xs->Ak 164 B b s' u->Fr B b w u->LY B u D vs x->s'.size+(f x).size<1000000000->Calls prog K (first.push (.agg vs.toArray)++cap) u (Df 164 B b (s'++f x) u)):
  Calls prog 215 #[.pointer<|Qb b 0,.slice p xs.length c,.func (.func K) first cap] w (Df 164 B b (s++BZ f xs) w):=by
 have hl:=hrow.len;have HR:=AA hrow;have HH:=AA HC;have Cb: ∀ args w,(callFunc K args).run prog w= .ok (.enter K args) w:=hen;have hz:s.size+((Dm xs.length).size+(cat f xs).size)<1000000000:=by rw[BZ,Ae]at hs;exact hs
 have EQ:AC (s++Dm xs.length++cat f xs=s++BZ f xs):=⟨by rw[BZ,Bw]⟩;have C:=AA<|Xf Ob h xs.length zx zx hB;have SZ:AC ((s++Dm xs.length).size=s.size+(Dm xs.length).size):=⟨Ae _ _⟩;clear hrow HC hen h hs;generalize s++Dm xs.length=s1 at*;go_in
 go_wp2_with fail
 refine C.out.mono ?_;rintro e w1 ⟨rfl,hb1,Ag⟩;have H1:=AA<|AF hb1 Ag;clear hb1 Ag C;go_wp2
 go_loopw [15] (fun iv wr=>bK 164 B b s1 f w xs iv wr) (fun iv _=>xs.length-(intOf iv).toNat)
 case atStart=>exact⟨0,zx,rfl,by simpa[cat]using H1.out.1,H1.out.2⟩
 case round=>
  obtain⟨q,hq,rfl,hbl,AX⟩:=hrel;have HB:=AA<|AF hbl AX;by_cases hlt:q<xs.length
  ·have FD:=AA<|bN f hlt;have LE:=az f xs<|q+1;obtain⟨b1,o1,rfl,hx⟩:=HR.out.get q hlt;have hm:xs[q]∈xs:=KV hlt;obtain⟨hb1,p1,c1,p2,c2,k0,k1,k2,k3,k4,k5,k6,k7,k8,hS⟩:=(hx.carry (Go.W.Below.carry AX.below lr) lr).vals;have hsz:=AU hB AX.size;rw[FD.out,Ae]at LE;have CC:=AA<|HH.out _ _ _ _ hm (hbl.alloc<|.cells #[.int .i64 xs[q].op,.int .i64 xs[q].a.k,.int .i64 xs[q].a.i,.string xs[q].a.t,.slice p1 xs[q].a.l.length c1,.int .i64 xs[q].b.k,.int .i64 xs[q].b.i,.string xs[q].b.t,.slice p2 xs[q].b.l.length c2] 102) (AX.alloc hsz _) (LY.carry hS<|Hl _ hsz) (by rw[Ae,SZ.out];omega);clear hbl AX hx hm hS HH;go_wp2_with fail
   refine CC.out.mono ?_;rintro e w2 ⟨rfl,hb2,hw2⟩;have R:=AA<|AF hb2<|(HB.out.2.alloc hsz _).trans hw2;clear hb2 hw2 CC;go_wp2
   go_roundw
   case rel=>exact⟨q+1,zx,by go_num,by rw[FD.out,<- Bw];exact R.out.1,R.out.2⟩
   case measure=>simp[intOf];omega
  ·obtain rfl:q=xs.length:=zx
   rw[JQ]at hbl;have Ce:=AA<|AF hbl AX;clear hbl AX HB;go_wp2
   go_end0
   exact⟨rfl,EQ.out▸Ce.out.1,Ce.out.2⟩
theorem Zi5 (hen:Bj K){f:R->ByteArray}{xs:List R}(h:Ak 164 B b s w)(hs:s.size+(BZ f xs).size<1000000000)(hrow:Ap 4 (E5 B w<|D+1) p xs)(hB:B<=w.heap.size)
  (HC: ∀ u vs x s',x∈xs->Ak 164 B b s' u->Fr B b w u->GR B u D vs x->s'.size+(f x).size<1000000000->Calls prog K (first.push (.agg vs.toArray)++cap) u (Df 164 B b (s'++f x) u)):
  Calls prog 126 #[.pointer<|Qb b 0,.slice p xs.length c,.func (.func K) first cap] w (Df 164 B b (s++BZ f xs) w):=by
 have hl:=hrow.len;have HR:=AA hrow;have HH:=AA HC;have Cb: ∀ args w,(callFunc K args).run prog w= .ok (.enter K args) w:=hen;have hz:s.size+((Dm xs.length).size+(cat f xs).size)<1000000000:=by rw[BZ,Ae]at hs;exact hs
 have EQ:AC (s++Dm xs.length++cat f xs=s++BZ f xs):=⟨by rw[BZ,Bw]⟩;have C:=AA<|Xf Ob h xs.length zx zx hB;have SZ:AC ((s++Dm xs.length).size=s.size+(Dm xs.length).size):=⟨Ae _ _⟩;clear hrow HC hen h hs;generalize s++Dm xs.length=s1 at*;go_in
 go_wp2_with fail
 refine C.out.mono ?_;rintro e w1 ⟨rfl,hb1,Ag⟩;have H1:=AA<|AF hb1 Ag;clear hb1 Ag C;go_wp2
 go_loopw [15] (fun iv wr=>bK 164 B b s1 f w xs iv wr) (fun iv _=>xs.length-(intOf iv).toNat)
 case atStart=>exact⟨0,zx,rfl,by simpa[cat]using H1.out.1,H1.out.2⟩
 case round=>
  obtain⟨q,hq,rfl,hbl,AX⟩:=hrel;have HB:=AA<|AF hbl AX;by_cases hlt:q<xs.length
  ·have FD:=AA<|bN f hlt;have LE:=az f xs<|q+1;obtain⟨b1,o1,rfl,hx⟩:=HR.out.get q hlt;have hm:xs[q]∈xs:=KV hlt;obtain⟨hb1,p1,c1,p2,c2,p3,c3,k0,k1,k2,k3,hS⟩:=(hx.carry (Go.W.Below.carry AX.below lr) lr).vals;have hsz:=AU hB AX.size;rw[FD.out,Ae]at LE;have CC:=AA<|HH.out _ _ _ _ hm (hbl.alloc<|.cells #[.string xs[q].head.name,.slice p1 xs[q].head.terms.length c1,.slice p2 xs[q].body.length c2,.slice p3 xs[q].guards.length c3] 98) (AX.alloc hsz _) (GR.carry hS<|Hl _ hsz) (by rw[Ae,SZ.out];omega);clear hbl AX hx hm hS HH;go_wp2_with fail
   refine CC.out.mono ?_;rintro e w2 ⟨rfl,hb2,hw2⟩;have R:=AA<|AF hb2<|(HB.out.2.alloc hsz _).trans hw2;clear hb2 hw2 CC;go_wp2
   go_roundw
   case rel=>exact⟨q+1,zx,by go_num,by rw[FD.out,<- Bw];exact R.out.1,R.out.2⟩
   case measure=>simp[intOf];omega
  ·obtain rfl:q=xs.length:=zx
   rw[JQ]at hbl;have Ce:=AA<|AF hbl AX;clear hbl AX HB;go_wp2
   go_end0
   exact⟨rfl,EQ.out▸Ce.out.1,Ce.out.2⟩
theorem Zn3 (hen:Bj K){f:(List R)->ByteArray}{xs:List (List R)}(h:Ak 164 B b s w)(hs:s.size+(BZ f xs).size<1000000000)(hrow:Ap 1 (Go.W.Qo B w<|D+1) p xs)(hB:B<=w.heap.size)
  (HC: ∀ u vs x s',x∈xs->Ak 164 B b s' u->Fr B b w u->P6 B u D vs x->s'.size+(f x).size<1000000000->Calls prog K (first.push (.agg vs.toArray)++cap) u (Df 164 B b (s'++f x) u)):
  Calls prog 128 #[.pointer<|Qb b 0,.slice p xs.length c,.func (.func K) first cap] w (Df 164 B b (s++BZ f xs) w):=by
 have hl:=hrow.len;have HR:=AA hrow;have HH:=AA HC;have Cb: ∀ args w,(callFunc K args).run prog w= .ok (.enter K args) w:=hen;have hz:s.size+((Dm xs.length).size+(cat f xs).size)<1000000000:=by rw[BZ,Ae]at hs;exact hs
 have EQ:AC (s++Dm xs.length++cat f xs=s++BZ f xs):=⟨by rw[BZ,Bw]⟩;have C:=AA<|Xf Ob h xs.length zx zx hB;have SZ:AC ((s++Dm xs.length).size=s.size+(Dm xs.length).size):=⟨Ae _ _⟩;clear hrow HC hen h hs;generalize s++Dm xs.length=s1 at*;go_in
 go_wp2_with fail
 refine C.out.mono ?_;rintro e w1 ⟨rfl,hb1,Ag⟩;have H1:=AA<|AF hb1 Ag;clear hb1 Ag C;go_wp2
 go_loopw [15] (fun iv wr=>bK 164 B b s1 f w xs iv wr) (fun iv _=>xs.length-(intOf iv).toNat)
 case atStart=>exact⟨0,zx,rfl,by simpa[cat]using H1.out.1,H1.out.2⟩
 case round=>
  obtain⟨q,hq,rfl,hbl,AX⟩:=hrel;have HB:=AA<|AF hbl AX;by_cases hlt:q<xs.length
  ·have FD:=AA<|bN f hlt;have LE:=az f xs<|q+1;obtain⟨b1,o1,rfl,hx⟩:=HR.out.get q hlt;have hm:xs[q]∈xs:=KV hlt;obtain⟨hb1,p1,c1,k0,hS⟩:=(hx.carry (Go.W.Below.carry AX.below lr) lr).vals;have hsz:=AU hB AX.size;rw[Nat.mul_one]at k0;rw[FD.out,Ae]at LE;have CC:=AA<|HH.out _ _ _ _ hm (hbl.alloc<|.cells #[.slice p1 xs[q].length c1] 65) (AX.alloc hsz _) (P6.carry hS<|Hl _ hsz) (by rw[Ae,SZ.out];omega);clear hbl AX hx hm hS HH;go_wp2_with fail
   refine CC.out.mono ?_;rintro e w2 ⟨rfl,hb2,hw2⟩;have R:=AA<|AF hb2<|(HB.out.2.alloc hsz _).trans hw2;clear hb2 hw2 CC;go_wp2
   go_roundw
   case rel=>exact⟨q+1,zx,by go_num,by rw[FD.out,<- Bw];exact R.out.1,R.out.2⟩
   case measure=>simp[intOf];omega
  ·obtain rfl:q=xs.length:=zx
   rw[JQ]at hbl;have Ce:=AA<|AF hbl AX;clear hbl AX HB;go_wp2
   go_end0
   exact⟨rfl,EQ.out▸Ce.out.1,Ce.out.2⟩
end Go.P
namespace Go.W
theorem nT {α:Type}{f:α->Int}{l:List α}(h:EF f l=0): ∀ x,x∈l->f x=0:=by
 induction l with
 | nil=>intro x hx;cases hx
 | cons y r ih=>
  rw[EF]at h;intro x hx;by_cases hy:f y=0
  ·rw[if_neg zx]at h;rcases Be.1 hx with rfl | hx
   ·exact hy
   ·exact ih h x hx
  ·rw[if_pos hy]at h;exact absurd h hy
theorem Xy {d:Nat}{x:T}(h:A9 d x=0):x.t.size<=64/\x.l.length<=6/\(∀ y,y∈x.l->A9 (d+1) y=0)/\((x.k=1\/x.k=3\/x.k=4)\/(x.k=2\/x.k=5)\/(x.k=6/\(x.i=0\/x.i=1))\/(x.k=7/\d≠3)):=by
 rw[mJ]at h;by_cases ho:MI d x.k x.i x.t x.l.length=0
 ·rw[if_neg zx]at h;refine⟨?_,?_,fun y hy=>nT h y hy,?_⟩;all_goals
   unfold MI at ho;split at ho
   ·cases ho
   ·rename_i hf;split at ho
    ·cases ho
    ·rename_i h4;split at ho
     ·cases ho
     rename_i h3;first
      | omega
      | (have hf:GN x.k x.i x.t x.l.length=true:=(by cases hq:GN x.k x.i x.t x.l.length with | true=>rfl | false=>exact absurd (Or.inl hq) hf);unfold GN Pq at hf;(repeat' split at hf) <;> simp_all)
 ·rw[if_pos ho]at h;exact absurd h ho
end Go.W
namespace Go.P
theorem Znf:Bj 179:=DL func179 zt rfl
def Zi (d:Nat):Prop:= ∀ {B D b:Nat} {s:ByteArray} {w:World} {vs:List Value} {x:T},Ak 164 B b s w->B<=w.heap.size->Dn B w D vs x->A9 d x=0->s.size+(Ci x).size<1000000000->Calls prog 179 #[.pointer<|Qb b 0,.agg vs.toArray] w (Df 164 B b (s++Ci x) w)
theorem nH {d:Nat}(hd:d<=3)(ih:d<3->Zi (d+1)):Zi d:=by
 intro B D b s w vs x h hB hS Az hs;obtain⟨Ej,h6,DN,hk⟩:=Xy Az;obtain⟨p,c,rfl,ht,Io,Ox,hc,hrow⟩:=hS;have P:=AA<|uA x;have B0:=AA<|(Fr.refl B b w).alloc hB<|.cells #[.int .i64 x.k,.int .i64 x.i,.string x.t,.slice p x.l.length c] 100;have H0:=AA<|h.alloc<|.cells #[.int .i64 x.k,.int .i64 x.i,.string x.t,.slice p x.l.length c] 100;have AX:b<w.heap.size:=by obtain⟨_,_,_,q,_,_⟩:=h.form;exact q.lt
 obtain⟨k,zn,hk8⟩: ∃ k:Nat,x.k=(k:Int)/\k<8:=⟨x.k.toNat,zx,zx⟩;have hsk:s.size+1+((Ci x).size-1)<1000000000/\1<=(Ci x).size:=by
  have:1<=(Ci x).size:=by rw[P.out,Ae,E6];omega
  omega
 have SY:IntKind.u8.wrap (k:Int)=(k:Int):=by simp[IntKind.wrap_u8'];omega
 have fD:(x.k % 256).toNat=k:=zx
 rw[fD]at P;rw[zn]at H0 B0 P hk⊢;have CW:=AA<|Jn Ob H0.out.drew k zx zx<|AU hB B0.out.drew.size;have L0:=AA<|AJ.new w #[.int .i64 (k:Int),.int .i64 x.i,.string x.t,.slice p x.l.length c] 100;have Do:AC (∀ {y:ByteArray},Ci x=b1 k++y->s++b1 k++y=s++Ci x):=⟨fun h=>by rw[h,Bw]⟩;clear h Az;go_in
 go_wp2
 go_region_with (go_at_call 79;refine CW.out.mono ?_;rintro e w1 ⟨rfl,hb1,Ag⟩)
 have R:=AA<|AF hb1<|B0.out.drew.trans Ag;obtain⟨y0,y1,y2,y3,sf⟩:=(Ag.blk (L:=w.heap.size) L0.out zx zu).four;have Ew:=AU hB R.out.2.size;clear hb1 Ag CW H0 B0;rcases hk with hk | hk | hk | hk
 ·have E:=AA<|Do.out (y:=GH x.t) (by rw[P.out,if_neg zx,if_neg zx,if_neg zx]);have CT:=AA<|uJ Ob R.out.1 x.t (by rw[Ae,E6];have:=congrArg ByteArray.size E.out;rw[Ae,Ae,E6,Ae]at this;omega) Ew;have g1:((k:Int)==2)=false:=by rw[BK];omega
  have g2:((k:Int)==5)=false:=by rw[BK];omega
  have g3:((k:Int)==6)=false:=by rw[BK];omega
  have g4:((k:Int)==7)=false:=by rw[BK];omega
  clear hk P Do DN hrow;go_wp2_with fail
  refine CT.out.mono ?_;rintro e w2 ⟨rfl,hb2,hw2⟩;go_wp2
  go_end0
  exact⟨rfl,E.out▸hb2,R.out.2.trans hw2⟩
 ·have E:=AA<|Do.out (y:=Dm<|Pv x.i) (by rw[P.out,if_pos hk]);have fK:Pv x.i<18446744073709551616:=by obtain⟨h1,h2⟩:=Ox;unfold Pv;split <;> omega
  have CN:=AA<|Xf Ob R.out.1 (Pv x.i) fK (by rw[Ae,E6];have:=congrArg ByteArray.size E.out;rw[Ae,Ae,E6,Ae]at this;omega) Ew;have CF:=AA<|Z2e x.i Ox;clear P Do DN hrow;rcases hk with hk | hk;all_goals
   obtain rfl:k=_:=Int.ofNat.inj hk;go_wp2_with (first | (go_at_call 214;refine(CF.out _).mono ?_;rintro e w2 ⟨rfl,rfl⟩) | (go_at_call 134;refine CN.out.mono ?_;rintro e w3 ⟨rfl,hb2,hw2⟩))
   go_end0
   exact⟨rfl,E.out▸hb2,R.out.2.trans hw2⟩
 ·obtain⟨hk,hi⟩:=hk;obtain rfl:k=6:=Int.ofNat.inj hk;obtain⟨i,hii,zq⟩: ∃ i:Nat,x.i=(i:Int)/\i<2:=⟨x.i.toNat,zx,zx⟩;have E:=AA<|Do.out (y:=b1 i) (by rw[P.out,if_neg zx,if_pos hk,hii];congr 2;omega);rw[hii]at y1;have hwi:IntKind.u8.wrap (i:Int)=(i:Int):=by simp[IntKind.wrap_u8'];omega
  have CN:=AA<|Jn Ob R.out.1.drew i zx (by rw[Ae,E6];omega) Ew;clear P Do DN hrow hk hi hii;go_wp2
  go_region_with (go_at_call 79;refine CN.out.mono ?_;rintro e w2 ⟨rfl,hb2,hw2⟩)
  go_wp2
  go_end0
  exact⟨rfl,E.out▸hb2,R.out.2.drew.trans hw2⟩
 ·obtain⟨hk,Ub⟩:=hk;have ih:= @ih zx;obtain rfl:k=7:=Int.ofNat.inj hk;have E:=AA<|Do.out (y:=BZ Ci x.l) (by rw[P.out,if_neg zx,if_neg zx,if_pos hk]);have CM:=AA (Zi6 (c:=c) (B:=B) (D:=D) Znf (first:=#[.pointer<|Qb b 0]) (cap:=#[]) (f:=Ci) R.out.1 (by rw[Ae,E6];have:=congrArg ByteArray.size E.out;rw[Ae,Ae,E6,Ae]at this;omega) (hrow.carry fun _ _ _ r=>r.carry (Go.W.Below.carry R.out.2.below lr) (Js D)) Ew fun u vs y s' hy hu hf hS hz=>ih hu (AU Ew hf.size) hS (DN y hy) hz);have Dw: ∀ (fn:Fn) (first cap:Array Value) (w:World),(Instr.makeFunc fn first cap).run prog w= .ok (.func fn first cap) w:=fun _ _ _ _=>rfl;clear P Do DN hrow hk ih;go_wp2_with fail
  refine CM.out.mono ?_;rintro e w2 ⟨rfl,hb2,hw2⟩;go_wp2
  go_end0
  exact⟨rfl,E.out▸hb2,R.out.2.trans hw2⟩
theorem mQ: ∀ d,d<=3->Zi d:=by
 have h3:Zi 3:=nH zx fun h=>absurd h zx;have h2:Zi 2:=nH zx fun _=> @h3;have h1:Zi 1:=nH zx fun _=> @h2;have h0:Zi 0:=nH zx fun _=> @h1;intro d hd;match d,hd with
 | 0,_=>exact @h0
 | 1,_=>exact @h1
 | 2,_=>exact @h2
 | 3,_=>exact @h3
end Go.P
