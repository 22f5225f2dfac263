import Derived.Test.YtpmcefkhkkpnbaaGreatDoorW13
set_option linter.all false
set_option maxRecDepth 100000
set_option maxHeartbeats 8000000
open Go.Proofs Go.RowKit Go.W Tryz
namespace Go.W
def Zz0 {α:Type}(f:α->Ay): ∀ l r:List α,cat f (l++r)=cat f l++cat f r
 | [],r=>by simp[cat]
 | x::l,r=>by rw[EC,cat,cat,Zz0 f l r,Jl]
def je {α:Type}(f:α->Ay){l:List α}{q:Nat}(h:q<l.length):cat f (l.take<|q+1)=cat f (l.take q)++f l[q]:=by
 rw[wa h,Zz0];simp[cat]
def jV {α:Type}(f:α->Ay)(l:List α)(q:Nat):(cat f<|l.take q).size<=(cat f l).size:=by
 have h:=congrArg ByteArray.size<|Zz0 f (l.take q)<|l.drop q;rw[List.take_append_drop,BM]at h;omega
def Yd2 (a:Nat)(h:a<18446744073709551616):a ^^^ 18446744073709551615=18446744073709551615-a:=by
 have e:=congrArg BitVec.toNat<|BitVec.xor_allOnes (x:=BitVec.ofNat 64 a);rw[BitVec.toNat_xor,BitVec.toNat_not,BitVec.toNat_allOnes,BitVec.toNat_ofNat,Nat.mod_eq_of_lt h]at e;exact e
def Ycc (i:Int)(hi:Gq i):bits .xor .u64 (IntKind.u64.wrap<|IntKind.u64.wrap i*2) (IntKind.u64.wrap<|i / 9223372036854775808)=(TJ i:Int):=by
 obtain⟨h1,h2⟩:=hi;simp only[IntKind.wrap_u64];unfold TJ;by_cases h:i<0
 .rw[xj h];have e1:i % 18446744073709551616*2 % 18446744073709551616=((2*i+18446744073709551616).toNat:Int):=zx
  have e2:i / 9223372036854775808 % 18446744073709551616=((18446744073709551615:Nat):Int):=zx
  rw[e1,e2,u64_xor_nat _ _ zx zx,Yd2 _ zx];omega
 .rw[xd h];have e1:i % 18446744073709551616*2 % 18446744073709551616=((2*i).toNat:Int):=zx
  have e2:i / 9223372036854775808 % 18446744073709551616=((0:Nat):Int):=zx
  rw[e1,e2,u64_xor_nat _ _ zx zx,Nat.xor_zero]
def Ql:fH 153:=⟨zt,zu⟩
def jb {α:Type} (T B b:Nat) (s:Ay) (f:α->Ay) (w:Bb) (l:List α) (iv:Value) (wr:Bb):Prop:= ∃ q:Nat,q<=l.length/\iv= zo q/\DV T B b (s++cat f (l.take q)) wr/\Fr B b w wr
def Z5e (i:Int)(hi:Gq i)(w:Bb):Calls prog 178 #[zo i] w fun e w'=>e=uY (.int .u64 (TJ i:Int))/\w'=w:=by
 go_in
 go_wp2
 go_ret
 exact⟨Yai<|Ycc i hi,rfl⟩
end Go.W
set_option linter.unusedSectionVars false
set_option linter.defProp false
namespace Go.W
section
variable {B b N D:Nat}{w u:Bb}
def TrQ {α:Type} (B b:Nat) (w:Bb) (Q:Bb->Nat->Nat->α->Prop) (S:Bb->Bu->α->Prop):Prop:=(∀ {u k o x},Fr B b w u->Q w k o x->Q u k o x)/\ ∀ {u o vs x},Fr B b w u->B<=u.heap.size->S u vs x->S (u.alloc o) vs x
def trQ {α:Type}{Q:Bb->Nat->Nat->α->Prop}{S:Bb->Bu->α->Prop}(f: ∀ {w u k o x},EG B B w u->Q w k o x->Q u k o x)(g: ∀ {w u vs x},S w vs x->EG B B w u->S u vs x):TrQ B b w Q S:=⟨fun h=>f (Go.W.Below.cy h.be lr),fun _ h q=>g q (Qk _ h)⟩
def Zk3 {α:Type}{N n B b:Nat}{Q:Bb->Nat->Nat->α->Prop}{S:Bb->Bu->α->Prop}{w:Bb}(I:Ra 119 141 251 142 144 87 N n Q S)(T:TrQ B b w Q S){K:Nat}(hen:Da K){first cap:Ca}{f:α->Ay}{s:Ay}{p:Bp}{xs:List α}{c:Nat}(h:DV 153 B b s w)(hs:s.size+(BO f xs).size<1000000000)(hrow:Ap n (Q w) p xs)(hB:B<=w.heap.size)
  (HC: ∀ u vs x s',x∈xs->DV 153 B b s' u->Fr B b w u->S u vs x->s'.size+(f x).size<1000000000->Calls prog K (first.push (.agg vs.toArray)++cap) u (LZ 153 B b (s'++f x) u)):
  Calls prog N #[zq b 0,sP p xs.length c,.func (.func K) first cap] w (LZ 153 B b (s++BO f xs) w):=by
 have hl:=hrow.len;have HR:=AC hrow;have HT:=AC T;have HH:=AC HC;have Dz: ∀ args w,(callFunc K args).run prog w= .ok (.enter K args) w:=hen;have hz:s.size+((Do xs.length).size+(cat f xs).size)<1000000000:=by rw[BO,BM]at hs;exact hs
 have EQ:AF (s++Do xs.length++cat f xs=s++BO f xs):=⟨by rw[BO,Jl]⟩;have C:=AC<|bN Ql h xs.length zx zx hB;have SZ:AF ((s++Do xs.length).size=s.size+(Do xs.length).size):=⟨BM _ _⟩;clear hrow HC hen h hs T;generalize s++Do xs.length=s1 at*;rcases I with⟨rfl,rfl,hV⟩ | ⟨rfl,rfl,hV⟩ | ⟨rfl,rfl,hV⟩ | ⟨rfl | rfl,rfl,hV⟩ | ⟨rfl,rfl,hV⟩;all_goals
  go_in
  go_wp2_with fail
  apply mq C.o;rintro w1 ⟨hb1,BI⟩;have H1:=AC<|AJ hb1 BI;clear hb1 BI C;go_wp2
  go_loopw [15] (fun iv wr=>jb 153 B b s1 f w xs iv wr) (fun iv _=>xs.length-(intOf iv).toNat)
  .exact⟨0,zx,rfl,by simpa[cat]using H1.o.1,H1.o.2⟩
  .obtain⟨q,hq,rfl,hbl,Af⟩:=hrel;have HB:=AC<|AJ hbl Af;by_cases hlt:q<xs.length
   .have FD:=AC<|je f hlt;have LE:=jV f xs<|q+1;obtain⟨b1,o1,rfl,hx⟩:=HR.o.get q hlt;try rw[Nat.mul_one]at hx
    have hm:xs[q]∈xs:=QO hlt;have hsz:=Ab hB Af.size;refine hV (HT.o.1 Af hx) ?_;intros
    rename_i hS hv;rw[FD.o,BM]at LE;have CC:=AC fun o=>HH.o _ _ _ _ hm (hbl.alloc o) (Af.alloc hsz o) (HT.o.2 Af hsz hS) (by rw[BM,SZ.o];omega);subst hv;clear hbl Af hx hm hS HH hV;go_wp2_with fail
    apply(CC.o _).mono;rintro e w2 ⟨rfl,hb2,hw2⟩;have R:=AC<|AJ hb2<|(HB.o.2.alloc hsz _).trans hw2;clear hb2 hw2 CC;go_wp2
    go_roundw
    .exact⟨q+1,zx,by go_num,by rw[FD.o,<- Jl];exact R.o.1,R.o.2⟩
    simp[intOf];omega
   .obtain rfl:q=xs.length:=zx
    rw[On]at hbl;have Ey:=AC<|AJ hbl Af;clear hbl Af HB;go_wp2
    go_end0
    exact⟨rfl,EQ.o▸Ey.o.1,Ey.o.2⟩
variable [Mem]
def TrC (N B b:Nat) (w:Bb):Prop:= ∀ u v,Fr B b w u->Fr B b u v-> ∀ D k o x,He N u D k o x->He N v D k o x
def TrC.of:TrC B B b w:=fun _ _ _ h _ _ _ _ q=>q.cy (Go.W.Below.cy h.be lr) lr
def TrC.next (h:TrC N B b w)(hu:Fr B b w u):TrC N B b u:=fun a c ha hc=>h a c (hu.trans ha) hc
def TrC.s {vs:Bu}{x:T}(h:TrC N B b w)(hu:Fr B b w u)(q:Ed N w D vs x):Ed N u D vs x:=by
 obtain⟨p,k,h0,h1,h2,h3,h4,h5⟩:=q;exact⟨p,k,h0,h1,h2,h3,h4,h5.cy fun _ _ _ q=>h _ _ (Fr.refl _ _ _) hu _ _ _ _ q⟩
def trC (h:TrC N B b w):TrQ B b w (fun w=>He N w (D+1)) (fun w=>Ed N w D):=⟨fun f q=>h _ _ (Fr.refl _ _ _) f _ _ _ _ q,fun f g q=>(h.next f).s ((Fr.refl _ _ _).alloc g _) q⟩
def Zjn {N B D b:Nat} {w:Bb} (h:TrC N B b w):= @Zk3 _ _ _ B _ _ (fun w=>Ed N w D) _ raT<|trC h
def Zjl {B D b:Nat} {w:Bb}:= @Zk3 _ _ _ B b (fun w=>Ep B w (D+1)) _ w raA<|trQ (fun c q=>q.cy c lr) Jz.cy
def Zo5 {B D b:Nat} {w:Bb}:= @Zk3 _ _ _ B b (fun w=>QK B w (D+1)) _ w raG<|trQ (fun c q=>q.cy c lr) TQ.cy
def Zjm {B D b:Nat} {w:Bb}:= @Zk3 _ _ _ B b (fun w=>FJ B w (D+1)) _ w raR<|trQ (fun c q=>q.cy c lr) Jy.cy
def Zo4 {B D b:Nat} {w:Bb}:= @Zk3 _ _ _ B b (fun w=>Go.W.Rw B w (D+1)) _ w raC<|trQ (fun c q=>q.cy c lr) Wi.cy
end
end Go.W
set_option linter.unusedSectionVars false
namespace Go.W
section
variable [Mem]
def kF {α:Type}{f:α->Int}{l:List α}(h:EU f l=0): ∀ x,x∈l->f x=0:=by
 induction l with
 | nil=>intro x hx;cases hx
 | cons y r ih=>
  rw[EU]at h;intro x hx;by_cases hy:f y=0
  .rw[xd zx]at h;rcases Ak.1 hx with rfl | hx
   .exact hy
   .exact ih h x hx
  .rw[xj hy]at h;exact absurd h hy
def okT {d:Nat}{x:T}(h:BR d x=0):x.t.size<=64/\x.l.length<=6/\(∀ y,y∈x.l->BR (d+1) y=0)/\((x.k=1\/x.k=3\/x.k=4)\/(x.k=2\/x.k=5)\/(x.k=6/\(x.i=0\/x.i=1))\/(x.k=7/\d≠3)):=by
 rw[qd]at h;by_cases ho:Oc d x.k x.i x.t x.l.length=0
 .rw[xd zx]at h;refine⟨?_,?_,fun y hy=>kF h y hy,?_⟩;all_goals
   unfold Oc at ho;split at ho
   .cases ho
   .rename_i hf;split at ho
    .cases ho
    .rename_i h4;split at ho
     .cases ho
     rename_i h3;first
      | omega
      | (have hf:Ih x.k x.i x.t x.l.length=true:=(by cases hq:Ih x.k x.i x.t x.l.length with | true=>rfl | false=>exact absurd (Or.inl hq) hf);unfold Ih UX at hf;(repeat' split at hf) <;> simp_all)
 .rw[xj ho]at h;exact absurd h ho
end
section
variable [Mem]
def Zn7:Da 120:=EH func120 zt rfl
def gJ (d:Nat):Prop:= ∀ {N B D b:Nat} {s:Ay} {w:Bb} {vs:Bu} {x:T},DV 153 B b s w->B<=w.heap.size->TrC N B b w->Ed N w D vs x->BR d x=0->s.size+(C8 x).size<1000000000->Calls prog 120 #[zq b 0,.agg vs.toArray] w (LZ 153 B b (s++C8 x) w)
def wC {d:Nat}(hd:d<=3)(ih:d<3->gJ (d+1)):gJ d:=by
 intro N B D b s w vs x h hB hT hS Aq hs;have HT:=AC hT;clear hT;obtain⟨DK,h6,Ci,hk⟩:=okT Aq;obtain⟨p,c,rfl,ht,L9,Yf,hc,hrow⟩:=hS;have P:=AC<|Z09 x;have B0:=AC<|(Fr.refl B b w).alloc hB<|.cells #[zo x.k,zo x.i,um x.t,sP p x.l.length c] 95;have H0:=AC<|h.alloc<|.cells #[zo x.k,zo x.i,um x.t,sP p x.l.length c] 95;have Af:b<w.heap.size:=by obtain⟨_,_,_,q,_,_⟩:=h.form;exact q.lt
 obtain⟨k,zK,nQ⟩: ∃ k:Nat,x.k=(k:Int)/\k<8:=⟨x.k.toNat,zx,zx⟩;have hsk:s.size+1+((C8 x).size-1)<1000000000/\1<=(C8 x).size:=by
  have:1<=(C8 x).size:=by rw[P.o,BM,Lh];omega
  omega
 have V3:IntKind.u8.wrap (k:Int)=(k:Int):=by simp[IntKind.wrap_u8'];omega
 have nS:(x.k % 256).toNat=k:=zx
 rw[nS]at P;rw[zK]at H0 B0 P hk⊢;have CW:=AC<|kI Ql H0.o.drew k zx zx<|Ab hB B0.o.drew.size;have L0:=AC<|AO.new w #[zo (k:Int),zo x.i,um x.t,sP p x.l.length c] 95;have DJ:AF (∀ {y:Ay},C8 x=b1 k++y->s++b1 k++y=s++C8 x):=⟨fun h=>by rw[h,Jl]⟩;clear h Aq;go_in
 go_wp2
 go_region_with (go_at_call 86;apply CW.o.mono;rintro e w1 ⟨rfl,hb1,BI⟩)
 have R:=AC<|AJ hb1<|B0.o.drew.trans BI;obtain⟨y0,y1,y2,y3,sf⟩:=(BI.blk (L:=w.heap.size) L0.o zx zu).four;have Na:=Ab hB R.o.2.size;clear hb1 BI CW H0 B0;rcases hk with hk | hk | hk | hk
 .have E:=AC<|DJ.o (y:=Em x.t) (by rw[P.o,xd zx,xd zx,xd zx]);have CT:=AC<|Zwf Ql R.o.1 x.t (by rw[BM,Lh];have:=congrArg ByteArray.size E.o;rw[BM,BM,Lh,BM]at this;omega) Na;have g1:((k:Int)==2)=false:=zj
  have g2:((k:Int)==5)=false:=zj
  have g3:((k:Int)==6)=false:=zj
  have g4:((k:Int)==7)=false:=zj
  clear hk P DJ Ci hrow;go_wp2_with fail
  apply mq CT.o;rintro w2 ⟨hb2,hw2⟩;go_wp2
  go_end0
  exact⟨rfl,E.o▸hb2,R.o.2.trans hw2⟩
 .have E:=AC<|DJ.o (y:=Do<|TJ x.i) (by rw[P.o,xj hk]);have nZ:TJ x.i<18446744073709551616:=by obtain⟨h1,h2⟩:=Yf;unfold TJ;split <;> omega
  have CN:=AC<|bN Ql R.o.1 (TJ x.i) nZ (by rw[BM,Lh];have:=congrArg ByteArray.size E.o;rw[BM,BM,Lh,BM]at this;omega) Na;have CF:=AC<|Z5e x.i Yf;clear P DJ Ci hrow;rcases hk with hk | hk;all_goals
   obtain rfl:k=_:=Int.ofNat.inj hk;go_wp2_with (first | (go_at_call 178;apply(CF.o _).mono;rintro e w2 ⟨rfl,rfl⟩) | (go_at_call 150;apply CN.o.mono;rintro e w3 ⟨rfl,hb2,hw2⟩))
   go_end0
   exact⟨rfl,E.o▸hb2,R.o.2.trans hw2⟩
 .obtain⟨hk,hi⟩:=hk;obtain rfl:k=6:=Int.ofNat.inj hk;obtain⟨i,hii,zQ⟩: ∃ i:Nat,x.i=(i:Int)/\i<2:=⟨x.i.toNat,zx,zx⟩;have E:=AC<|DJ.o (y:=b1 i) (by rw[P.o,xd zx,xj hk,hii];congr 2;omega);rw[hii]at y1;have hwi:IntKind.u8.wrap (i:Int)=(i:Int):=by simp[IntKind.wrap_u8'];omega
  have CN:=AC<|kI Ql R.o.1.drew i zx (by rw[BM,Lh];omega) Na;clear P DJ Ci hrow hk hi hii;go_wp2
  go_region_with (go_at_call 86;apply CN.o.mono;rintro e w2 ⟨rfl,hb2,hw2⟩)
  go_wp2
  go_end0
  exact⟨rfl,E.o▸hb2,R.o.2.drew.trans hw2⟩
 .obtain⟨hk,Yj⟩:=hk;have ih:= @ih zx;obtain rfl:k=7:=Int.ofNat.inj hk;have E:=AC<|DJ.o (y:=BO C8 x.l) (by rw[P.o,xd zx,xd zx,xj hk]);have CM:=AC (Zjn (c:=c) (N:=N) (B:=B) (D:=D) (HT.o.next R.o.2) Zn7 (first:=#[zq b 0]) (cap:=#[]) (f:=C8) R.o.1 (by rw[BM,Lh];have:=congrArg ByteArray.size E.o;rw[BM,BM,Lh,BM]at this;omega) (hrow.cy fun _ _ _ r=>(HT.o _ _ (Fr.refl _ _ _) R.o.2 _ _ _ _ r).cy (EG.up lr) (Ny D)) Na fun u vs y s' hy hu hf hS hz=>ih hu (Ab Na hf.size) (HT.o.next<|R.o.2.trans hf) hS (Ci y hy) hz);have Ho: ∀ (fn:Fn) (first cap:Ca) (w:Bb),(Instr.makeFunc fn first cap).run prog w= .ok (.func fn first cap) w:=fun _ _ _ _=>rfl;clear P DJ Ci hrow hk ih;go_wp2_with fail
  apply mq CM.o;rintro w2 ⟨hb2,hw2⟩;go_wp2
  go_end0
  exact⟨rfl,E.o▸hb2,R.o.2.trans hw2⟩
def vP: ∀ d,d<=3->gJ d:=by
 have h3:gJ 3:=wC zx fun h=>absurd h zx;have h2:gJ 2:=wC zx fun _=> @h3;have h1:gJ 1:=wC zx fun _=> @h2;have h0:gJ 0:=wC zx fun _=> @h1;intro d hd;match d,hd with
 | 0,_=>exact @h0
 | 1,_=>exact @h1
 | 2,_=>exact @h2
 | 3,_=>exact @h3
end
end Go.W
set_option linter.unusedSectionVars false
namespace Go.W
section
variable [Mem]
def MX {α:Type}{f:α->Int}{m:Nat}{l:List α}(h:Ei f m l=0):l.length<=m/\ ∀ x,x∈l->f x=0:=by
 unfold Ei at h;by_cases hm:m<l.length
 .rw[xj hm]at h;cases h
 .rw[xd hm]at h;exact⟨zx,kF h⟩
def TR {a b:Int}(h:(if a≠0 then a else b)=0):a=0/\b=0:=by
 by_cases ha:a=0
 .rw[xd zx]at h;exact⟨ha,h⟩
 .rw[xj ha]at h;exact absurd h ha
def okA {x:A}(h:FH x=0):x.name.size<=16/\x.te.length<=6/\ ∀ y,y∈x.te->BR 0 y=0:=by
 unfold FH at h;by_cases hn:IR x.name=false
 .rw[xj hn]at h;cases h
 .rw[xd hn]at h;refine⟨?_,MX h⟩
  have:IR x.name=true:=by cases hq:IR x.name with
   | true=>rfl
   | false=>exact absurd hq hn
  unfold IR at this;simp at this;omega
def okG {body:List A}{x:G}(h:QE body x=0):1<=x.op/\x.op<=7/\BR 0 x.a=0/\BR 0 x.b=0:=by
 unfold QE at h;by_cases hn:x.op<1\/7<x.op
 .rw[xj hn]at h;cases h
 .rw[xd hn]at h;obtain⟨h1,h2⟩:=TR h;exact⟨zx,zx,(TR h1).1,(TR h2).1⟩
def Ykg {x:List R}(h:J4 x=0): ∀ y,y∈x->JQ y=0:=by
 unfold J4 at h;split at h
 .cases h
 .intro y hy
  have:=(MX h).2 y hy
  unfold SE at this;split at this
  .cases this
  .exact this
def okB {x:R}(h:JQ x=0):x.body.length<=4/\x.gu.length<=4/\(∀ y,y∈x.body->FH y=0)/\ ∀ y,y∈x.gu->QE x.body y=0:=by
 unfold JQ at h;split at h
 .cases h
 .split at h
  .cases h
  .obtain⟨h1,h2⟩:=TR h;exact⟨zx,zx,kF h1,kF h2⟩
end
section
variable {B D b:Nat}{s:Ay}{w:Bb}{vs:Bu}{x:R}
variable [Mem]
def Yo2: ∀ (fn:Fn) (first cap:Ca) (w:Bb),(Instr.makeFunc fn first cap).run prog w= .ok (.func fn first cap) w:=fun _ _ _ _=>rfl
def Zn6:Da 57:=EH func57 zt rfl
def Zvb:Da 252:=EH func252 zt rfl
def Zxo:Da 207:=EH func207 zt rfl
def Zxq:Da 143:=EH func143 zt rfl
def Zva:Da 145:=EH func145 zt rfl
def Zqg {N B D b:Nat}{s:Ay}{w:Bb}{vs:Bu}{x:A}(h:DV 153 B b s w)(hB:B<=w.heap.size)(hT:TrC N B b w)(hS:Jz N w D vs x)(Aq:FH x=0)(hs:s.size+(JI x).size<1000000000):
  Calls prog 57 #[zq b 0,.agg vs.toArray] w (LZ 153 B b (s++JI x) w):=by
 obtain⟨hn,hl,Ci⟩:=okA Aq;obtain⟨p,c,rfl,ht,hc,hrow⟩:=hS;have hz:s.size+((Em x.name).size+(BO C8 x.te).size)<1000000000:=by rw[JI,BM]at hs;exact hs
 have E:AF (s++Em x.name++BO C8 x.te=s++JI x):=⟨by rw[JI,Jl]⟩;have B0:=AC<|(Fr.refl B b w).alloc hB<|.cells #[um x.name,sP p x.te.length c] 64;have CT:=AC<|Zwf Ql (h.alloc<|.cells #[um x.name,sP p x.te.length c] 64) x.name zx<|Ab hB B0.o.size;have Af:b<w.heap.size:=by obtain⟨_,_,_,q,_,_⟩:=h.form;exact q.lt
 have L0:=AC<|AO.new w #[um x.name,sP p x.te.length c] 64;have Ho:=Yo2;have CM:=AC (fun u (hu:DV 153 B b (s++Em x.name) u) (hf:Fr B b w u)=>Zjn (c:=c) (N:=N) (B:=B) (D:=D) (hT.next hf) Zn7 (first:=#[zq b 0]) (cap:=#[]) (f:=C8) hu (by rw[BM];omega) (hrow.cy fun _ _ _ r=>hT _ _ (Fr.refl _ _ _) hf _ _ _ _ r) (Ab hB hf.size) fun u2 vs y s' hy Gm hf2 hS hz=>vP 0 zx Gm (Ab hB<|Ab hf.size hf2.size) (hT.next<|hf.trans hf2) hS (Ci y hy) hz);clear h hrow Ci Aq hs hz hT;go_in
 go_wp2_with fail
 apply mq CT.o;rintro w1 ⟨hb1,BI⟩;have R:=AC<|AJ hb1<|B0.o.trans BI;obtain⟨y0,y1,sf⟩:=(BI.blk (L:=w.heap.size) L0.o zx zu).two;have C2:=AC<|CM.o _ hb1 R.o.2;clear hb1 BI CT CM;go_wp2_with fail
 apply mq C2.o;rintro w2 ⟨hb2,hw2⟩;go_wp2
 go_end0
 exact⟨rfl,E.o▸hb2,R.o.2.trans hw2⟩
def Z5b {x:G}{body:List A}(h:DV 153 B b s w)(hB:B<=w.heap.size)(hS:TQ B w D vs x)(Aq:QE body x=0)(hs:s.size+(Tc x).size<1000000000):
  Calls prog 252 #[zq b 0,.agg vs.toArray] w (LZ 153 B b (s++Tc x) w):=by
 obtain⟨h1,h7,iZ,aC⟩:=okG Aq;obtain⟨va,vb,rfl,ho,ha,hb⟩:=hS;obtain⟨op,hop,hop8⟩: ∃ k:Nat,x.op=(k:Int)/\k<8:=⟨x.op.toNat,zx,zx⟩;have XZ:(x.op % 256).toNat=op:=zx
 have hz:s.size+(1+(C8 x.a).size+(C8 x.b).size)<1000000000:=by rw[Tc,BM,BM,Lh]at hs;exact hs
 have E:AF (s++b1 op++C8 x.a++C8 x.b=s++Tc x):=⟨by rw[Tc,XZ,Jl,Jl,Jl]⟩;have Af:b<w.heap.size:=by obtain⟨_,_,_,q,_,_⟩:=h.form;exact q.lt
 have CA:=AC fun u (hu:DV 153 B b (s++b1 op) u) (hf:Fr B b w u)=>vP 0 zx hu (Ab hB hf.size) TrC.of (Ed.cy ha<|Go.W.Below.cy hf.be lr) iZ (by rw[BM,Lh];omega);have CB:=AC fun u (hu:DV 153 B b (s++b1 op++C8 x.a) u) (hf:Fr B b w u)=>vP 0 zx hu (Ab hB hf.size) TrC.of (Ed.cy hb<|Go.W.Below.cy hf.be lr) aC (by rw[BM,BM,Lh];omega);obtain⟨p1,c1,rfl,_⟩:=ha;obtain⟨p2,c2,rfl,_⟩:=hb;rw[hop];have B0:=AC<|(Fr.refl B b w).alloc hB<|.cells #[zo (op:Int),zo x.a.k,zo x.a.i,um x.a.t,sP p1 x.a.l.length c1,zo x.b.k,zo x.b.i,um x.b.t,sP p2 x.b.l.length c2] 97;have L0:=AC<|AO.new w #[zo (op:Int),zo x.a.k,zo x.a.i,um x.a.t,sP p1 x.a.l.length c1,zo x.b.k,zo x.b.i,um x.b.t,sP p2 x.b.l.length c2] 97;have CW:=AC<|kI Ql (h.alloc<|.cells #[zo (op:Int),zo x.a.k,zo x.a.i,um x.a.t,sP p1 x.a.l.length c1,zo x.b.k,zo x.b.i,um x.b.t,sP p2 x.b.l.length c2] 97).drew op zx zx<|Ab hB B0.o.drew.size;have V3:IntKind.u8.wrap (op:Int)=(op:Int):=by simp[IntKind.wrap_u8'];omega
 clear h Aq hs hz hop XZ ho h1 h7;go_in
 go_wp2
 go_region_with (go_at_call 86;apply CW.o.mono;rintro e w1 ⟨rfl,hb1,BI⟩)
 have R:=AC<|B0.o.drew.trans BI;have L1:=AC<|BI.blk (L:=w.heap.size) L0.o zx zu;obtain⟨y0,y1,y2,y3,y4,y5,y6,y7,y8,sf⟩:=L1.o.nine;have C1:=AC<|CA.o _ hb1 R.o;clear hb1 BI CW CA;go_wp2_with fail
 apply mq C1.o;rintro w2 ⟨hb2,hw2⟩;have R2:=AC<|R.o.trans hw2;have L2:=AC<|hw2.blk (L:=w.heap.size) L1.o zx zu;have C2:=AC<|CB.o _ hb2 R2.o;clear y0 y1 y2 y3 y4 y5 y6 y7 y8 sf hb2 hw2 CB C1;obtain⟨y0,y1,y2,y3,y4,y5,y6,y7,y8,sf⟩:=L2.o.nine;go_wp2_with fail
 apply mq C2.o;rintro w3 ⟨hb3,hw3⟩;go_wp2
 go_end0
 exact⟨rfl,E.o▸hb3,R2.o.trans hw3⟩
def Zxh (h:DV 153 B b s w)(hB:B<=w.heap.size)(hS:Jy B w D vs x)(Aq:JQ x=0)(hs:s.size+(Le x).size<1000000000):
  Calls prog 207 #[zq b 0,.agg vs.toArray] w (LZ 153 B b (s++Le x) w):=by
 obtain⟨_,_,hia,hig⟩:=okB Aq;obtain⟨va,p1,c1,p2,c2,rfl,⟨p0,c0,rfl,_⟩,_,hr1,_,hr2⟩:=hS;have hz:s.size+((BO JI x.body).size+(BO Tc x.gu).size)<1000000000:=by rw[Le,BM]at hs;exact hs
 have E:AF (s++BO JI x.body++BO Tc x.gu=s++Le x):=⟨by rw[Le,Jl]⟩;have B0:=AC<|(Fr.refl B b w).alloc hB<|.cells #[um x.head.name,sP p0 x.head.te.length c0,sP p1 x.body.length c1,sP p2 x.gu.length c2] 69;have L0:=AC<|AO.new w #[um x.head.name,sP p0 x.head.te.length c0,sP p1 x.body.length c1,sP p2 x.gu.length c2] 69;have Af:b<w.heap.size:=by obtain⟨_,_,_,q,_,_⟩:=h.form;exact q.lt
 have Ho:=Yo2;have C1:=AC (Zjl (c:=c1) (B:=B) (D:=D) Zn6 (first:=#[zq b 0]) (cap:=#[]) (f:=JI) (h.alloc<|.cells #[um x.head.name,sP p0 x.head.te.length c0,sP p1 x.body.length c1,sP p2 x.gu.length c2] 69) zx (hr1.cy fun _ _ _ r=>r.cy (Go.W.Below.cy B0.o.be lr) lr) (Ab hB B0.o.size) fun u2 vs y s' hy Gm hf2 hS hz=>Zqg Gm (Ab hB<|Ab B0.o.size hf2.size) TrC.of hS (hia y hy) hz);have CM:=AC (fun u (hu:DV 153 B b (s++BO JI x.body) u) (hf:Fr B b w u)=>Zo5 (c:=c2) (B:=B) (D:=D) Zvb (first:=#[zq b 0]) (cap:=#[]) (f:=Tc) hu (by rw[BM];omega) (hr2.cy fun _ _ _ r=>r.cy (Go.W.Below.cy hf.be lr) lr) (Ab hB hf.size) fun u2 vs y s' hy Gm hf2 hS hz=>Z5b Gm (Ab hB<|Ab hf.size hf2.size) hS (hig y hy) hz);clear h hr1 hr2 hia hig Aq hs hz;go_in
 go_wp2_with fail
 apply mq C1.o;rintro w1 ⟨hb1,BI⟩;have R:=AC<|B0.o.trans BI;obtain⟨y0,y1,y2,y3,sf⟩:=(BI.blk (L:=w.heap.size) L0.o zx zu).four;have C2:=AC<|CM.o _ hb1 R.o;clear hb1 BI C1 CM;go_wp2_with fail
 apply mq C2.o;rintro w2 ⟨hb2,hw2⟩;go_wp2
 go_end0
 exact⟨rfl,E.o▸hb2,R.o.trans hw2⟩
def Z8r (h:DV 153 B b s w)(hB:B<=w.heap.size)(hS:Jy B w D vs x)(Aq:TZ x=0)(hs:s.size+(Ta x).size<1000000000):
  Calls prog 143 #[zq b 0,.agg vs.toArray] w (LZ 153 B b (s++Ta x) w):=by
 obtain⟨yz,dS⟩:=TR Aq;have dS:=(TR dS).1;have hz:s.size+((JI x.head).size+(Le x).size)<1000000000:=by rw[Ta,BM]at hs;exact hs
 have E:AF (s++JI x.head++Le x=s++Ta x):=⟨by rw[Ta,Jl]⟩;have CB:=AC fun u (hu:DV 153 B b (s++JI x.head) u) (hf:Fr B b w u)=>Zxh hu (Ab hB hf.size) (Jy.cy hS<|Go.W.Below.cy hf.be lr) dS (by rw[BM];omega);obtain⟨va,p1,c1,p2,c2,rfl,hA,_,hr1,_,hr2⟩:=hS;have CA:=AC fun u (hu:DV 153 B b s u) (hf:Fr B b w u)=>Zqg hu (Ab hB hf.size) TrC.of (Jz.cy hA<|Go.W.Below.cy hf.be lr) yz zx;obtain⟨p0,c0,rfl,_⟩:=hA;have B0:=AC<|(Fr.refl B b w).alloc hB<|.cells #[um x.head.name,sP p0 x.head.te.length c0,sP p1 x.body.length c1,sP p2 x.gu.length c2] 69;have L0:=AC<|AO.new w #[um x.head.name,sP p0 x.head.te.length c0,sP p1 x.body.length c1,sP p2 x.gu.length c2] 69;have Af:b<w.heap.size:=by obtain⟨_,_,_,q,_,_⟩:=h.form;exact q.lt
 have C1:=AC<|CA.o _ (h.alloc<|.cells #[um x.head.name,sP p0 x.head.te.length c0,sP p1 x.body.length c1,sP p2 x.gu.length c2] 69) B0.o;clear h hr1 hr2 Aq hs hz CA;go_in
 go_wp2_with fail
 apply mq C1.o;rintro w1 ⟨hb1,BI⟩;have R:=AC<|B0.o.trans BI;obtain⟨y0,y1,y2,y3,sf⟩:=(BI.blk (L:=w.heap.size) L0.o zx zu).four;have C2:=AC<|CB.o _ hb1 R.o;clear hb1 BI C1 CB;go_wp2_with fail
 apply mq C2.o;rintro w2 ⟨hb2,hw2⟩;go_wp2
 go_end0
 exact⟨rfl,E.o▸hb2,R.o.trans hw2⟩
def Z5a {x:List R}(h:DV 153 B b s w)(hB:B<=w.heap.size)(hS:Wi B w D vs x)(Aq:J4 x=0)(hs:s.size+(BO Le x).size<1000000000):
  Calls prog 145 #[zq b 0,.agg vs.toArray] w (LZ 153 B b (s++BO Le x) w):=by
 obtain⟨p,c,rfl,_,hr⟩:=hS;have B0:=AC<|(Fr.refl B b w).alloc hB<|.cells #[sP p x.length c] 134;have Ho:=Yo2;have C1:=AC (Zjm (c:=c) (B:=B) (D:=D) Zxo (first:=#[zq b 0]) (cap:=#[]) (f:=Le) (h.alloc<|.cells #[sP p x.length c] 134) zx (hr.cy fun _ _ _ r=>r.cy (Go.W.Below.cy B0.o.be lr) lr) (Ab hB B0.o.size) fun u2 vs y s' hy Gm hf2 hS hz=>Zxh Gm (Ab hB<|Ab B0.o.size hf2.size) hS (Ykg Aq y hy) hz);clear h hr Aq hs;go_in
 go_wp2_with fail
 apply mq C1.o;rintro w1 ⟨hb1,BI⟩;go_wp2
 go_end0
 exact⟨rfl,hb1,B0.o.trans BI⟩
def Z49 {x:Bk}(h:DV 153 B b s w)(hB:B<=w.heap.size)(hS:EZ B w D vs x)(Aq:IU x=0)(hs:s.size+(LM x).size<1000000000):
  Calls prog 80 #[zq b 0,.agg vs.toArray] w (LZ 153 B b (s++LM x) w):=by
 obtain⟨Zz,Aq⟩:=TR Aq;obtain⟨lg,lZ⟩:=TR Aq;obtain⟨p,c,p1,c1,p2,c2,rfl,_,hr,_,hr1,_,hr2⟩:=hS;have hz:s.size+((BO JI x.fa).size+(BO Ta x.ru).size+(BO (BO Le) x.ck).size)<1000000000:=by rw[LM,BM,BM]at hs;exact hs
 have E:AF (s++BO JI x.fa++BO Ta x.ru++BO (BO Le) x.ck=s++LM x):=⟨by rw[LM,Jl,Jl,Jl]⟩;have B0:=AC<|(Fr.refl B b w).alloc hB<|.cells #[sP p x.fa.length c,sP p1 x.ru.length c1,sP p2 x.ck.length c2] 38;have L0:=AC<|AO.new w #[sP p x.fa.length c,sP p1 x.ru.length c1,sP p2 x.ck.length c2] 38;have Af:b<w.heap.size:=by obtain⟨_,_,_,q,_,_⟩:=h.form;exact q.lt
 have Ho:=Yo2;have C1:=AC (Zjl (c:=c) (B:=B) (D:=D) Zn6 (first:=#[zq b 0]) (cap:=#[]) (f:=JI) (h.alloc<|.cells #[sP p x.fa.length c,sP p1 x.ru.length c1,sP p2 x.ck.length c2] 38) zx (hr.cy fun _ _ _ r=>r.cy (Go.W.Below.cy B0.o.be lr) lr) (Ab hB B0.o.size) fun u2 vs y s' hy Gm hf2 hS hz=>Zqg Gm (Ab hB<|Ab B0.o.size hf2.size) TrC.of hS (TR<|(MX Zz).2 y hy).1 hz);have CM:=AC (fun u (hu:DV 153 B b (s++BO JI x.fa) u) (hf:Fr B b w u)=>Zjm (c:=c1) (B:=B) (D:=D) Zxq (first:=#[zq b 0]) (cap:=#[]) (f:=Ta) hu (by rw[BM];omega) (hr1.cy fun _ _ _ r=>r.cy (Go.W.Below.cy hf.be lr) lr) (Ab hB hf.size) fun u2 vs y s' hy Gm hf2 hS hz=>Z8r Gm (Ab hB<|Ab hf.size hf2.size) hS ((MX lg).2 y hy) hz);have CN:=AC (fun u (hu:DV 153 B b (s++BO JI x.fa++BO Ta x.ru) u) (hf:Fr B b w u)=>Zo4 (c:=c2) (B:=B) (D:=D) Zva (first:=#[zq b 0]) (cap:=#[]) (f:=BO Le) hu (by rw[BM,BM];omega) (hr2.cy fun _ _ _ r=>r.cy (Go.W.Below.cy hf.be lr) lr) (Ab hB hf.size) fun u2 vs y s' hy Gm hf2 hS hz=>Z5a Gm (Ab hB<|Ab hf.size hf2.size) hS ((MX lZ).2 y hy) hz);clear h hr hr1 hr2 Aq Zz lg lZ hs hz;go_in
 go_wp2_with fail
 apply mq C1.o;rintro w1 ⟨hb1,BI⟩;have R:=AC<|B0.o.trans BI;have L1:=AC<|BI.blk (L:=w.heap.size) L0.o zx zu;obtain⟨y0,y1,y2,sf⟩:=L1.o.three;have C2:=AC<|CM.o _ hb1 R.o;clear hb1 BI C1 CM;go_wp2_with fail
 apply mq C2.o;rintro w2 ⟨hb2,hw2⟩;have R2:=AC<|R.o.trans hw2;have L2:=AC<|hw2.blk (L:=w.heap.size) L1.o zx zu;clear y0 y1 y2 sf;obtain⟨y0,y1,y2,sf⟩:=L2.o.three;have C3:=AC<|CN.o _ hb2 R2.o;clear hb2 hw2 C2 CN;go_wp2_with fail
 apply mq C3.o;rintro w3 ⟨hb3,hw3⟩;go_wp2
 go_end0
 exact⟨rfl,E.o▸hb3,R2.o.trans hw3⟩
end
variable {m:Nat}{x:T}
def Z9u: ∀ f n,(Nh f n).size<=f+1
 | 0,n=>by rw[Nh];exact EO 1
 | f+1,n=>by
  rw[Nh];split
  ·rw[BM,Lh];have:=Z9u f<|n / 128;omega
  ·rw[Lh];omega
def qC (n:Nat):(Do n).size<=11:=Z9u 10 n
def Zw6 {α:Type}{f:α->Ay}: ∀ {l:List α},(∀ x,x∈l->(f x).size<=m)->(cat f l).size<=l.length*m
 | [],_=>by simp[cat]
 | x::r,h=>by
  rw[cat,BM,DU,Nat.add_mul,Nat.one_mul]
  have:=Zw6 (l:=r) fun y hy=>h y (wj _ hy)
  have:=h x List.mem_cons_self
  omega
def Zg {α:Type}{f:α->Ay}{k:Nat}{l:List α}(hl:l.length<=k)(h: ∀ x,x∈l->(f x).size<=m):(BO f l).size<=11+k*m:=by
 rw[BO,BM]
 have:=qC l.length
 have:=Zw6 h
 have:=Nat.mul_le_mul_right m hl
 omega
def wK {d:Nat}(h:BR d x=0)(m:Nat)(hm:d≠3-> ∀ y,BR (d+1) y=0->(C8 y).size<=m):(C8 x).size<=100+6*m:=by
 obtain⟨DK,h6,Ci,hk⟩:=okT h;rw[Z09,BM,Lh];split
 .have:=qC<|TJ x.i;omega
 .split
  .rw[Lh];omega
  .split
   .have:=Zg (f:=C8) (m:=m) h6 fun y hy=>hm zx y (Ci y hy);omega
   .rw[Em,BM];have:=qC x.t.size;omega
def vw (h:BR 0 x=0):(C8 x).size<=30000:=by
 have b3: ∀ y,BR 3 y=0->(C8 y).size<=100:=fun y hy=>fw (wK hy 0 fun h=>absurd rfl h)
 have b2: ∀ y,BR 2 y=0->(C8 y).size<=700:=fun y hy=>fw (wK hy 100 fun _=>b3)
 have fD: ∀ y,BR 1 y=0->(C8 y).size<=4300:=fun y hy=>fw (wK hy 700 fun _=>b2)
 have:=wK h 4300 fun _=>fD
 omega
def Znq {x:A}(h:FH x=0):(JI x).size<=200000:=by
 obtain⟨h1,h2,h3⟩:=okA h;rw[JI,BM,Em,BM]
 have:=qC x.name.size
 have:=Zg (f:=C8) (m:=30000) h2 fun y hy=>vw (h3 y hy)
 omega
def Z57 {l:List A}{x:G}(h:QE l x=0):(Tc x).size<=70000:=by
 obtain⟨_,_,h3,h4⟩:=okG h;rw[Tc,BM,BM,Lh]
 have:=vw h3
 have:=vw h4
 omega
def Zmf {x:R}(h:JQ x=0):(Le x).size<=1100000:=by
 obtain⟨h1,h2,h3,h4⟩:=okB h;rw[Le,BM]
 have:=Zg (f:=JI) (m:=200000) h1 fun y hy=>Znq (h3 y hy)
 have:=Zg (f:=Tc) (m:=70000) h2 fun y hy=>Z57 (h4 y hy)
 omega
def okE {x:List R}(h:J4 x=0):x.length<=4/\ ∀ y,y∈x->JQ y=0:=by
 unfold J4 at h;split at h
 .cases h
 .refine⟨(MX h).1,fun y hy=>?_⟩
  have:=(MX h).2 y hy
  unfold SE at this;split at this
  .cases this
  .exact this
def Zrh {x:Bk}(h:IU x=0):(LM x).size<900000000:=by
 obtain⟨Zz,h⟩:=TR h;obtain⟨lg,lZ⟩:=TR h;rw[LM,BM,BM]
 have:=Zg (f:=JI) (m:=200000) (MX Zz).1 fun y hy=>Znq (TR<|(MX Zz).2 y hy).1
 have:=Zg (f:=Ta) (m:=1300000) (MX lg).1 fun y hy=>by
  obtain⟨q1,q2⟩:=TR<|(MX lg).2 y hy;rw[Ta,BM]
  have:=Znq q1
  have:=Zmf (TR q2).1
  omega
 have:=Zg (f:=BO Le) (m:=5000000) (MX lZ).1 fun y hy=>by
  obtain⟨q1,q2⟩:=okE<|(MX lZ).2 y hy
  have:=Zg (f:=Le) (m:=1100000) q1 fun z hz=>Zmf (q2 z hz)
  omega
 omega
def Ic (x:Bk):Int:=if IU x≠0 then IU x else if 4000<(LM x).size then 4 else 0
def A7 (x:Bk):Ay:=if Ic x=0 then LM x else ByteArray.empty
def Ztl (V:D9){a:Nat->Addr}{B D:Nat}{w:Bb}{vs:Bu}{x:Bk}(Z:AZ a w)(hB:B<=w.heap.size)(hS:EZ B w D vs x):
  Calls prog 38 #[.agg vs.toArray] w fun e w'=>e=uY (.tuple #[.string<|A7 x,BG a<|Ic x])/\Bl w w':=by
 have C1:=AC fun u (hu:Bl w u)=>Zhn V (Z.be hu) (Ab hB hu.size) (EZ.cy hS<|Bq hu hB);have CB:=AC fun u v b (hu:Bl w u) (hv:B<=v) (hvu:v<=u.heap.size) (hb:DV 153 v b ByteArray.empty u) (Aq:IU x=0)=>Z49 hb hvu (EZ.cy (EZ.cy hS<|Bq hu hB)<|EG.up hv) Aq (by have:=Zrh Aq;simp;omega);have F:AF ((IU x≠0->Ic x=IU x/\A7 x=ByteArray.empty)/\(IU x=0->4000<(LM x).size->Ic x=4/\A7 x=ByteArray.empty)/\(IU x=0->(LM x).size<=4000->Ic x=0/\A7 x=LM x)):=⟨by
  unfold A7 Ic;refine⟨fun h=>?_,fun h h'=>?_,fun h h'=>?_⟩
  .rw[xj h,xd h];exact⟨rfl,rfl⟩
  .rw[xd zx,xj h'];exact⟨rfl,rfl⟩
  .rw[xd zx,xd zx];exact⟨rfl,rfl⟩⟩
 have PB:=AC<|Zrh (x:=x);have ZZ:=AC Z;obtain⟨p,c,p1,c1,p2,c2,rfl,_⟩:=hS;clear Z;generalize IU x=n1 at*;go_in
 go_wp2_with fail
 apply(C1.o _<|zv w _).mono;rintro e w1 ⟨rfl,hb⟩;have B1:=AC<|(zv w _).trans<|hb.mono zw;have L1:=AC<|TY (AO.new w #[sP p x.fa.length c,sP p1 x.ru.length c1,sP p2 x.ck.length c2] 38) hb;have hs1:=B1.o.size;clear hb;by_cases hn:n1=0
 .have y0:=fun o=>(L1.o.alloc o).three.1;have y1:=fun o=>(L1.o.alloc o).three.2.1;have y2:=fun o=>(L1.o.alloc o).three.2.2.1;have BN:=AC<|Lib.fresh_isBuilder 153 5 w1;have CC:=AC<|CB.o _ w1.heap.size _ (B1.o.alloc hs1 _) zx zw (show DV 153 w1.heap.size w1.heap.size ByteArray.empty (w1.alloc<|.cells #[.pointer none,zn] 153)from BN.o) hn;have F2:=AC<|F.o.2.1 hn;have F3:=AC<|F.o.2.2 hn;have ym:=PB.o hn;clear CB C1 F BN PB;rw[hn,JR];go_wp2_with fail
  apply mq CC.o;rintro w2 ⟨hb2,hw2⟩;rw[show ByteArray.empty++LM x=LM x by simp]at hb2;have B2:=AC<|(B1.o.alloc hs1 _).trans<|hw2.be.mono hs1;have z4:=(ZZ.o.be B2.o).c4;have CL:=AC<|Yf8 hb2;have CS:=AC<|Zuf hb2 zx (by have:=hw2.size;simp at this;omega);clear y0 y1 y2 hb2 hw2 CC;generalize LM x=s at*;by_cases hl:4000<s.size
  .have g1:(4000:Int)<(s.size:Int):=zx
   go_wp2_with (go_at_call 81;apply mq CL.o;rintro w3 rfl)
   go_quiet (fail)
   go_wp2
   go_ret2
   exact⟨by rw[(F2.o hl).1,(F2.o hl).2];rfl,MW B2.o⟩
  .have g1: ¬ (4000:Int)<(s.size:Int):=zx
   clear z4;go_wp2_with (first | (go_at_call 81;apply mq CL.o;rintro w3 rfl) | (go_at_call 58;apply mq CS.o;rintro w4 hb4))
   go_ret2
   exact⟨by rw[(F3.o zx).1,(F3.o zx).2];rfl,B2.o.trans<|hb4.mono hs1⟩
 .rw[BU _ hn];go_wp2
  go_ret2
  exact⟨by rw[(F.o.1 hn).1,(F.o.1 hn).2,BU _ hn];rfl,B1.o⟩
end Go.W
set_option linter.defProp false
namespace Go.W
def Uh (B:Nat) (w:Bb) (b o:Nat) (x:Ay):Prop:=b<B/\x.size<1000000000/\ ∃ p1 n1 c1 p2 n2 c2 p3 n3 c3,w.cell? (zm b o)=some (um x)/\w.cell? (zm b (o+1))=some (sP p1 n1 c1)/\w.cell? (zm b (o+2))=some (sP p2 n2 c2)/\w.cell? (zm b (o+3))=some (sP p3 n3 c3)
def Ye4 (vs:Bu) (x:Ay):Prop:= ∃ p1 n1 c1 p2 n2 c2 p3 n3 c3,vs=[um x,sP p1 n1 c1,sP p2 n2 c2,sP p3 n3 c3]/\x.size<1000000000
def Uh.cy {B B':Nat}{w w':Bb}{b o:Nat}{x:Ay}(c:EG B B' w w')(h:Uh B w b o x):Uh B' w' b o x:=by
 obtain⟨hb,hx,p1,n1,c1,p2,n2,c2,p3,n3,c3,k0,k1,k2,k3⟩:=h;have cc:=fun o=>c.cell b o hb;exact⟨BK hb c.le,hx,p1,n1,c1,p2,n2,c2,p3,n3,c3,by rw[cc];exact k0,by rw[cc];exact k1,by rw[cc];exact k2,by rw[cc];exact k3⟩
def raL {n1 n2 n3 n4 n5 n6 B:Nat}:Ra n1 n2 n3 n4 n5 n6 n6 4 (Uh B) (fun _=>Ye4):= .inr<|.inr<|.inr<|.inl ⟨.inr rfl,rfl,fun⟨_,hx,_,_,_,_,_,_,_,_,_,a,b,c,d⟩ _ f=>f _ _ _ _ _ _ _ _ _ _ _ a b c d ⟨_,_,_,_,_,_,_,_,_,rfl,hx⟩ rfl⟩
def Zqk {B b:Nat} {w:Bb}:= @Zk3 _ _ _ B b (Uh B) (fun _=>Ye4) w raL (trQ Uh.cy fun h _=>h)
def KT (S:Bool) (ts:List Ay) (tag:List UInt8):Ay:=((ba Nr++b1 (if S then 1 else 0))++BO Em ts)++ba tag
variable {B b c:Nat}{s:Ay}{w:Bb}
def Yba {T:Nat}(hT:fH T)(h:DV T B b s w)(l:List UInt8){g o:Nat}(hg: ∀ j u,(Lib.byteCells l)[j]?=some u->w.cell? (zm g (o+j))=some u){cs:Ca}{t:TypeId}(hgb:AO w g cs t)(jB:g≠b)(yV:t≠5)(hs:s.size+l.length<1000000000)(hB:B<=w.heap.size):
  Calls prog 89 #[zq b 0,sP (Qb g o) l.length c] w fun e w'=>e=uY (.tuple #[zo l.length,.nilIface])/\DV T B b (s++ba l) w'/\Fr B b w w':=by
 obtain⟨i0,hi,hz0,hz1,hz2⟩:=info_parts qT;have C:=AC<|Zik hT h;have E:=AC<|Zjz s<|ba l;have EB:AF (Lib.strCells (ba l)=Lib.byteCells l):=⟨by simp[Lib.strCells,Lib.byteCells,ba]⟩;have oQ:=hT.2;have hlen:(Lib.strCells s).length+l.length<1000000000:=by rw[Lib.strCells_length];exact hs
 have HG:=AC<|AJ hg hgb;clear h hT hg hgb;rw[EB.o]at E;obtain⟨n,hn⟩:=cK (l.length);rw[hn.o]at hlen⊢;generalize Lib.strCells s=bs at*;go_in
 go_wp2_with fail
 apply mq C.o;rintro w1 ⟨⟨Px,v,Bo,hown,hne⟩,hb1⟩;have G1:=hb1.blk HG.o.2 jB yV;have hnews: ∀ j u,(Lib.byteCells l)[j]?=some u->w1.cell? (((zm g o):Addr).add j)=some u:=fun j u hj=>by
  rw[Addr.add_lit,G1.cell,<- HG.o.2.cell];exact HG.o.1 j u hj
 obtain⟨va,vc,rfl⟩:=ZX hown;obtain⟨c0,c1,sf⟩:=AO.two (w:=w1) (L:=b) (e:=T) Bo;have hlt:b<w1.heap.size:=AO.lt (w:=w1) (L:=b) (e:=T) Bo;have hsz:=hb1.size;go_wp2_with (at_builtin;go_must (refine wpList_append_own _ rfl _ _ 149 rfl B 5 i0 _ 1 1 underlying149 hi hz0 hz1 hz2 rfl zu _ _ _ rfl hown (zm g o) n c (Lib.byteCells l) rfl (by rw[xl,hn.o];omega) hnews (Lib.byteCells_one l) ?c3 ?c4 ?c5 ?_))
 case c3=>unfold maxLen;omega
 case c4=>omega
 case c5=>omega
 intro v2 w2 Fe ED _;obtain⟨lM,lL,rfl⟩:=ZX Fe;have hb2:w2.heap[b]?=some (.cells #[zq b 0,sP va bs.length vc] T (0,0)):=by
  rw[ED.block b hlt fun e=>hne e.symm];exact Bo
 obtain⟨d0,d1,XU⟩:=AO.two (w:=w2) (L:=b) (e:=T) hb2;have EL:(bs++Lib.byteCells l).length=bs.length+n:=by rw[JS,xl,hn.o]
 have R:=AC<|AJ (Lib.BuilderAt.put (T:=T) (e:=5) Px hb2 (bs':=bs++Lib.byteCells l) (by rw[EL];exact Fe) oQ) (Fr.mk ((hb1.be.grown ED zx fun k hk=>(hown.lt k hk).1).setCell (p:=(zm b 1)) Px<|sP lM (bs.length+n) lL) fun k cs t fz hk ht q=>by
  have q1:=hb1.kept k cs t fz hk ht q;have kl:=(PN.1 q1).1;rw[Aw _ _ _ _ hk,ED.block k kl fun e=>Lib.ownBlock_ne hown q1 ht e.symm];exact q1)
 clear c0 c1 sf hown Fe ED hb2 Bo hb1 hne C hnews G1 HG;go_wp2
 go_ret2
 exact⟨rfl,Or.inr (by rw[E.o];exact R.o.1),R.o.2⟩
def Z8o (h:DV 153 B b s w){vs:Bu}{x:Ay}(hx:Ye4 vs x)(hs:s.size+(Em x).size<1000000000)(hB:B<=w.heap.size):
  Calls prog 88 #[zq b 0,.agg vs.toArray] w (LZ 153 B b (s++Em x) w):=by
 obtain⟨p1,n1,c1,p2,n2,c2,p3,n3,c3,rfl,VA⟩:=hx;have C:=AC fun o=>Zwf Ql (h.alloc o) x hs zc;clear h;go_in
 go_wp2_with fail
 apply(C.o _).mono;rintro e w1 ⟨rfl,hb1,BI⟩;have R:=AC<|AJ hb1<|((Fr.refl B b w).alloc hB _).trans BI;clear hb1 BI C;go_wp2
 go_end0
 exact⟨rfl,R.o.1,R.o.2⟩
def Zxp:Da 88:=EH func88 zt rfl
def Zza {S:Bool}{ts:List Ay}{tag:List UInt8}{p:Bp}(hB:B<=w.heap.size)(hrow:Ap 4 (Uh B w) p ts)(ht:tag.length=32)(hs:(KT S ts tag).size<1000000000):
  Calls prog 40 #[.agg<|DC S (sP p ts.length c)<|Lib.byteCells tag] w fun e w'=>e=uY (.string<|KT S ts tag)/\Bl w w':=by
 have Ho:=MR;obtain⟨CV,Dt⟩:=cK (DC S (sP p ts.length c) (Lib.byteCells tag));have v0:CV[0]?=some (.bool S):=by rw[<- Dt.o];rfl
 have v1:CV[1]?=some (sP p ts.length c):=by rw[<- Dt.o];rfl
 have v2:AF (∀ j u,(Lib.byteCells tag)[j]?=some u->CV[2+j]?=some u):=⟨fun j u hj=>by rw[<- Dt.o,DC,Tu,Nat.add_comm 2 j];exact hj⟩;rw[Dt.o];have BN:DV 153 (w.heap.size+1) (w.heap.size+1) ByteArray.empty ((w.alloc<|.cells CV 118).alloc<|.cells #[.pointer none,zn] 153):=by
  have:=Lib.fresh_isBuilder 153 5<|w.alloc<|.cells CV 118
  simp only[EV]at this;exact this
 have KC:=AC<|(AO.new w CV 118).alloc<|.cells #[.pointer none,zn] 153;have KB:=AC<|(zv w<|.cells CV 118).alloc zw<|.cells #[.pointer none,zn] 153;have hsz:(ba Nr).size=4:=rfl;have hS1:AF ((ba Nr).size+1+(BO Em ts).size+32<1000000000):=⟨by rw[KT,BM,BM,BM,Lh,Uk tag,ht]at hs;exact hs⟩;have C1:=AC<|Zj1 Ql BN (ba Nr) (by have:=hS1.o;simp;omega) zw;have HRW:=AC hrow;have HS:=AC hs;clear hrow hs BN;go_in
 go_wp2_with fail
 apply mq C1.o;rintro w1 ⟨hb1,BI⟩;rw[show ByteArray.empty++ba Nr=ba Nr by simp]at hb1;have hs1:AF (w.heap.size+2<=w1.heap.size):=⟨by have:=BI.size;simpa using this⟩;have c0:=((BI.blk KC.o zx zu).cell 0).trans v0;have c1:=((BI.blk KC.o zx zu).cell 1).trans v1;have C2:=AC fun k (hk:k<256)=>kI Ql hb1 k hk (fw (hS1.o)) (fw (hs1.o));have W1:=AC BI;clear C1 hb1 BI;have HF: ∃ s1,AF (s1=ba Nr++b1 (if S then 1 else 0)):=⟨_,⟨rfl⟩⟩;obtain⟨s1,HF⟩:=HF;cases S
 case' false=>
  go_wp2_with fail
  refine(C2.o 0 zu).mono ?_;rw[show ba Nr++b1 0=s1 from HF.o.symm]
 case' true=>
  go_wp2_with fail
  refine(C2.o 1 zu).mono ?_;rw[show ba Nr++b1 1=s1 from HF.o.symm]
 all_goals
  rintro e w2 ⟨rfl,hb2,hw2⟩;have W2:=AC<|W1.o.trans hw2;have hs2:AF (w.heap.size+2<=w2.heap.size):=⟨jE (hs1.o) (hw2.size)⟩;have Sn:=((W2.o.blk KC.o zx zu).cell 1).trans v1;have cr:EG B (w.heap.size+1) w w2:=⟨zx,fun b o hb=>((W2.o.be.cell (p:=(zm b o)) (by show b<w.heap.size+1;omega)).trans<|KB.o.cell (p:=(zm b o)) (by show b<w.heap.size;omega))⟩;have hq:s1.size=5:=by rw[HF.o,BM,Lh];rfl
  have C3:=AC (Zqk (c:=c) Zxp (first:=#[zq (w.heap.size+1) 0]) (cap:=#[]) (f:=Em) hb2 (fw (hS1.o)) (HRW.o.cy fun b o x h=>Uh.cy cr h) (fw (hs2.o)) fun u vs x s' hx RX hfu hlk hsz=>Z8o RX hlk hsz (jE (hfu.size) (hs2.o)));clear c0 c1 C2 hb2 hw2 cr W1;go_wp2_with fail
  apply mq C3.o;rintro w3 ⟨hb3,hw3⟩;have W3:=AC<|W2.o.trans hw3;have hs3:AF (w.heap.size+2<=w3.heap.size):=⟨jE (hs2.o) (hw3.size)⟩;have K3:=W3.o.blk KC.o (show w.heap.size≠w.heap.size+1 by omega) zu;have yl:(s1++BO Em ts).size=s1.size+(BO Em ts).size:=BM _ _;have C4:=AC<|Yba Ql hb3 tag (g:=w.heap.size) (o:=2) (c:=32) (fun j u hj=>(K3.cell _).trans (v2.o j u hj)) K3 zx zu (by rw[yl,ht];have:=hS1.o;omega) (fw (hs3.o));rw[ht]at C4;clear Sn C3 hb3 hw3 W2 K3;go_wp2_with fail
  apply mq C4.o;rintro w4 ⟨hb4,hw4⟩;have W4:=AC<|W3.o.trans hw4;have UL:AF (w.heap.size+2<=w4.heap.size):=⟨jE (hs3.o) (hw4.size)⟩;rw[HF.o]at hb4;have C5:=AC<|Zuf hb4 HS.o (fw (UL.o));clear C4 hb4 hw4 W3;go_wp2_with fail
  apply mq C5.o;rintro w5 BX;have R:=AC<|KB.o.trans<|(W4.o.be.trans BX).mono zx;clear BX C5;go_wp2
  go_ret
  exact⟨rfl,R.o⟩
section
open Go
def Yf1 (i1 i2 i3 i4:Nat) (d1 d2 d3 d4:Bool):Cg:=(if d1 then []else [i1])++((if d2 then(if d3 then []else [i3])else [i2])++(if d4 then []else [i4]))
def kN (d1 d2 d3 d4:Bool):Nat:=(if d1 then 0 else 1)+(if d2 then 0 else 1)+(if d3 then 0 else 1)+(if d4 then 0 else 1)
def bH (P:Program) (ops:Array Oper) (Q:Exit->Act->Bb->Prop) (o:Oper) (a:Act) (w:Bb) (K:Act->Bb->Prop):Prop:=if Region.wanted o (yielded ops a.tmps)=true then Oper.wp P o a w K Q else K (a.put o.dst undef) w
def Z7a {P:Program}{ops:Array Oper}{Q:Exit->Act->Bb->Prop}{S:Bb->Prop}(L:Bool->Bool->Bool->Bool->Array Bool)(i1 i2 i3 i4:Nat)(o1 o2 o3 o4:Oper)(J:Bool->Bool->Bool->Bool->Act->Bb->Prop)(fuel:Nat)(hS: ∀ d1 d2 d3 d4 a w,J d1 d2 d3 d4 a w->S w)
  (ho1:ops[i1]?=some o1) (FM:ops[i2]?=some o2) (Xa:ops[i3]?=some o3) (jA:ops[i4]?=some o4)
  (hr: ∀ d1 d2 d3 d4,(d3=true->d2=true)->(d1 && d3)=false->Region.ready .any ops (L d1 d2 d3 d4)=Yf1 i1 i2 i3 i4 d1 d2 d3 d4)
  (h1: ∀ d2 d3 d4,(L false d2 d3 d4).setIfInBounds i1 true=L true d2 d3 d4) (h2: ∀ d1 d3 d4,(L d1 false d3 d4).setIfInBounds i2 true=L d1 true d3 d4) (h3: ∀ d1 d2 d4,(L d1 d2 false d4).setIfInBounds i3 true=L d1 d2 true d4) (h4: ∀ d1 d2 d3,(L d1 d2 d3 false).setIfInBounds i4 true=L d1 d2 d3 true)
  (s1: ∀ d2 d3 d4 a w,J false d2 d3 d4 a w-> ∀ K,(∀ a' w',J true d2 d3 d4 a' w'->K a' w')->bH P ops Q o1 a w K)
  (s2: ∀ d1 d4 a w,J d1 false false d4 a w-> ∀ K,(∀ a' w',J d1 true false d4 a' w'->K a' w')->bH P ops Q o2 a w K)
  (s3: ∀ d1 d4 a w,J d1 true false d4 a w-> ∀ K,(∀ a' w',J d1 true true d4 a' w'->K a' w')->bH P ops Q o3 a w K)
  (s4: ∀ d1 d2 d3 a w,J d1 d2 d3 false a w-> ∀ K,(∀ a' w',J d1 d2 d3 true a' w'->K a' w')->bH P ops Q o4 a w K)
  (hend: ∀ d4 a w,J true true true d4 a w->wpAnyH P .any ops Q S (fuel+kN true true true d4) (L true true true d4) a w):
  ∀ n d1 d2 d3 d4,kN d1 d2 d3 d4=n->(d3=true->d2=true)-> ∀ a w,J d1 d2 d3 d4 a w->wpAnyH P .any ops Q S (fuel+n) (L d1 d2 d3 d4) a w:=by
 intro n;induction n with
 | zero=>
  intro d1 d2 d3 d4 hn G7 a w hJ;cases d1 <;> cases d2 <;> cases d3 <;> cases d4 <;> first | (exact absurd hn zu) | exact hend true a w hJ
 | succ n ih=>
  intro d1 d2 d3 d4 hn G7 a w hJ;by_cases pG:(d1 && d3)=true
  .obtain⟨rfl,rfl⟩:=Bool.and_eq_true_iff.1 pG;obtain rfl:=G7 rfl
   have:=hend d4 a w hJ
   rw[hn]at this;exact this
  have pG:(d1 && d3)=false:=by simpa using pG
  have hrr:=hr d1 d2 d3 d4 G7 pG;refine⟨fun h0=>?_,fun i hi=>?_⟩
  .rw[hrr]at h0;cases d1 <;> cases d2 <;> cases d3 <;> cases d4 <;> first | (simp[Yf1]at h0;done) | (simp at pG;done)
  .rw[hrr]at hi;unfold Yf1 at hi;rcases Aj.1 hi with hi | hi
   .cases d1 with
    | true=>cases hi
    | false=>
     obtain rfl:i=i1:=by simpa using hi
     refine wpOp_step ho1 fun K hK=>s1 _ _ _ _ _ hJ K fun a' w' WL=>hK a' w' ⟨hS _ _ _ _ _ _ WL,?_⟩;rw[h1];exact ih _ _ _ _ (by simp[kN]at hn⊢;omega) G7 _ _ WL
   .rcases Aj.1 hi with hi | hi
    .cases d2 with
     | true=>
      cases d3 with
      | true=>cases hi
      | false=>
       obtain rfl:i=i3:=by simpa using hi
       refine wpOp_step Xa fun K hK=>s3 _ _ _ _ hJ K fun a' w' WL=>hK a' w' ⟨hS _ _ _ _ _ _ WL,?_⟩;rw[h3];exact ih _ _ _ _ (by simp[kN]at hn⊢;omega) (fun _=>rfl) _ _ WL
     | false=>
      obtain rfl:i=i2:=by simpa using hi
      obtain rfl:d3=false:=by cases d3 with
       | false=>rfl
       | true=>exact absurd (G7 rfl) zu
      refine wpOp_step FM fun K hK=>s2 _ _ _ _ hJ K fun a' w' WL=>hK a' w' ⟨hS _ _ _ _ _ _ WL,?_⟩;rw[h2];exact ih _ _ _ _ (by simp[kN]at hn⊢;omega) (fun h=>by cases h) _ _ WL
    .cases d4 with
     | true=>cases hi
     | false=>
      obtain rfl:i=i4:=by simpa using hi
      refine wpOp_step jA fun K hK=>s4 _ _ _ _ _ hJ K fun a' w' WL=>hK a' w' ⟨hS _ _ _ _ _ _ WL,?_⟩;rw[h4];exact ih _ _ _ _ (by simp[kN]at hn⊢;omega) G7 _ _ WL
end
end Go.W
