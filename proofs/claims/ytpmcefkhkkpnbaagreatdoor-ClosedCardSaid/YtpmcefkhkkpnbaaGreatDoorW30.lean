import Derived.Test.YtpmcefkhkkpnbaaGreatDoorW29
import Derived.Maps.RangeRun
set_option linter.all false
set_option maxRecDepth 100000
set_option maxHeartbeats 8000000
open Go.Proofs Go.RowKit Go.W Tryz
namespace Go.W
variable {B:Nat->Nat->Nat->Nat}{len:Nat}
def UD (B:Nat->Nat->Nat->Nat) (L:Nat->Nat) (i n len:Nat):Nat->Nat:=fun k=>if i<k/\k<len then L k &&& B i n k else L k
def Xq (B:Nat->Nat->Nat->Nat) (len:Nat):Nat->Nat->(Nat->Nat)->Prop
 | 0,_,_=>True
 | d+1,i,L=> ∃ n,n∈DZ (L i)/\(∀ k,i<k->k<len->L k &&& B i n k≠0)/\Xq B len d (i+1) (UD B L i n len)
def Z9s {L:Nat->Nat}{i n m:Nat}(h: ∀ k,L k<2 ^ m)(k:Nat):UD B L i n len k<2 ^ m:=by
 unfold UD;split
 .exact Nat.lt_of_le_of_lt Nat.and_le_left<|h k
 .exact h k
def qX: ∀ (d i:Nat) (L:Nat->Nat),i+d=len->(∀ k,L k<2 ^ 60)->(Xq B len d i L↔ ∃ ns:Nat->Nat,(∀ j,i<=j->j<len->(L j).testBit (ns j)=true)/\ ∀ j k,i<=j->j<k->k<len->(B j (ns j) k).testBit (ns k)=true)
 | 0,i,L,h,_=>by
  refine⟨fun _=>⟨fun _=>0,fun j h1 h2=>zx,fun j k h1 h2 h3=>zx⟩,fun _=>trivial⟩
 | d+1,i,L,h,hL=>by
  have DK:(2:Nat) ^ 60<2 ^ 64:=zu
  have mb: ∀ k n,n∈DZ (L k)↔(L k).testBit n=true:=fun k n=>Ol (Nat.lt_trans (hL k) DK);constructor
  .rintro⟨n,h1,_,h3⟩;obtain⟨ns,g1,g2⟩:=(qX d (i+1) _ zx<|Z9s hL).1 h3;have gl: ∀ j,i+1<=j->j<len->(L j).testBit (ns j)=true/\(B i n j).testBit (ns j)=true:=fun j a b=>by
    have:=g1 j a b
    unfold UD at this;rw[xj ⟨zx,b⟩,Nat.testBit_and,wx]at this;exact this
   refine⟨fun j=>if j=i then n else ns j,fun j a b=>?_,fun j k a b e=>?_⟩
   .dsimp only;by_cases ej:j=i
    .rw[xj ej,ej];exact(mb i n).1 h1
    .rw[xd ej];exact(gl j zx b).1
   .dsimp only;rw[xd (show k≠i by omega)];by_cases ej:j=i
    .rw[xj ej,ej];exact(gl k zx e).2
    .rw[xd ej];exact g2 j k zx b e
  .rintro⟨ns,g1,g2⟩;refine⟨ns i,(mb i _).2<|g1 i lr zx,fun k a b e=>?_,(qX d (i+1) _ zx<|Z9s hL).2 ⟨ns,fun j a b=>?_,fun j k a b e=>g2 j k zx b e⟩⟩
   .have:(L k &&& B i (ns i) k).testBit (ns k)=true:=by rw[Nat.testBit_and,g1 k zx b,g2 i k lr a b];rfl
    rw[e]at this;simp at this
   .unfold UD;rw[xj ⟨zx,b⟩,Nat.testBit_and,g1 j zx b,g2 i j lr zx b];rfl
end Go.W
set_option linter.unusedSectionVars false
namespace Go.W
section
variable {k i n:Nat}{B:Nat->Nat->Nat->Nat}{L:Nat->Nat}
variable [Mem]
def D7 (L:Nat->Nat):Ca:=#[.int .u64 (L 0:Int),.int .u64 (L 1:Int),.int .u64 (L 2:Int),.int .u64 (L 3:Int)]
def fe (L:Nat->Nat)(hk:k<4):(D7 L)[k]?=some (.int .u64 (L k:Int)):=by
 have h:k=0\/k=1\/k=2\/k=3:=zx
 rcases h with rfl | rfl | rfl | rfl <;> rfl
def vM (L:Nat->Nat)(hk:k<4)(v:Nat):(D7 L).setIfInBounds k (.int .u64 (v:Int))=D7 (YD L k v):=by
 have h:k=0\/k=1\/k=2\/k=3:=zx
 rcases h with rfl | rfl | rfl | rfl <;> rfl
def PP (B:Nat->Nat->Nat->Nat) (L:Nat->Nat) (i n m:Nat):Nat->Nat:=fun k=>if i<k/\k<m then L k &&& B i n k else L k
def rT (B:Nat->Nat->Nat->Nat) (L:Nat->Nat) (i n len:Nat) (e:Ending):Prop:= ∃ L' r,e=uY (.tuple #[.agg<|D7 L',.bool r])/\(r=true↔ ∀ k,i<k->k<len->L k &&& B i n k≠0)/\(r=true->L'=UD B L i n len)
def rT.mk {len:Nat}(L':Nat->Nat)(r:Bool)(h1:r=true↔ ∀ k,i<k->k<len->L k &&& B i n k≠0)(h2:r=true->L'=UD B L i n len):rT B L i n len (.returned<|.tuple #[.agg<|D7 L',.bool r]):=⟨L',r,rfl,h1,h2⟩
def Yc2 {m:Nat}(h:i<m):YD (PP B L i n m) m (L m &&& B i n m)=PP B L i n (m+1):=by
 funext k
 unfold YD PP;by_cases e:k=m
 .subst e;rw[xj rfl,xj ⟨h,zx⟩]
 .rw[xd e];by_cases h2:i<k/\k<m
  .rw[xj h2,xj ⟨h2.1,zx⟩]
  .rw[xd h2,xd zx]
end
section
variable [Mem]
def Yjk (B:Nat->Nat->Nat->Nat) (L:Nat->Nat) (i n len b:Nat) (w:Bb) (iv:Value) (wr:Bb):Prop:= ∃ m:Nat,i<m/\m<=max (i+1) len/\iv= zo (m:Int)/\AO wr b (D7<|PP B L i n m) 307/\(∀ k,i<k->k<m->L k &&& B i n k≠0)/\Off [b] w wr
def Zya {a:Nat->Addr}{c:Cx}{cs:Ca}{fs:List Fc}{vs:List T}{F:Cg}{xs:Bn}{ov:Value}{Fo:Cg}{w:Bb}(h:Ctx a c cs fs vs F xs ov Fo w){A:Nat->Nat}{B:Nat->Nat->Nat->Nat}(hT:Hy cs A B){L:Nat->Nat}(hL: ∀ k,L k<2 ^ 60){i n:Nat}(hi:i<4)(hn:n<60):
  Calls prog 264 #[zq c.q 0,.agg<|D7 L,zo (i:Int),zo (n:Int)] w fun e w'=>rT B L i n c.b.at_.length e/\Bl w w':=by
 obtain⟨c3,Yn,_⟩:=h.rd.atoms;have q3:=(h.cell 3 zx).trans c3;have Ea:=h.bd.blk.lt;have HT:=AC hT;have H:=AC h;have hi4:(i:Int)<4:=zx
 have zB:(n:Int)<60:=zx
 unfold D7;clear h hT;go_in
 go_wp2_with fail
 obtain⟨W2,hW2⟩:=cK ((w.alloc<|.cells #[.int .u64 (L 0:Int),.int .u64 (L 1:Int),.int .u64 (L 2:Int),.int .u64 (L 3:Int)] 307).alloc (.cells #[.int .u64 0,.int .u64 0,.int .u64 0,.int .u64 0] 307));have B2:AF (Bl w W2):=⟨hW2.o▸((AR _ w).alloc lr _).alloc zw _⟩;have S2:AF (W2.heap.size=w.heap.size+2):=⟨by rw[<- hW2.o];simp⟩;have L0:AF (AO W2 w.heap.size (D7 L) 307):=⟨hW2.o▸(AO.new w _ _).alloc _⟩;have L1:AF (AO W2 (w.heap.size+1) #[.int .u64 0,.int .u64 0,.int .u64 0,.int .u64 0] 307):=⟨hW2.o▸Ur w _ _ _⟩;rw[hW2.o];clear hW2;have hz:=S2.o;go_loopw [10] (fun iv wr=>Yjk B L i n c.b.at_.length w.heap.size W2 iv wr) (fun iv _=>c.b.at_.length-(intOf iv).toNat)
 .refine⟨i+1,zx,zx,by go_num,?_,fun k h1 h2=>zx,Off.refl _ _⟩
  have:PP B L i n (i+1)=L:=by funext k;unfold PP;rw[xd zx]
  rw[this];exact L0.o
 .obtain⟨m,zO,VL,rfl,Bo,hall,IB⟩:=hrel;have HB:=AC<|AJ Bo<|AJ hall IB;have up: ∀ j o,j<w.heap.size->wr.cell? (zm j o)=w.cell? (zm j o):=fun j o hj=>(A9 (a:=(zm j o)) (IB.block j zx fun e=>fw (Bh.1 e))).trans (A9 (a:=(zm j o))<|B2.o.block j hj);have lW:=(up c.q 3 Ea).trans q3;have K1:=AC<|L1.o.of<|IB.block (w.heap.size+1) L1.o.lt zw;by_cases hlt:m<c.b.at_.length
  .have Si:m<4:=zx
   have hm4':(m:Int)<4:=zx
   obtain⟨cb,eY⟩:=HT.o.b i n m hi hn Si;have qb:=(up c.q (12+i*240+n*4+m) Ea).trans<|(H.o.cell (12+i*240+n*4+m) zx).trans cb;have hLm:PP B L i n m m=L m:=by unfold PP;rw[xd zx]
   have qm:=(Bo.cell m).trans<|fe _ Si;rw[hLm]at qm;have qs:=Bo.soft;have hL60:=hL m;have DK:(2:Nat) ^ 60<18446744073709551616:=zu
   have ha:bits BinOp.and IntKind.u64 (L m:Int) (B i n m:Int)=((L m &&& B i n m:Nat):Int):=u64_and_nat _ _ zx zx;have SU:=AC<|vM (PP B L i n m) Si<|L m &&& B i n m;rw[Yc2 zO]at SU;have NV:=AC (show PP B L i n (m+1)=PP B L i n (m+1)from rfl);obtain⟨v,hv⟩:=cK (L m &&& B i n m);rw[hv.o]at ha SU;have KS:=AC<|SU.o▸Bo.set m (.int .u64 (v:Int));have OS:=AC<|IB.set w.heap.size m (.int .u64 (v:Int))<|.inl zw;clear Bo hall IB up cb hLm eY hL60 DK;go_wp2
   go_region
   all_goals
    have kg:AO (wr.setCell (zm w.heap.size m)<|.int .u64 (v:Int)).drew w.heap.size (D7<|PP B L i n<|m+1) 307:=KS.o;have xO:Off [w.heap.size] W2 (wr.setCell (zm w.heap.size m)<|.int .u64 (v:Int)).drew:=⟨OS.o.os,OS.o.tape,OS.o.output,OS.o.size,OS.o.block⟩;have K2:AO (wr.setCell (zm w.heap.size m)<|.int .u64 (v:Int)).drew (w.heap.size+1) #[.int .u64 0,.int .u64 0,.int .u64 0,.int .u64 0] 307:=L1.o.of<|xO.block (w.heap.size+1) L1.o.lt zw;have km:(wr.setCell (zm w.heap.size m)<|.int .u64 (v:Int)).drew.cell? (zm w.heap.size m)=some (.int .u64 (v:Int)):=by
     have:=(kg.cell m).trans<|fe _ Si
     rw[show PP B L i n (m+1) m=v by rw[<- hv.o];unfold PP;rw[xj ⟨zO,zx⟩]]at this;exact this
    have R2:=AC<|AJ kg xO;generalize (wr.setCell (zm w.heap.size m)<|.int .u64 (v:Int)).drew=U at*;by_cases h0:v=0
    .have g0:((v:Int)==0)=true:=by rw[h0];rfl
     have FB:AF (¬ ∀ k,i<k->k<c.b.at_.length->L k &&& B i n k≠0):=⟨fun h=>h m zO hlt (hv.o.trans h0)⟩;unfold D7 at kg;obtain⟨k0,k1,k2,k3,ks⟩:=kg.four;obtain⟨z0,z1,z2,z3,zs⟩:=K2.four;clear kg xO K2 h0;go_wp2
     refine Bg (by simp[results,results264,go_sem,z0,z1,z2,z3];try rfl) rfl ?_;refine⟨rT.mk (PP B L i n<|m+1) false ⟨fun h=>(by cases h),fun h=>absurd h FB.o⟩ (fun h=>by cases h),?_⟩;have hb:=(B2.o.trans<|R2.o.2.be (B:=w.heap.size) zw zx);have hle:w.heap.size<=w.heap.size+1:=zx
     exact(((hb.setCell (p:=(zm (w.heap.size+1) 0)) hle _).setCell (p:=(zm (w.heap.size+1) 1)) hle _).setCell (p:=(zm (w.heap.size+1) 2)) hle _).setCell (p:=(zm (w.heap.size+1) 3)) hle _
    .have g0:((v:Int)==0)=false:=zj
     clear kg xO K2;go_wp2
     go_roundw
     .exact⟨m+1,zx,zx,by go_num,R2.o.1,fun k h1 h2=>by by_cases e:k=m;(subst e;rw[hv.o];exact h0);exact HB.o.2.1 k h1 zx,R2.o.2⟩
     simp[intOf];omega
  .have L8: ¬ (m:Int)<(c.b.at_.length:Int):=zx
   have TB:AF (∀ k,i<k->k<c.b.at_.length->L k &&& B i n k≠0):=⟨fun k h1 h2=>hall k h1 zx⟩
   have EL:AF (PP B L i n m=UD B L i n c.b.at_.length):=⟨by funext k;unfold PP UD;by_cases e:i<k∧k<m;rw[xj e,xj zx];rw[xd e,xd zx]⟩
   rw[EL.o]at Bo;have hb:=AC<|B2.o.trans<|IB.be (B:=w.heap.size) zw zx;unfold D7 at Bo;obtain⟨k0,k1,k2,k3,ks⟩:=Bo.four;obtain⟨z0,z1,z2,z3,zs⟩:=K1.o.four;clear Bo hall IB up;go_wp2
   refine Bg (by simp[results,results264,go_sem,z0,z1,z2,z3];try rfl) rfl ?_;have hle:w.heap.size<=w.heap.size+1:=zx
   refine⟨rT.mk (UD B L i n c.b.at_.length) true ⟨fun _=>TB.o,fun _=>rfl⟩ fun _=>rfl,?_⟩;exact(((hb.o.setCell (p:=(zm (w.heap.size+1) 0)) hle _).setCell (p:=(zm (w.heap.size+1) 1)) hle _).setCell (p:=(zm (w.heap.size+1) 2)) hle _).setCell (p:=(zm (w.heap.size+1) 3)) hle _
end
variable {P:Program}
def Zze {c:Code}{Q:Exit->Act->Bb->Prop}{a:Act}{w:Bb}(n:Nat)(I:Nat->Act->Bb->Prop)(h0:I 0 a w)(hs: ∀ k a w,k<n->I k a w->c.wp P (Exit.then (I<|k+1) Q) a w)(he: ∀ a w,I n a w->c.wp P (Exit.then (fun _ _=>False) Q) a w):(Code.loop c).wp P Q a w:=by
 refine YA (n+1) ?_;have key: ∀ d k a w,k+d=n->I k a w->Code.rounds P c Q (d+1) a w:=by
  intro d;induction d with
  | zero=>
   intro k a w hk h;obtain rfl:k=n:=zx
   exact he a w h
  | succ d ih=>
   intro k a w hk h;rw[Tt];refine Code.wp_mono (fun e a w q=>?_)<|hs k a w zx h;cases e
   case normal=>exact ih (k+1) a w zx q
   all_goals exact q
 exact key n 0 a w zx h0
def Yip (m:Nat):Deferred:={target:= .collected m,args:=#[]}
def Zod {F:Fence}{n:Nat}{fn:Func}{tmps:Ca}{R:Ending->Bb->Prop}: ∀ (ms:Cg) (w:Bb),ms.Nodup->(∀ m,m∈ms->w.heap[m]?=some (.deferred<|some []))->(∀ u,Off ms w u->LeavesInM F n P fn tmps R [] .returning u)->LeavesInM F n P fn tmps R (ms.map Yip) .returning w
 | [],w,_,_,h=>h w (Off.refl _ w)
 | m::ms,w,hn,hm,h=>by
  obtain⟨h1,h2⟩:=List.nodup_cons.1 hn;refine⟨zw,.inl ⟨m,_,rfl,run_takeDeferred<|hm m zw,?_⟩⟩;refine Zod ms _ h2 (fun k hk=>?_) fun u hu=>h u ?_
  ·have hkm:k≠m:=fun e=>h1 (by rw[<- e];exact hk);exact(World.putObj_heap_other hkm).trans<|hm k (by simp[hk])
  ·exact(Off.putObj (F:=m::ms) (w:=w) (l:=m) (.deferred none) zw).trans hu fun i hi=> .inl (by simp[hi])
end Go.W
set_option linter.unusedSectionVars false
namespace Go.W
section
variable [Mem]
def ai (B:Nat->Nat->Nat->Nat) (len d k:Nat) (L:Nat->Nat) (e:Ending):Prop:= ∃ r,e=uY (.bool r)/\(r=true↔Xq B len d k L)
def ai.mk {B:Nat->Nat->Nat->Nat}{len d k:Nat}{L:Nat->Nat}(r:Bool)(h:r=true↔Xq B len d k L):ai B len d k L (.returned<|.bool r):=⟨r,rfl,h⟩
def Yjg (B:Nat->Nat->Nat->Nat) (len d k:Nat) (L:Nat->Nat) (n:Nat):Prop:=(∀ j,k<j->j<len->L j &&& B k n j≠0)/\Xq B len d (k+1) (UD B L k n len)
end
section
open Go.Shelf
variable {b v:Nat}{a:Nat->Addr}{cs:Ca}{vs:List T}{F Fo:Cg}{ov:Value}{B:Nat->Nat->Nat->Nat}
variable [Mem]
attribute [local go_sem] Me
def pW (w:Bb) (q b v:Nat):Prop:=AO w b #[zq q 0] 232/\AO w v #[.func (.func 263) #[] #[zq b 0,zq v 0]] 371
def pW.be {w u:Bb}{q:Nat}(h:pW w q b v)(hb:Bl w u):pW u q b v:=⟨h.1.of<|hb.block _ h.1.lt,h.2.of<|hb.block _ h.2.lt⟩
def uz (a:Nat->Addr) (c:Cx) (cs:Ca) (fs:List Fc) (vs:List T) (F:Cg) (xs:Bn) (ov:Value) (Fo:Cg) (B:Nat->Nat->Nat->Nat) (b v d:Nat):Prop:= ∀ (k:Nat) (L:Nat->Nat) (w:Bb),k+d=c.b.at_.length->Ctx a c cs fs vs F xs ov Fo w->pW w c.q b v->(∀ j,L j<2 ^ 60)->Calls prog 263 #[zo (k:Int),.agg<|D7 L,zq b 0,zq v 0] w fun e w'=>ai B c.b.at_.length d k L e/\Bl w w'
def Ydz {c:Cx}{fs:List Fc}{xs:Bn}:uz a c cs fs vs F xs ov Fo B b v 0:=by
 intro k L w QZ h hw _;obtain rfl:k=c.b.at_.length:=zx
 obtain⟨c3,_,_⟩:=h.rd.atoms;have q3:=(h.cell 3 zx).trans c3;have Ea:=h.bd.blk.lt;have b0:=hw.1.one.1;have hbl:=hw.1.lt;have B3: ∀ o1 o2 o3,Bl w (((w.alloc o1).alloc o2).alloc o3):=fun o1 o2 o3=>(((AR _ w).alloc lr o1).alloc zw o2).alloc zc o3;have lW: ∀ o1 o2 o3,(((w.alloc o1).alloc o2).alloc o3).cell? (zm c.q 3)=some (sP c.pa c.b.at_.length c.ca):=fun o1 o2 o3=>(A9 (a:=(zm c.q 3))<|(B3 o1 o2 o3).block c.q Ea).trans q3;have b0': ∀ o1 o2 o3,(((w.alloc o1).alloc o2).alloc o3).cell? (zm b 0)=some (zq c.q 0):=fun o1 o2 o3=>(A9 (a:=(zm b 0))<|(B3 o1 o2 o3).block b hbl).trans b0;unfold D7;clear h hw;refine(callsIn_wide (n:=5)).1 ?_;refine callsIn_of_wp_marks func263 rfl trivial ?_ rfl;simp only[ntmps263,GN,DU,JC,Nat.reduceAdd,Nat.reduceSub,Qu,Qv,Qr,Qt,JU,EC];refine wpIn_wide.2 ?_;go_wp2
 go_quiet (fail)
 go_wp2
 exact⟨.bool true,by simp[results,results263,go_sem],ai.mk true ⟨fun _=>trivial,fun _=>rfl⟩,(MW<|B3 _ _ _).setCell (p:=(zm (w.heap.size+1+1) 0)) (by show w.heap.size<=w.heap.size+1+1;omega) _⟩
def Ya6 {c:Cx}{fs:List Fc}{xs:Bn}{A:Nat->Nat}(hT:Hy cs A B){d:Nat}(ih:uz a c cs fs vs F xs ov Fo B b v d):uz a c cs fs vs F xs ov Fo B b v (d+1):=by
 intro k L w QZ h hw hL;obtain⟨c3,Yn,_⟩:=h.rd.atoms;have q3:=(h.cell 3 zx).trans c3;have Ea:=h.bd.blk.lt;have b0:=hw.1.one.1;have hbl:=hw.1.lt;have ne:((k:Int)==(c.b.at_.length:Int))=false:=zj
 have hk4:(k:Int)<4:=zx
 have DK:(2:Nat) ^ 60<2 ^ 64:=zu
 have HN:=AC fun u (hu:Bl w u) n (hn:n<60)=>Zya (h.be hu) hT hL (i:=k) zx hn;have HW:=AC fun u (hu:Bl w u) n=>ih (k+1) (UD B L k n c.b.at_.length) u zx (h.be hu) (hw.be hu) (Z9s hL);have HWA:=AC hw;have HG:=AC h.gl;have hLk:=hL k;have LS:=AC<|fe L (k:=k) zx;clear h hw ih;obtain⟨W3,hW3⟩:=cK (((w.alloc<|.cells #[zo (k:Int)] 3).alloc<|.cells (D7 L) 307).alloc (.cells #[.bool false] 4));have B3:AF (Bl w W3):=⟨hW3.o▸(((AR _ w).alloc lr _).alloc zw _).alloc zc _⟩;have S3:AF (W3.heap.size=w.heap.size+3):=⟨by rw[<- hW3.o];simp⟩;have L0:AF (AO W3 w.heap.size #[zo (k:Int)] 3):=⟨hW3.o▸((AO.new w _ _).alloc _).alloc _⟩;have L1:AF (AO W3 (w.heap.size+1) (D7 L) 307):=⟨hW3.o▸(Ur w _ _ _).alloc _⟩;have L2:AF (AO W3 (w.heap.size+1+1) #[.bool false] 4):=⟨hW3.o▸bU w _ _ _ _⟩;have y0:=L0.o.one.1;have yk:W3.cell? (zm (w.heap.size+1) k)=some (.int .u64 (L k:Int)):=(L1.o.cell k).trans LS.o;have Ho:=fun(fn:Fn) (first cap:Ca) (w:Bb)=>(rfl:(Instr.makeFunc fn first cap).run prog w= .ok (.func fn first cap) w);have lW:=(A9 (a:=(zm c.q 3))<|B3.o.block c.q Ea).trans q3;have b0':=(A9 (a:=(zm b 0))<|B3.o.block b hbl).trans b0;clear q3 b0;unfold D7 at hW3⊢;refine(callsIn_wide (n:=5)).1 ?_;refine callsIn_of_wp_marks func263 rfl trivial ?_ rfl;simp only[ntmps263,GN,DU,JC,Nat.reduceAdd,Nat.reduceSub,Qu,Qv,Qr,Qt,JU,EC];refine wpIn_wide.2 ?_;go_wp2_with fail
 rw[hW3.o];clear hW3;go_quiet (fail)
 go_wp2_with fail
 have eB:=S3.o;have BL:AF (∀ W W',Bl w W->Off [W3.heap.size,W3.heap.size+1] W W'->Bl w W'):=⟨fun W W' hB k=>hB.trans (k.be (fun i hi=>by simp at hi;omega) hB.size)⟩;have hen: ∀ args w,(callFunc 263 args).run prog w= .ok (.enter 263 args) w:=EH func263 zt rfl;refine(wpIn_wide (n:=5)).1 ?_;refine vF (K:=173) (s:=L k) (xs:=DZ<|L k) (Z:=ZN) rfl (EH func173 zt rfl) (ut _ (L k) zx) rfl
  (fun pre W=>(∀ n,n∈pre-> ¬ Yjg B c.b.at_.length d k L n)/\Bl w W/\AO W w.heap.size #[zo (k:Int)] 3/\AO W (w.heap.size+1) (D7 L) 307/\AO W (w.heap.size+1+1) #[.bool false] 4)
  (fun _ W=>Xq B c.b.at_.length (d+1) k L/\Bl w W/\AO W (w.heap.size+1+1) #[.bool true] 4) (fun _ W h=>(HG.o.of (F:=[]) (Off.of h.2.1) fun _ h=>(by cases h)).bits) ?_ ?_ ⟨fun _ h=>(by cases h),MW B3.o,L0.o,L1.o,L2.o⟩
  (fun x=>{tmps:=#[zo (k:Int),.agg #[.int .u64 (L 0:Int),.int .u64 (L 1:Int),.int .u64 (L 2:Int),.int .u64 (L 3:Int)],zq b 0,zq v 0,zq w.heap.size 0,zq (w.heap.size+1) 0,zq (w.heap.size+1+1) 0,zo (x:Int),undef,undef,zo (k:Int),zq c.q 0,zq c.q 0,zq c.q 3,sP c.pa c.b.at_.length c.ca,zo (c.b.at_.length:Int),.bool false,zo (k:Int),zq (w.heap.size+1) k,.int .u64 (L k:Int),.func (.func 173) #[.int .u64 (L k:Int)] #[],zo (x:Int),undef,undef,undef,undef,undef,undef,undef,undef,undef,undef,undef,undef,undef,undef,undef,undef],defers:=[]}) ?assign ?body ?done ?stop
 .rintro pre W W' ⟨hg,hB,b0,b1,b2⟩ k;have nn: ∀ j,j<w.heap.size+3->j∉[W3.heap.size,W3.heap.size+1]:=fun j hj=>zc
  exact⟨hg,BL.o W W' hB k,b0.of<|k.block _ b0.lt<|nn _ zx,b1.of<|k.block _ b1.lt<|nn _ zx,b2.of<|k.block _ b2.lt<|nn _ zx⟩
 .rintro pre W W' ⟨hg,hB,b2⟩ k;exact⟨hg,BL.o W W' hB k,b2.of<|k.block _ b2.lt zc⟩
 case assign=>
  intro l x W K hK;gi_wp2
  exact hK
 case body=>
  rintro l pre x rest' W hx ⟨hg,hB,b0,b1,b2⟩ hW;have VB:x∈DZ (L k):=by rw[hx];simp
  have Vz:x<60:=by
   refine Nat.lt_of_not_le fun h=>?_
   have:=(Ol zx).1 VB
   rw[Nat.testBit_lt_two_pow<|BK hLk<|wi zx h]at this;cases this
  have HH:=AC<|AJ hB<|AJ b0<|AJ b1<|AJ b2 hg;have bb:=(A9 (a:=(zm b 0))<|hB.block b hbl).trans HWA.o.1.one.1;have z0:=b0.one.1;unfold D7 at b1;obtain⟨z1,z2,z3,z4,zs⟩:=b1.four;have C1:=AC<|HN.o W hB x Vz;unfold D7 at C1;clear hB b0 b1 b2 hg;gi_wp2
  refine⟨trivial,(CallsIn.inRound l<|callsIn_wide.2 C1.o).mono ?_⟩;rintro e w4 ⟨⟨L',r,rfl,hr1,hr2⟩,hb4⟩;obtain⟨hB,b0,b1,b2,hg⟩:=HH.o;have O0:Bl w w4:=hB.trans<|hb4.mono hB.size;have U6:=AC<|AJ hb4<|AJ O0<|AJ (b0.of<|hb4.block _ b0.lt)<|AJ (b1.of<|hb4.block _ b1.lt)<|b2.of<|hb4.block _ b2.lt;have z0': ∀ o,(w4.alloc o).cell? (zm w.heap.size 0)=_:=fun o=>(U6.o.2.2.1.alloc o).one.1;have vv: ∀ o,(w4.alloc o).cell? (zm v 0)=_:=fun o=>(A9 (a:=(zm v 0))<|(O0.alloc O0.size o).block v HWA.o.2.lt).trans HWA.o.2.one.1;have HR:=AC<|AJ hr1 hr2;clear hB b0 b1 b2 hb4 O0 hg hr1 hr2;unfold D7;cases r with
  | false=>
   gi_wp2
   refine⟨fun f h=>(by cases h),?_⟩;gi_wp2
   obtain⟨hb4,O0,b0,b1,b2⟩:=U6.o;have ba: ∀ o,Bl w4 (w4.alloc o):=fun o=>(AR _ w4).alloc lr o;refine⟨⟨((ba _).block _<|BK (Nat.lt_of_succ_lt hW) hb4.size).trans<|hb4.block _<|Nat.lt_of_succ_lt hW,((ba _).block _<|BK hW hb4.size).trans<|hb4.block _ hW⟩,fun n hn=>?_,O0.trans<|(ba _).mono O0.size,b0.alloc _,b1.alloc _,b2.alloc _⟩;rcases Aj.1 hn with hn | hn
   .exact HH.o.2.2.2.2 n hn
   .rw[Bh.1 hn];intro q
    have:=HR.o.1.2 q.1
    first | cases this | exact this.elim
  | true=>
   obtain rfl:=HR.o.2 rfl;have C2:=AC<|HW.o (w4.alloc<|.cells (D7<|UD B L k x c.b.at_.length) 307) (U6.o.2.1.alloc U6.o.2.1.size _) x;unfold D7 at C2;gi_wp2
   rw[show((k+1:Nat):Int)=(k:Int)+1 from rfl]at C2;refine⟨trivial,(CallsIn.inRound l<|callsIn_wide.2 C2.o).mono ?_⟩;rintro e w6 ⟨⟨r2,rfl,hr3⟩,Gp⟩;have RY:Bl w4 w6:=((AR _ w4).alloc lr _).trans<|Gp.mono zw;obtain⟨hb4,O0,b0,b1,b2⟩:=U6.o;have b6:=b2.of<|RY.block _ b2.lt;have y6:=b6.soft;have y6':=b6.one.1;have K6:=AC<|AJ (O0.trans<|RY.mono O0.size)<|AJ b6<|AJ ((RY.block _<|BK (Nat.lt_of_succ_lt hW) hb4.size).trans<|hb4.block _<|Nat.lt_of_succ_lt hW)<|AJ ((RY.block _<|BK hW hb4.size).trans<|hb4.block _ hW)<|AJ (b0.of<|RY.block _ b0.lt)<|b1.of<|RY.block _ b1.lt;have Dn:=AC hr3;clear RY hb4 O0 b0 b1 b2 b6 Gp hr3;cases r2 with
   | false=>
    gi_wp2
    obtain⟨k1,k2,k3,k4,k5,k6⟩:=K6.o;refine⟨⟨k3,k4⟩,fun n hn=>?_,k1,k5,k6,k2⟩;rcases Aj.1 hn with hn | hn
    .exact HH.o.2.2.2.2 n hn
    .rw[Bh.1 hn];intro q
     have:=Dn.o.2 q.2
     first | cases this | exact this.elim
   | true=>
    gi_wp2
    obtain⟨k1,k2,k3,k4,_⟩:=K6.o;have ns: ∀ j,j≠w.heap.size+1+1->(w6.setCell (zm (w.heap.size+1+1) 0)<|.bool true).heap[j]?=w6.heap[j]?:=fun j hj=>Aw w6 _ _ j hj;refine⟨⟨(ns _ ?_).trans k3,(ns _ ?_).trans k4⟩,⟨x,VB,HR.o.1.1 (by trivial),Dn.o.1 (by trivial)⟩,k1.setCell (by show w.heap.size<=w.heap.size+1+1;omega) _,k2.set 0 _⟩
    .show W3.heap.size≠_;omega
    .show W3.heap.size+1≠_;omega
 case done=>
  rintro W ⟨hg,hB,_,_,b2⟩ hD;have c2:=b2.one.1;have s2:=b2.soft;go_wp2_with fail
  refine⟨zw,.inl ⟨_,_,rfl,run_takeDeferred<|(Aw W _ _ _ (by show W3.heap.size≠w.heap.size+1+1;omega)).trans hD,?_⟩⟩;have c3:((W.setCell (zm (w.heap.size+1+1) 0)<|.bool false).putObj W3.heap.size<|.deferred none).cell? (zm (w.heap.size+1+1) 0)=some (.bool false):=(A9 (a:=(zm (w.heap.size+1+1) 0))<|World.putObj_heap_other (by show w.heap.size+1+1≠_;omega)).trans<|(b2.set 0<|.bool false).cell 0;exact⟨.bool false,by simp[results,results263,go_sem,c3],ai.mk false ⟨fun h=>(by cases h),fun⟨n,h1,h2,h3⟩=>absurd ⟨h2,h3⟩ (hg n h1)⟩,(hB.setCell (p:=(zm (w.heap.size+1+1) 0)) (by show w.heap.size<=w.heap.size+1+1;omega) _).trans<|(Off.putObj (F:=[W3.heap.size]) (.deferred none) zw).be (fun i hi=>by simp at hi;omega) (by have:=hB.size;simpa[World.setCell]using this)⟩
 case stop=>
  rintro pre W ⟨hg,hB,b2⟩ hD;have c2:=b2.one.1;gi_wp2
  refine⟨zw,.inl ⟨_,_,rfl,run_takeDeferred hD,?_⟩⟩;have c3:(W.putObj W3.heap.size<|.deferred none).cell? (zm (w.heap.size+1+1) 0)=some (.bool true):=(A9 (a:=(zm (w.heap.size+1+1) 0))<|World.putObj_heap_other (by show w.heap.size+1+1≠_;omega)).trans c2;exact⟨.bool true,by simp[results,results263,go_sem,c3],ai.mk true ⟨fun _=>hg,fun _=>rfl⟩,hB.trans<|(Off.putObj (F:=[W3.heap.size]) (.deferred none) zw).be (fun i hi=>by simp at hi;omega) hB.size⟩
end
end Go.W
set_option linter.unusedSectionVars false
namespace Go.W
section
open Go.Shelf
variable {a:Nat->Addr}{cs:Ca}{vs:List T}{F Fo:Cg}{ov:Value}{B:Nat->Nat->Nat->Nat}
variable [Mem]
def Z37 {c:Cx}{fs:List Fc}{xs:Bn}{A:Nat->Nat}(hT:Hy cs A B){b v:Nat}: ∀ d,uz a c cs fs vs F xs ov Fo B b v d
 | 0=>Ydz
 | d+1=>Ya6 hT (Z37 hT d)
def Zqx {c:Cx}{fs:List Fc}{xs:Bn}{A:Nat->Nat}{w:Bb}{L:Nat->Nat}(h:Ctx a c cs fs vs F xs ov Fo w)(hT:Hy cs A B)(hL: ∀ j,L j<2 ^ 60):
  Calls prog 231 #[zq c.q 0,.agg<|D7 L] w fun e w'=>ai B c.b.at_.length c.b.at_.length 0 L e/\Bl w w':=by
 have HC:=AC fun u b v (hu:Bl w u) (hv:pW u c.q b v)=>Z37 hT (b:=b) (v:=v) c.b.at_.length 0 L u zx (h.be hu) hv hL;clear h;unfold D7 at HC⊢;have hen: ∀ args w,(callFunc 263 args).run prog w= .ok (.enter 263 args) w:=EH func263 zt rfl;have Ho:=fun(fn:Fn) (first cap:Ca) (w:Bb)=>(rfl:(Instr.makeFunc fn first cap).run prog w= .ok (.func fn first cap) w);have hst:=fun(a:Addr) (fn:Fn) (first cap:Ca) (m:Mode) (w:Bb)=>run_store prog w a (.func fn first cap) m rfl;refine X9 func231 rfl ?_;simp only[ntmps231,GN,DU,JC,Nat.reduceAdd,Nat.reduceSub,Qu,Qv,Qr,Qt,JU,EC];go_wp2_with fail
 apply(HC.o _ w.heap.size (w.heap.size+1+1) ((((AR _ w).alloc lr _).alloc zw _).alloc zc _) ⟨((AO.new w _ _).alloc _).alloc _,bU w _ _ _ _⟩).mono;rintro e w5 ⟨⟨r,rfl,hr⟩,hb⟩;have hB:Bl w w5:=((((AR _ w).alloc lr _).alloc zw _).alloc zc _).trans<|hb.mono zc;clear hb;go_wp2_with fail
 exact⟨rfl,_,by simp[results,results231,go_sem],ai.mk r hr,hB⟩
end
def GX:Nat->List (Nat×Nat)->List MapEntry
 | _,[]=>[]
 | i,x::l=>{key:= zo (x.1:Int),val:= .int .u64 (x.2:Int),born:=i}::GX (i+1) l
def Nb (cm:List (Nat×Nat)):Obj:= .map (GX 0 cm).toArray cm.length
def JH (v s:Nat):List (Nat×Nat)->List (Nat×Nat)
 | []=>[(v,s)]
 | x::l=>if x.1=v then(x.1,s)::l else x::JH v s l
def JK (v:Nat):List (Nat×Nat)->Nat
 | []=>0
 | x::l=>if x.1=v then x.2 else JK v l
def Z8a: ∀ (i:Nat) (l:List (Nat×Nat)) (x:Nat×Nat),GX i (l++[x])=GX i l++[{key:= zo (x.1:Int),val:= .int .u64 (x.2:Int),born:=i+l.length}]
 | _,[],_=>rfl
 | i,y::l,x=>by rw[EC,GX,Z8a (i+1) l x,GX,EC,DU,show i+1+l.length=i+(l.length+1)by omega]
def Zz2: ∀ {i:Nat} {l:List (Nat×Nat)} {e:MapEntry},e∈GX i l-> ∃ k x,l[k]?=some x/\e={key:= zo (x.1:Int),val:= .int .u64 (x.2:Int),born:=i+k}
 | _,[],_,h=>by cases h
 | i,y::l,e,h=>by
  rw[GX]at h;rcases Ak.1 h with rfl | h
  ·exact⟨0,y,rfl,rfl⟩
  ·obtain⟨k,x,h1,h2⟩:=Zz2 h;exact⟨k+1,x,h1,by rw[h2,show i+1+k=i+(k+1)by omega]⟩
def Zu2: ∀ (cm:List (Nat×Nat)) (v s i j:Nat),((∀ x,x∈cm->x.1≠v)/\JK v cm=0/\JH v s cm=cm++[(v,s)]/\Instr.findNow (.int .i64) (zo (v:Int)) (GX i cm) j=some none)\/((JH v s cm).length=cm.length/\ ∃ k,Instr.findNow (.int .i64) (zo (v:Int)) (GX i cm) j=some (some (j+k,.int .u64 (JK v cm:Int)))/\((GX i cm)[k]?).map (·.key)=some (zo (v:Int))/\(GX i cm).modify k (fun e=>{e with key:= zo (v:Int),val:= .int .u64 (s:Int)})=GX i (JH v s cm))
 | [],_,_,_,_=> .inl ⟨zw,rfl,rfl,rfl⟩
 | x::l,v,s,i,j=>by
  by_cases hx:x.1=v
  .refine .inr ⟨by rw[JH,xj hx];simp,0,?_,?_,?_⟩
   .rw[GX,Instr.findNow,JK,xj hx];simp[Instr.sameNow,hx]
   .rw[GX];simp[hx]
   .rw[JH,xj hx,GX,GX];simp[hx]
  .have hne:(((v:Int))==(x.1:Int))=false:=zj
   rcases Zu2 l v s (i+1) (j+1)with⟨h0,h1,h2,h3⟩ | ⟨h0,k,h1,h2,h3⟩
   .refine .inl ⟨fun y hy=>?_,by rw[JK,xd hx,h1],by rw[JH,xd hx,h2,EC],?_⟩
    .rcases Ak.1 hy with rfl | hy
     .exact hx
     .exact h0 y hy
    .rw[GX,Instr.findNow];simp only[Instr.sameNow,if_true,hne];exact h3
   .refine .inr ⟨by rw[JH,xd hx,DU,h0,DU],k+1,?_,?_,?_⟩
    .rw[GX,Instr.findNow];simp only[Instr.sameNow,if_true,hne];rw[h1,JK,xd hx,show j+1+k=j+(k+1)by omega]
    .rw[GX,List.getElem?_cons_succ];exact h2
    .rw[GX,List.modify_succ_cons,h3,JH,xd hx,GX]
def Jb (g:Nat->Nat) (l:Cg):List (Nat×Nat):=l.foldl (fun cm n=>JH (g n) (JK (g n) cm ||| 2 ^ n) cm) []
def Zu4 (g:Nat->Nat)(l:Cg)(n:Nat):Jb g (l++[n])=JH (g n) (JK (g n) (Jb g l) ||| 2 ^ n) (Jb g l):=by
 unfold Jb;rw[List.foldl_append,List.foldl_cons,List.foldl_nil]
def vN (v s:Nat): ∀ (l:List (Nat×Nat)) (u:Nat),u∈(JH v s l).map (·.1)↔u=v\/u∈l.map (·.1)
 | [],u=>by simp[JH]
 | x::l,u=>by
  rw[JH];split
  ·rename_i h;simp[h]
  ·rw[xp,Ak,vN v s l u,xp,Ak];constructor
   ·rintro(h | h | h)
    ·exact .inr<|.inl h
    ·exact .inl h
    ·exact .inr<|.inr h
   ·rintro(h | h | h)
    ·exact .inr<|.inl h
    ·exact .inl h
    ·exact .inr<|.inr h
def Znr (v s:Nat): ∀ (l:List (Nat×Nat)),(l.map (·.1)).Nodup->((JH v s l).map (·.1)).Nodup
 | [],_=>by simp[JH]
 | x::l,h=>by
  rw[xp,List.nodup_cons]at h;rw[JH];split
  ·rw[xp,List.nodup_cons];exact h
  ·rename_i hx;rw[xp,List.nodup_cons];exact⟨fun q=>((vN v s l _).1 q).elim hx h.1,Znr v s l h.2⟩
def Zvh (v s:Nat): ∀ (l:List (Nat×Nat)) (u:Nat),JK u (JH v s l)=if u=v then s else JK u l
 | [],u=>by
  simp only[JH,JK];by_cases h:u=v
  ·simp[h]
  ·rw[xd fun q=>h q.symm,xd h]
 | x::l,u=>by
  rw[JH];by_cases hx:x.1=v
  ·rw[xj hx,JK,JK];by_cases hu:u=v
   ·rw[xj hu,xj (by rw[hx,hu])]
   ·rw[xd hu,xd (by rw[hx];exact fun q=>hu q.symm),xd (by rw[hx];exact fun q=>hu q.symm)]
  ·rw[xd hx,JK,Zvh v s l u,JK];by_cases hu:u=v
   ·rw[xj hu,xj hu,xd (by rw[hu];exact hx)]
   ·rw[xd hu,xd hu]
def Zvg: ∀ {l:List (Nat×Nat)} {x:Nat×Nat},(l.map (·.1)).Nodup->x∈l->JK x.1 l=x.2
 | [],_,_,h=>by cases h
 | y::l,x,hn,h=>by
  rw[xp,List.nodup_cons]at hn;rw[JK];rcases Ak.1 h with rfl | h
  ·rw[xj rfl]
  ·rw[xd (fun q:y.1=x.1=>hn.1 (by rw[q];exact List.mem_map_of_mem (f:=(·.1)) h)),Zvg hn.2 h]
structure Yhg (g:Nat->Nat) (l:Cg) (cm:List (Nat×Nat)):Prop where
 nd:(cm.map (·.1)).Nodup
 keys: ∀ v,v∈cm.map (·.1)↔ ∃ n,n∈l/\g n=v
 bits: ∀ v n,(JK v cm).testBit n=true↔n∈l/\g n=v
def Zu3 (g:Nat->Nat): ∀ (k:Nat) (l:Cg),l.length=k->Yhg g l (Jb g l)
 | 0,l,h=>by
  obtain rfl:=List.length_eq_zero_iff.1 h;exact⟨by simp[Jb],by simp[Jb],by simp[Jb,JK]⟩
 | k+1,l,h=>by
  obtain⟨l',n,rfl⟩: ∃ l' n,l=l'++[n]:=⟨l.dropLast,l.getLast (by intro q;simp[q]at h),(List.dropLast_concat_getLast _).symm⟩;have ih:=Zu3 g k l' (by simpa using h);rw[Zu4];refine⟨Znr _ _ _ ih.nd,fun v=>?_,fun v m=>?_⟩
  ·rw[vN,ih.keys];constructor
   ·rintro(rfl | ⟨m,h1,h2⟩)
    ·exact⟨n,zw,rfl⟩
    ·exact⟨m,by simp[h1],h2⟩
   ·rintro⟨m,h1,h2⟩;rcases Aj.1 h1 with h1 | h1
    ·exact .inr ⟨m,h1,h2⟩
    ·rw[Bh.1 h1]at h2;exact .inl h2.symm
  ·rw[Zvh];by_cases hv:v=g n
   ·rw[xj hv,Nat.testBit_or,Bool.or_eq_true,ih.bits,Nat.testBit_two_pow,wA,Aj,Bh];constructor
    ·rintro(⟨h1,h2⟩ | rfl)
     ·exact⟨.inl h1,h2.trans hv.symm⟩
     ·exact⟨.inr rfl,hv.symm⟩
    ·rintro⟨h1 | h1,h2⟩
     ·exact .inl ⟨h1,h2.trans hv⟩
     ·exact .inr h1.symm
   ·rw[xd hv,ih.bits,Aj,Bh];constructor
    ·rintro⟨h1,h2⟩;exact⟨.inl h1,h2⟩
    ·rintro⟨h1 | h1,h2⟩
     ·exact⟨h1,h2⟩
     ·rw[h1]at h2;exact absurd h2.symm hv
def Yic (g:Nat->Nat){l:Cg}(hl: ∀ n,n∈l->n<60)(v:Nat):JK v (Jb g l)<2 ^ 60:=by
 refine Nat.lt_pow_two_of_testBit _ fun i hi=>?_;cases hb:(JK v<|Jb g l).testBit i with
 | false=>rfl
 | true=>have:=hl i (((Zu3 g _ l rfl).bits v i).1 hb).1;omega
variable {w:Bb}{r:Nat}{cm:List (Nat×Nat)}
def Ycn (hb:w.heap[r]?=some (Nb cm))(v:Nat):
  (Instr.lookup 372 (.map<|some r) (zo (v:Int)) false).run prog w= .ok (.int .u64 (JK v cm:Int)) w:=by
 have hz:(zeroValue 305).run prog w= .ok (.int .u64 0) w:=zt
 have FP: ∀ e,(Instr.checkKey e 10000 3<|zo (v:Int)).run prog w= .ok () w:=fun e=>zt
 have hgo:=Zi (P:=prog) hb;rcases Zu2 cm v 0 0 0 with⟨_,h1,_,h3⟩ | ⟨_,k,h3,_⟩
 .have E8:=Go.MapKept.run_findKey (P:=prog) (w:=w) underlying3 h3;simp[Instr.lookup,J5 underlying372,hgo,E8,hz,FP,h1]
 .have E8:=Go.MapKept.run_findKey (P:=prog) (w:=w) underlying3 h3;simp[Instr.lookup,J5 underlying372,hgo,E8,FP]
def Ygj (hb:w.heap[r]?=some (Nb cm))(v s:Nat):
  (Instr.mapUpdate 372 (.map<|some r) (zo (v:Int))<|.int .u64 (s:Int)).run prog w= .ok () {w with heap:=w.heap.setIfInBounds r (Nb<|JH v s cm)}:=by
 have FP: ∀ e,(Instr.checkKey e 10000 3<|zo (v:Int)).run prog w= .ok () w:=fun e=>zt
 have hgo:=Zi (P:=prog) hb;have UJ:=Go.MapKept.run_setObj_map (P:=prog) (Nb<|JH v s cm) hb;rcases Zu2 cm v s 0 0 with⟨_,_,h2,h3⟩ | ⟨h0,k,h3,h4,h5⟩
 .have E8:=Go.MapKept.run_findKey (P:=prog) (w:=w) underlying3 h3;have e:Nb (JH v s cm)= .map ((GX 0 cm).toArray.push {key:= zo (v:Int),val:= .int .u64 (s:Int),born:=cm.length}) (cm.length+1):=by rw[h2,Nb,Z8a];simp
  rw[e]at UJ⊢;simp[Instr.mapUpdate,J5 underlying372,hgo,E8,FP]at UJ⊢;simp[UJ]
 .have E8:=Go.MapKept.run_findKey (P:=prog) (w:=w) underlying3 h3;have e:Nb (JH v s cm)= .map ((GX 0 cm).toArray.modify k fun e=>{e with key:= zo (v:Int),val:= .int .u64 (s:Int)}) cm.length:=by rw[Nb,h0,<- h5,List.modify_toArray]
  have Ph:(Instr.keyThatStays (zo (v:Int))<|zo (v:Int)).run prog w= .ok (zo (v:Int)) w:=by simp[Instr.keyThatStays,Instr.sameBits]
  have h4':((((GX 0 cm).toArray[k]?).map (·.key)).getD<|zo (v:Int))= zo (v:Int):=by rw[Tu,h4];rfl
  rw[e]at UJ⊢;simp only[Instr.mapUpdate,Uz,J5 underlying372,Vs,hgo,E8,FP,h4',Ph,Gx];exact UJ
end Go.W
set_option linter.unusedSectionVars false
namespace Go.W
def IP (fs:List Fc) (k n:Nat):Nat:=(fs.getD n (⟨#[]⟩,[])).2[k]?.getD 0
section
open Go.Shelf
variable [Mem]
attribute [local go_sem] Me
def Zz3 {a:Nat->Addr}{c:Cx}{cs:Ca}{fs:List Fc}{vs:List T}{F:Cg}{xs:Bn}{ov:Value}{Fo:Cg}{w:Bb}(h:Ctx a c cs fs vs F xs ov Fo w)(y:Ay)(i:Nat){k:Nat}(hk:k<6)(s:Nat)(hs:s<2 ^ 60)(hb: ∀ n,n∈DZ s->n<fs.length):
  Calls prog 232 #[zq c.q 0,.agg #[um y,zo (i:Int),zo (k:Int)],.int .u64 (s:Int)] w fun e w'=> ∃ r,e=uY (.map<|some r)/\w.heap.size<=r/\w'.heap[r]?=some (Nb<|Jb (IP fs k)<|DZ s)/\Bl w w':=by
 have HG:=AC h.gl;have HX:=AC h;have q0:=(h.cell 0 zx).trans h.rd.c0;have Ea:=h.bd.blk.lt;have DK:(2:Nat) ^ 60<2 ^ 64:=zu
 have RN:(k:Int)<6:=zx
 clear h;refine(callsIn_wide (n:=5)).1 ?_;refine callsIn_of_wp_marks func232 rfl trivial ?_ rfl;simp only[ntmps232,GN,DU,JC,Nat.reduceAdd,Nat.reduceSub,Qu,Qv,Qr,Qt,JU,EC];refine wpIn_wide.2 ?_;have aI: ∀ w,(Instr.makeMap 372 none).run prog w= .ok (.map<|some w.heap.size) (w.alloc<|Nb []):=fun w=>zt
 obtain⟨W4,Eh⟩:=cK ((((w.alloc<|.cells #[zq c.q 0] 232).alloc<|.cells #[um y,zo (i:Int),zo (k:Int)] 364).alloc<|Nb []).alloc (.cells #[.map<|some<|w.heap.size+1+1] 372));have B4:AF (Bl w W4):=⟨Eh.o▸((((AR _ w).alloc lr _).alloc zw _).alloc zc _).alloc zc _⟩;have S4:AF (W4.heap.size=w.heap.size+4):=⟨by rw[<- Eh.o];simp⟩;have L0:AF (AO W4 w.heap.size #[zq c.q 0] 232):=⟨Eh.o▸(((AO.new w _ _).alloc _).alloc _).alloc _⟩;have L1:AF (AO W4 (w.heap.size+1) #[um y,zo (i:Int),zo (k:Int)] 364):=⟨Eh.o▸((Ur w _ _ _).alloc _).alloc _⟩;have L2:AF (W4.heap[w.heap.size+1+1]?=some (Nb [])):=⟨by rw[<- Eh.o];exact(Ah _ _ _ zw).trans (by have:=World.alloc_heap_new ((w.alloc<|.cells #[zq c.q 0] 232).alloc<|.cells #[um y,zo (i:Int),zo (k:Int)] 364)<|Nb [];rwa [EV,EV]at this)⟩;have L3:AF (AO W4 (w.heap.size+1+1+1) #[.map<|some<|w.heap.size+1+1] 372):=⟨by
  have:=AO.new (((w.alloc<|.cells #[zq c.q 0] 232).alloc<|.cells #[um y,zo (i:Int),zo (k:Int)] 364).alloc<|Nb []) #[.map<|some<|w.heap.size+1+1] 372
  rw[Eh.o]at this;simpa using this⟩
 have Ho:=fun(fn:Fn) (first cap:Ca) (w:Bb)=>(rfl:(Instr.makeFunc fn first cap).run prog w= .ok (.func fn first cap) w);go_wp2_with fail
 rw[Eh.o];clear Eh;have e4:=S4.o;refine(wpIn_wide (n:=5)).1 ?_;refine vF (K:=173) (s:=s) (xs:=DZ s) (Z:=ZN) rfl (EH func173 zt rfl) (ut _ s zx) rfl
  (fun pre W=>Bl w W/\AO W w.heap.size #[zq c.q 0] 232/\AO W (w.heap.size+1) #[um y,zo (i:Int),zo (k:Int)] 364/\AO W (w.heap.size+1+1+1) #[.map<|some<|w.heap.size+1+1] 372/\W.heap[w.heap.size+1+1]?=some (Nb<|Jb (IP fs k) pre))
  (fun _ _=>False) (fun _ W h=>(HG.o.of (F:=[]) (Off.of h.1) fun _ h=>(by cases h)).bits) ?_ (fun _ _ _ h _=>h) ⟨B4.o,L0.o,L1.o,L3.o,L2.o⟩
  (fun x=>{tmps:=#[zq c.q 0,.agg #[um y,zo (i:Int),zo (k:Int)],.int .u64 (s:Int),zq w.heap.size 0,zq (w.heap.size+1) 0,undef,.map none,zq (w.heap.size+1+1+1) 0,zo (x:Int),.map<|some<|w.heap.size+1+1,.int .u64 (s:Int),.func (.func 173) #[.int .u64 (s:Int)] #[],zo (x:Int),undef,undef,undef,undef,undef,undef,undef,undef,undef,undef,undef,undef,undef,undef,undef,undef,undef,undef,undef,undef],defers:=[]}) ?assign ?body ?done (fun _ _ h _=>h.elim)
 .rintro pre W W' ⟨hB,b0,b1,b3,b2⟩ k;have nn: ∀ j,j<w.heap.size+4->j∉[W4.heap.size,W4.heap.size+1]:=fun j hj=>zc
  exact⟨hB.trans<|k.be (fun i hi=>by simp at hi;omega) hB.size,b0.of<|k.block _ b0.lt<|nn _ zx,b1.of<|k.block _ b1.lt<|nn _ zx,b3.of<|k.block _ b3.lt<|nn _ zx,(k.block _ (Nat.lt_of_succ_lt b3.lt)<|nn _ zx).trans b2⟩
 case assign=>
  intro l x W K hK;gi_wp2
  exact hK
 case body=>
  rintro l pre x rest W hx ⟨hB,b0,b1,b3,b2⟩ hW;have VB:x∈DZ s:=by rw[hx];simp
  have yP:=hb x VB;have PR: ∀ n,n∈DZ s->n<60:=fun n hn=>by
   refine Nat.lt_of_not_le fun h=>?_
   have:=(Ol zx).1 hn
   rw[Nat.testBit_lt_two_pow<|BK hs<|wi zx h]at this;cases this
  have Vz:=PR x VB;obtain⟨fx,OQ⟩: ∃ fx,fs[x]?=some fx:=⟨_,A8 yP⟩;have hgd:IP fs k x=fx.2[k]?.getD 0:=by rw[IP,xr,OQ];rfl
  have GL:=Yic (IP fs k) (l:=pre) (fun n hn=>PR n (by rw[hx];simp[hn]))<|IP fs k x;have yu:=Yer GL Vz;have GS:=AC<|Zu4 (IP fs k) pre x;obtain⟨gf,cf,p0,tH,jB,key⟩:=(HX.o.be hB).fact OQ;have f2:W.cell? (zm gf (x*8+2+k))=some (zo (IP fs k x:Int)):=by
   rw[hgd,Nat.add_assoc];refine key (2+k) _ ?_;have h6:k=0\/k=1\/k=2\/k=3\/k=4\/k=5:=zx
   rcases h6 with rfl | rfl | rfl | rfl | rfl | rfl <;> rfl
  have hpl:=HX.o.wd.lt c.p tH;have NU:=HX.o.wd.lt gf jB;have L8:(x:Int)<(fs.length:Int):=zx
  clear hgd;generalize IP fs k x=v at*;generalize hz:JK v (Jb (IP fs k) pre) ||| 2 ^ x=z at*;generalize hz0:JK v (Jb (IP fs k) pre)=z0 at*;have hup:=Ygj (w:=W.drew) b2 v z;have hlk:=Ycn (w:=W.drew) b2 v;rw[hz0]at hlk;clear hz hz0;have c0:=b0.one.1;have c1:=b1.three.2.2.1;have c3:=b3.one.1;have HF:=AC<|AJ p0 f2;have HH:=AC<|AJ hB<|AJ b0<|AJ b1<|AJ b3 b2;have cq:=(A9 (a:=(zm c.q 0))<|hB.block c.q Ea).trans q0;clear hB b0 b1 b3 b2;have hmx:prog.follows .mixedOrders=true:=zt
  gi_wp2
  obtain⟨S,hS⟩: ∃ S:Bb->Prop,S=fun u=>u.cell? (zm w.heap.size 0)=some (zq c.q 0)/\u.cell? (zm (w.heap.size+1) 2)=some (zo (k:Int))/\u.cell? (zm (w.heap.size+1+1+1) 0)=some (.map<|some<|w.heap.size+1+1)/\u.cell? (zm c.q 0)=some (zq c.p 0)/\u.cell? (zm c.p 0)=some (sP (Qb gf 0) fs.length cf)/\u.cell? (zm gf (x*8+2+k))=some (zo (v:Int)):=⟨_,rfl⟩;have AY:S W.drew:=hS▸⟨c0,c1,c3,cq,p0,f2⟩;refine Zf1 S hmx (fun⟨_,_,h⟩=>h) zt ?_;refine tk 0 (.map<|some<|w.heap.size+1+1) AY (hy:=fun u q=>by subst hS;obtain⟨s0,s1,s2,s3,s4,s5⟩:=q;go_simp) ?_;try simp only[zz]
  refine tk 1 (zq c.q 0) AY (hy:=fun u q=>by subst hS;obtain⟨s0,s1,s2,s3,s4,s5⟩:=q;go_simp) ?_;try simp only[zz]
  refine zE 2 (zq c.q 0) AY ?_
  refine zE 3 (zq c.q 0) AY ?_
  refine tk 4 (zq c.p 0) AY (hy:=fun u q=>by subst hS;obtain⟨s0,s1,s2,s3,s4,s5⟩:=q;go_simp) ?_;try simp only[zz]
  refine zE 5 (zq c.p 0) AY ?_
  refine zE 6 (zq c.p 0) AY ?_
  refine tk 7 (sP (Qb gf 0) fs.length cf) AY (hy:=fun u q=>by subst hS;obtain⟨s0,s1,s2,s3,s4,s5⟩:=q;go_simp) ?_;try simp only[zz]
  refine zE 8 (zo (x:Int)) AY ?_
  refine zE 9 (zq (w.heap.size+1) 2) AY ?_
  refine tk 10 (zo (k:Int)) AY (hy:=fun u q=>by subst hS;obtain⟨s0,s1,s2,s3,s4,s5⟩:=q;go_simp) ?_;try simp only[zz]
  refine zE 11 (zq gf<|x*8) AY ?_
  refine zE 12 (zq gf<|x*8+2) AY ?_
  refine zE 13 (zq gf<|x*8+2+k) AY ?_
  refine tk 14 (zo (v:Int)) AY (hy:=fun u q=>by subst hS;obtain⟨s0,s1,s2,s3,s4,s5⟩:=q;go_simp) ?_;try simp only[zz]
  refine zE 16 (zo (x:Int)) AY ?_
  refine zE 17 (.int .u64<|IntKind.u64.wrap<|2 ^ x) AY ?_
  refine yr 15 fun K' hK'=>?_;go_simp;refine hK'.o _ _ AY fun _=>?_;try simp only[zz]
  refine zE 18 (.int .u64 (z:Int)) AY ?_
  refine yr 19 fun K' hK'=>?_;go_simp;obtain⟨U,hU⟩:=fu ({W.drew with heap:=W.drew.heap.setIfInBounds (w.heap.size+1+1) (Nb<|JH v z<|Jb (IP fs k) pre)});have nb: ∀ j,j≠w.heap.size+1+1->U.heap[j]?=W.heap[j]?:=fun j hj=>by rw[<- hU];exact Array.getElem?_setIfInBounds_ne<|Ne.symm hj
  obtain⟨hB,b0,b1,b3,b2⟩:=HH.o;have l2:w.heap.size+1+1<W.heap.size:=Nat.lt_of_succ_lt b3.lt;have nm:U.heap[w.heap.size+1+1]?=some (Nb<|JH v z<|Jb (IP fs k) pre):=by rw[<- hU];exact Array.getElem?_setIfInBounds_self_of_lt l2
  have Oz:Bl w U:=hB.trans ⟨by rw[<- hU];rfl,by rw[<- hU];rfl,by rw[<- hU];rfl,by rw[<- hU];simp,fun k hk=>nb k zx⟩;have hS1:S U:=hS▸AJ (b0.of<|nb _ zx).one.1 (AJ (b1.of<|nb _ zx).three.2.2.1<|AJ (b3.of<|nb _ zx).one.1<|AJ ((A9 (a:=(zm c.q 0))<|Oz.block c.q Ea).trans q0)<|AJ ((A9 (a:=(zm c.p 0))<|nb c.p zx).trans HF.o.1)<|(A9 (a:=(zm gf (x*8+2+k)))<|nb gf zx).trans HF.o.2);subst hU;refine hK'.o _ _ hS1 fun _=>?_;refine Uy zt ?_ _;refine⟨⟨nb _ ?_,nb _ ?_⟩,Oz,b0.of<|nb _ zx,b1.of<|nb _ zx,b3.of<|nb _ zx,by rw[GS.o];exact nm⟩
  .show W4.heap.size≠_;omega
  .show W4.heap.size+1≠_;omega
 case done=>
  rintro W ⟨hB,b0,b1,b3,b2⟩ hD;have c3:=b3.one.1;go_wp2_with fail
  refine⟨zw,.inl ⟨_,_,rfl,run_takeDeferred hD,?_⟩⟩;exact⟨.map<|some<|w.heap.size+1+1,by simp[results,results232,go_sem],w.heap.size+1+1,rfl,zx,(World.putObj_heap_other (by show w.heap.size+1+1≠_;omega)).trans b2,hB.trans<|(Off.putObj (F:=[W4.heap.size]) (.deferred none) zw).be (fun i hi=>by simp at hi;omega) hB.size⟩
end
end Go.W
set_option linter.unusedSectionVars false
namespace Go.W
section
variable [Mem]
def TW.lt {w:Bb}{r:Nat}{fs:List Fc}(h:TW w r fs):r<w.heap.size:=by
 obtain⟨es,c,h,_⟩:=h;exact(PN.1 h).1
end
section
variable [Mem]
def Wd.appF {w4 W5 U w6 W:Bb}{p:Nat}{fs:List Fc}{vs:List T}{F:Cg}{k r:Nat}{fv vv:Value}{Ff Fv F6:Cg}{x:Fc}{g6 Cm:Nat}(D4:Wd w4 p fs vs F k r fv vv Ff Fv)(O5:Off [k] w4 W5)(YM:TW W5 k (fs++[x]))(hU:Off [] W5 U)(AM:O7 147 8 TH 0 U w6 fs Ff [] x g6 Cm F6)(hW:W=w6.setCell (zm p 0) (sP (Qb g6 0) (fs.length+1) Cm)):
  ∃ F',Df W p (fs++[x]) vs F'/\Off F w4 W/\ ∀ i,i∈F'->i∈F\/w4.heap.size<=i:=by
 subst hW;obtain⟨⟨pk,pr,pf,pv⟩,⟨kr,kf,kv⟩,⟨rf,rv⟩,nf,nv,pJ⟩:=D4.apart;have hown:=D4.own;have KG:=D4.new.lt;rw[hown]at KG;have s5:=O5.size;have sU:=hU.size;have s6:=AM.size;have up: ∀ j,j<w4.heap.size->j≠k->j∉Ff->w6.heap[j]?=w4.heap[j]?:=fun j hj hr hv=>(AM.same j zx hv).trans ((hU.block j zx zw).trans<|O5.block j hj (by simpa using hr));have Dh: ∀ j,j∈F6->j∈Ff\/w4.heap.size<=j:=fun j hj=>by
  rcases AM.sub j hj with h | h | h
  .exact .inl h
  .cases h
  .exact .inr zx
 have UE: ∀ j,j<w4.heap.size->j∉Ff->j∉F6:=fun j hj hn hF=>(Dh j hF).elim hn zx;have lp:=KG p zw;have lk:=KG k zw;have lr:=KG r zw;have lv: ∀ j,j∈Fv->j<w4.heap.size:=fun j hj=>KG j (by simp[hj]);have bZ: ∀ j,j<w4.heap.size->j≠k->j∉Ff->j≠p->(w6.setCell (zm p 0)<|sP (Qb g6 0) (fs.length+1) Cm).heap[j]?=w4.heap[j]?:=fun j hj hr hv hp=>(Aw w6 (zm p 0) _ j hp).trans (up j hj hr hv);have hkW:(w6.setCell (zm p 0)<|sP (Qb g6 0) (fs.length+1) Cm).heap[k]?=W5.heap[k]?:=(Aw w6 (zm p 0) _ k<|Ne.symm pk).trans<|(AM.same k zx kf).trans<|hU.block k zx zw;have hs:(w6.setCell (zm p 0)<|sP (Qb g6 0) (fs.length+1) Cm).heap.size=w6.heap.size:=by simp[World.setCell]
 refine⟨p::k::r::(F6++Fv),⟨k,r,sP (Qb g6 0) (fs.length+1) Cm,vv,F6,Fv,?_,?_,?_,YM.of hkW,D4.num.of<|bZ r lr (Ne.symm kr) rf<|Ne.symm pr,rfl,?_,fun _ _=>Eg _,?_⟩,?_,?_⟩
 .exact(D4.blk.of<|up p lp pk pf).set 0 _
 .exact AQ.sb TH.sb _ _ _ _ _ AM.row fun j hj=>Aw _ _ _ _ (fun e=>UE p lp pf (by rw[show p=j from e.symm];exact hj))
 .exact AQ.sb Ni.sb _ _ _ _ _ D4.vals fun j hj=>bZ j (lv j hj) (fun e=>kv (e▸hj)) (fun h=>pJ j h hj) (fun e=>pv (e▸hj))
 .simp only[List.nodup_cons,Ak,Aj,not_or,Mc];exact⟨⟨pk,pr,UE p lp pf,pv⟩,⟨kr,UE k lk kf,kv⟩,⟨UE r lr rf,rv⟩,AM.new.once,nv,fun a ha b hb e=>UE b (lv b hb) (fun h=>pJ b h hb) (e▸ha)⟩
 .intro j hj
  have:=AM.new.lt
  simp only[Ak,Aj]at hj;rcases hj with rfl | rfl | rfl | hj | hj
  .omega
  .omega
  .omega
  .have:=this j hj;omega
  .have:=lv j hj;omega
 .refine⟨AM.os.trans<|hU.os.trans O5.os,AM.tape.trans<|hU.tape.trans O5.tape,AM.output.trans<|hU.output.trans O5.output,zx,fun j hj hn=>?_⟩;rw[hown]at hn;simp only[Ak,Aj,not_or]at hn;exact bZ j hj hn.2.1 hn.2.2.2.1 hn.1
 .intro i hi;rw[hown];simp only[Ak,Aj]at hi⊢;rcases hi with rfl | rfl | rfl | hi | hi
  .simp
  .simp
  .simp
  .rcases Dh i hi with h | h
   .simp[h]
   .exact .inr h
  .simp[hi]
end
end Go.W
set_option linter.unusedSectionVars false
namespace Go.W
def XD (x:Fc):List Fc->Bool
 | []=>false
 | y::l=>decide (x=y) || XD x l
def fq {x:Fc}: ∀ {l:List Fc},XD x l=true↔x∈l
 | []=>by simp[XD]
 | y::l=>by rw[XD,Bool.or_eq_true,wA,fq,Ak]
def Z2q {x:Fc}{l:List Fc}(h:x∉l):XD x l=false:=by
 cases hb:XD x l with
 | false=>rfl
 | true=>exact absurd (fq.1 hb) h
def TI (fs:List Fc) (x:Fc):Bool×List Fc:=if XD x fs=true then(true,fs)else if fs.length=60 then(false,fs)else(true,fs++[x])
def Zvr {fs:List Fc}{x:Fc}(h:x∈fs):TI fs x=(true,fs):=xj<|fq.2 h
def Zts {fs:List Fc}{x:Fc}(h:x∉fs)(hl:fs.length=60):TI fs x=(false,fs):=by rw[TI,xd fun q=>h (fq.1 q),xj hl]
def Zq2 {fs:List Fc}{x:Fc}(h:x∉fs)(hl:fs.length≠60):TI fs x=(true,fs++[x]):=by rw[TI,xd fun q=>h (fq.1 q),xd hl]
section
variable {w:Bb}{p:Nat}{vs:List T}{F:Cg}
variable [Mem]
def Ztw {r:Nat}{x:Fc}{fs:List Fc}(h:TW w r fs)(hx:GY x)(hn: ∀ y,y∈fs->GY y):(Instr.lookup 141 (.map<|some r) (.agg (Dq x).toArray) true).run prog w= .ok (.tuple #[.agg #[],.bool<|XD x fs]) w:=by
 obtain⟨b,h1,h2⟩:=Z0w h hx hn;rw[h2,show b=XD x fs by rw[Bool.eq_iff_iff,h1,fq]]
def Zq6 {fs:List Fc}(h:Df w p fs vs F)(x:Fc)(hx:GY x)(hn: ∀ y,y∈fs->GY y):
  Calls prog 166 #[zq p 0,.agg (Dq x).toArray] w fun e w'=>e=uY (.bool<|XD x fs)/\Bl w w':=by
 obtain⟨k,r,fv,vv,Ff,Fv,hw⟩:=h;have hk: ∀ o,TW (w.alloc o).drew k fs:=fun o=>hw.know.of (Ah _ _ _ hw.know.lt);have hk2: ∀ o o',TW ((w.alloc o).alloc o').drew k fs:=fun o o'=>(hk o).of (Ah _ _ _ (hk o).lt);have hlk:=fun o=>Ztw (hk o) hx hn;have hlk2:=fun o o'=>Ztw (hk2 o o') hx hn;have B0:=fun o=>zv w o;have B1:=fun o o'=>(B0 o).alloc zw o';have p1:=fun o=>(hw.blk.alloc o).four.2.1;have p2:=fun o o'=>((hw.blk.alloc o).alloc o').four.2.1;clear hk hk2 hw hx hn;generalize XD x fs=bx at*;unfold Dq at*;go_in
 go_wp2
 go_region
 all_goals
  go_wp2
  go_ret
  exact⟨rfl,(B1 _ _).drew⟩
def Ybu:J3 prog 140 147 8 72:=by
 obtain⟨i0,hi,hz0,hz1,hz2⟩:=info_parts (by kernel_rfl:(prog.info? 147).map (fun i=>(i.zero,i.size,i.bytes))=some (some<|.agg #[sE,zo 0,zo 0,zo 0,zo 0,zo 0,zo 0,zo 0],8,72));exact⟨i0,_,underlying140,hi,hz0,hz1,hz2,rfl,zu,zu⟩
def Ycm {fs:List Fc}(h:Df w p fs vs F)(x:Fc)(hx:GY x)(ho: ∀ y,y∈fs->GY y)(hn:x∉fs)(hl:fs.length<60):
  Calls prog 110 #[zq p 0,.agg (Dq x).toArray] w fun e w'=>e=uY (.bool true)/\ ∃ F',Df w' p (fs++[x]) vs F'/\Off F w w'/\ ∀ i,i∈F'->i∈F\/w.heap.size<=i:=by
 have CK:=AC fun o=>Zq6 (h.of (w':=w.alloc o) zw fun j hj=>Ah _ _ _ (h.lt j hj)) x hx ho;obtain⟨k,r,fv,vv,Ff,Fv,hw⟩:=h;obtain⟨pv,cv,rfl⟩:=hw.fa.form;have H:=AC hw;have UP:=AC fun u (hu:TW u k fs)=>Z1s hu hx ho hn;have hl60:((fs.length:Int)==60)=false:=zj
 rw[Z2q hn]at CK;unfold Dq at CK UP⊢;clear hw hn hx ho;go_in
 go_wp2_with fail
 apply(CK.o _).mono;rintro e w2 ⟨rfl,hb2⟩;have HB:=AC<|(zv w _).trans<|hb2.mono zw;have L2:=AC<|(AO.new w #[um x.1,zo (x.2.length:Int),zo ((x.2[0]?.getD 0:Nat):Int),zo ((x.2[1]?.getD 0:Nat):Int),zo ((x.2[2]?.getD 0:Nat):Int),zo ((x.2[3]?.getD 0:Nat):Int),zo ((x.2[4]?.getD 0:Nat):Int),zo ((x.2[5]?.getD 0:Nat):Int)] 147).of<|hb2.block w.heap.size zw;obtain⟨t0,t1,t2,t3,t4,t5,t6,t7,ts⟩:=L2.o.eight;have D2:=AC<|H.o.be HB.o;obtain⟨p0,p1,p2,p3,ps⟩:=D2.o.blk.four;clear hb2 CK;obtain⟨ob,Xb,Dp⟩:=UP.o w2.drew D2.o.know;obtain⟨W5,hW5⟩:=cK ({w2.drew with heap:=w2.drew.heap.setIfInBounds k ob});rw[hW5.o]at Xb Dp;go_wp2
 go_region
 have O5:AF (Off [k] w2.drew W5):=⟨hW5.o▸(Off.refl _ w2.drew).put k ob zw⟩;have YM:=AC Dp;obtain⟨⟨pk,pr,YW,pvF⟩,⟨kr,kf,kv⟩,_,nf,_,_⟩:=D2.o.apart;have hwk:w.heap.size≠k:=fun e=>fw (H.o.know.lt)
 have b5:W5.heap[p]?=w2.heap[p]?:=O5.o.block p D2.o.blk.lt (by simpa using pk);obtain⟨e0,e1,e2,e3,es⟩:=(D2.o.blk.of b5).four;have L5:=AC<|L2.o.of<|O5.o.block w.heap.size L2.o.lt (by simpa using hwk);obtain⟨u0,u1,u2,u3,u4,u5,u6,u7,us⟩:=L5.o.eight;have JE: ∀ j,j∈Ff->j<w2.heap.size:=fun j hj=>D2.o.new.lt j (by rw[D2.o.own];simp[hj]);have R5:=AC (AQ.sb TH.sb _ W5 _ _ _ D2.o.fa fun j hj=>O5.o.block j (JE j hj) (fun e=>kf (by rw[<- Bh.1 e];exact hj)));have N5:AF (Ag 0 W5 Ff):=⟨nf,fun _ _=>Eg _,fun j hj=>BK (JE j hj) O5.o.size⟩;have Ea:p<W5.heap.size:=BK D2.o.blk.lt O5.o.size;have iX:=L5.o.lt;clear Dp JE b5 t0 t1 t2 t3 t4 t5 t6 t7 ts p0 p1 p2 p3 ps Xb UP pk pr pvF kr kf kv nf;go_wp2
 go_region_law (refine X3 Ybu rfl (.tmp 26) (.tmp 28) rfl TH.sb (fun _ _ _ _ h=>TH.one h) 0 (sP pv fs.length cv) fs Ff rfl (AQ.sb TH.sb _ _ _ _ _ R5.o fun j hj=>Ah _ _ _ (N5.o.lt j hj)) W5.heap.size #[um x.1,zo (x.2.length:Int),zo ((x.2[0]?.getD 0:Nat):Int),zo ((x.2[1]?.getD 0:Nat):Int),zo ((x.2[2]?.getD 0:Nat):Int),zo ((x.2[3]?.getD 0:Nat):Int),zo ((x.2[4]?.getD 0:Nat):Int),zo ((x.2[5]?.getD 0:Nat):Int)] 147 (0,0) x [] rfl (Hw _ _) rfl ⟨rfl,rfl⟩ zx (Eg _) (N5.o.la lr zw) (Ag.nil _ _) (fun _ _ h=>by cases h) ?_;intro g6 Cm w6 F6 AM;have b6:=(AM.same p zc YW).trans<|Ah _ _ _ Ea;have c6:=(A9 (a:=(zm p 0)) b6).trans e0;have s6:=fun j=>(bQ (a:=(zm p j)) b6).trans (es j))
 all_goals
  obtain⟨F',Ky,hF2,o6⟩:=D2.o.appF ⟨O5.o.os,O5.o.tape,O5.o.output,O5.o.size,O5.o.block⟩ YM.o (((Off.refl _ W5).alloc _).drew) AM rfl;have DJ:=AC<|AJ Ky<|AJ hF2 o6;clear Ky hF2 o6 AM b6 c6 s6;go_wp2
  go_ret
  exact⟨rfl,F',DJ.o.1,(Off.of HB.o).trans DJ.o.2.1 fun _ h=> .inl h,fun i hi=>(DJ.o.2.2 i hi).imp id (fun h=>Ab HB.o.size h)⟩
def Yf7 {fs:List Fc}(h:Df w p fs vs F)(x:Fc)(hx:GY x)(ho: ∀ y,y∈fs->GY y)(hn:x∈fs):
  Calls prog 110 #[zq p 0,.agg (Dq x).toArray] w fun e w'=>e=uY (.bool true)/\Bl w w':=by
 have CK:=AC fun o=>Zq6 (h.of (w':=w.alloc o) zw fun j hj=>Ah _ _ _ (h.lt j hj)) x hx ho;rw[fq.2 hn]at CK;unfold Dq at CK⊢;clear h hn hx ho;go_in
 go_wp2_with fail
 apply(CK.o _).mono;rintro e w2 ⟨rfl,hb2⟩;have HB:=AC<|(zv w _).trans<|hb2.mono zw;clear hb2;go_wp2
 go_ret
 exact⟨rfl,HB.o⟩
def Z9f {fs:List Fc}(h:Df w p fs vs F)(x:Fc)(hx:GY x)(ho: ∀ y,y∈fs->GY y)(hn:x∉fs)(hl:fs.length=60):
  Calls prog 110 #[zq p 0,.agg (Dq x).toArray] w fun e w'=>e=uY (.bool false)/\Bl w w':=by
 have CK:=AC fun o=>Zq6 (h.of (w':=w.alloc o) zw fun j hj=>Ah _ _ _ (h.lt j hj)) x hx ho;obtain⟨k,r,fv,vv,Ff,Fv,hw⟩:=h;obtain⟨pv,cv,rfl⟩:=hw.fa.form;rw[hl]at hw;have H:=AC hw;rw[Z2q hn]at CK;unfold Dq at CK⊢;clear hw hn hx ho hl;go_in
 go_wp2_with fail
 apply(CK.o _).mono;rintro e w2 ⟨rfl,hb2⟩;have HB:=AC<|(zv w _).trans<|hb2.mono zw;have D2:=AC<|H.o.be HB.o;obtain⟨p0,p1,p2,p3,ps⟩:=D2.o.blk.four;clear hb2;go_wp2_with fail
 all_goals try go_quiet (fail)
 all_goals try go_wp2_with fail
 all_goals
  go_ret
  exact⟨rfl,by first | exact HB.o | exact MW HB.o⟩
def Zvs {fs:List Fc}(h:Df w p fs vs F)(x:Fc)(hx:GY x)(ho: ∀ y,y∈fs->GY y)(hl:fs.length<=60):
  Calls prog 110 #[zq p 0,.agg (Dq x).toArray] w fun e w'=>e=uY (.bool (TI fs x).1)/\ ∃ F',Df w' p (TI fs x).2 vs F'/\Off F w w'/\ ∀ i,i∈F'->i∈F\/w.heap.size<=i:=by
 by_cases hn:x∈fs
 .rw[Zvr hn];apply(Yf7 h x hx ho hn).mono;rintro e w' ⟨he,hb⟩;exact⟨he,F,h.of hb.size fun j hj=>hb.block j (h.lt j hj),Off.of hb,fun _ h=> .inl h⟩
 .by_cases Fq:fs.length=60
  .rw[Zts hn Fq];apply(Z9f h x hx ho hn Fq).mono;rintro e w' ⟨he,hb⟩;exact⟨he,F,h.of hb.size fun j hj=>hb.block j (h.lt j hj),Off.of hb,fun _ h=> .inl h⟩
  .rw[Zq2 hn Fq];exact Ycm h x hx ho hn zx
end
section
open Go.ChangeMaps (setBlock)
variable {r:Bool}{w:Bb}{bm:Nat}{cm:List (Nat×Nat)}
structure EX (H:Fc->Prop) (fs:List Fc) (r:Bool) (fs':List Fc):Prop where
 ext: ∃ ad,fs'=fs++ad/\ ∀ x,x∈ad->H x
 nd:fs.Nodup->fs'.Nodup
 len:fs.length<=60->fs'.length<=60
 all:r=true-> ∀ x,H x->x∈fs'
 no:r=false->fs'.length=60/\ ∃ x,H x/\x∉fs'
def EX.nil {H:Fc->Prop}(fs:List Fc)(h: ∀ x,¬ H x):EX H fs true fs:=⟨⟨[],zw,fun _ h=>by cases h⟩,id,id,fun _ x hx=>absurd hx (h x),fun h=>by cases h⟩
def EX.one (fs:List Fc)(y:Fc):EX (fun x=>x=y) fs (TI fs y).1 (TI fs y).2:=by
 by_cases hn:y∈fs
 .rw[Zvr hn];exact⟨⟨[],zw,fun _ h=>by cases h⟩,id,id,fun _ x hx=>hx▸hn,fun h=>by cases h⟩
 .by_cases Fq:fs.length=60
  .rw[Zts hn Fq];exact⟨⟨[],zw,fun _ h=>by cases h⟩,id,id,fun h=>(by cases h),fun _=>⟨Fq,y,rfl,hn⟩⟩
  .rw[Zq2 hn Fq];refine⟨⟨[y],rfl,fun x h=>Bh.1 h⟩,fun h=>?_,fun h=>?_,fun _ x hx=>by simp[hx],fun h=>by cases h⟩
   .rw[Mc];exact⟨h,zw,fun a ha b hb e=>hn (by rw[<- Bh.1 hb,<- e];exact ha)⟩
   .simp;omega
def EX.dA {H J:Fc->Prop}{fs fs':List Fc}(t:EX H fs r fs')(h: ∀ x,H x↔J x):EX J fs r fs':=by
 obtain rfl:H=J:=funext fun x=>propext (h x);exact t
def EX.seq {H K J:Fc->Prop}{fs D6 MG:List Fc}(t:EX H fs true D6)(s:EX K D6 r MG)(h: ∀ x,J x↔H x\/K x):EX J fs r MG:=by
 obtain⟨a1,e1,h1⟩:=t.ext;obtain⟨a2,e2,h2⟩:=s.ext;refine⟨⟨a1++a2,by rw[e2,e1,JB],fun x hx=>(h x).2 ?_⟩,fun q=>s.nd (t.nd q),fun q=>s.len (t.len q),fun q x hx=>?_,fun q=>?_⟩
 .rcases Aj.1 hx with hx | hx
  .exact .inl<|h1 x hx
  .exact .inr<|h2 x hx
 .rcases(h x).1 hx with hx | hx
  .rw[e2];exact Md _<|t.all rfl x hx
  .exact s.all q x hx
 .obtain⟨q1,x,q2,q3⟩:=s.no q;exact⟨q1,x,(h x).2<|.inr q2,q3⟩
def EX.stop {H J:Fc->Prop}{fs D6:List Fc}(t:EX H fs false D6)(h: ∀ x,H x->J x):EX J fs false D6:=by
 obtain⟨a1,e1,h1⟩:=t.ext;obtain⟨q1,x,q2,q3⟩:=t.no rfl;exact⟨⟨a1,e1,fun x hx=>h x (h1 x hx)⟩,t.nd,t.len,fun q=>(by cases q),fun _=>⟨q1,x,h x q2,q3⟩⟩
def KO (L:Nat->Nat) (i s:Nat):Nat->Nat:=fun j=>if j=i then s else L j
def Yg4 {L:Nat->Nat}{i s:Nat}(hL: ∀ j,L j<2 ^ 60)(hs:s<2 ^ 60): ∀ j,KO L i s j<2 ^ 60:=fun j=>by
 unfold KO;split
 ·exact hs
 ·exact hL j
def Z60 (L:Nat->Nat)(i s t:Nat):KO (KO L i s) i t=KO L i t:=funext fun j=>by unfold KO;split <;> rfl
def bT (fs:List Fc) (h:Hm) (L:Nat->Nat):List (Nat×Nat):=Jb (IP fs h.2.2)<|DZ<|L h.2.1
def ZI (B:Nat->Nat->Nat->Nat) (b:BD) (fs:List Fc):Nat->Nat->(Nat->Nat)->Bn->Fc->Prop
 | 0,_,L,xs,x=>Xq B b.at_.length b.at_.length 0 L/\x=(b.hd.1,FF xs b.hd.2)
 | d+1,k,L,xs,x=>Xq B b.at_.length b.at_.length 0 L/\ ∃ h,b.hs[k]?=some h/\ ∃ y,y∈bT fs h L/\ZI B b fs d (k+1) (KO L h.2.1 y.2) (xs++[(h.1,y.1)]) x
structure Ui (w:Bb) (r bm:Nat) (cm:List (Nat×Nat)) (seen:Array Nat):Prop where
 it:w.heap[r]?=some (.mapIter (some bm) cm.length seen cm.length)
 map:w.heap[bm]?=some (Nb cm)
 nd:seen.toList.Nodup
 lt: ∀ i,i∈seen.toList->i<cm.length
def Z2d: ∀ (i:Nat) (l:List (Nat×Nat)),(GX i l).map (·.born)=List.range' i l.length
 | _,[]=>rfl
 | i,_::l=>by rw[GX,xp,Z2d (i+1) l];rfl
def Z8b: ∀ (i k:Nat) (l:List (Nat×Nat)) {x:Nat×Nat},l[k]?=some x->{key:= zo (x.1:Int),val:= .int .u64 (x.2:Int),born:=i+k}∈GX i l
 | _,_,[],_,h=>by simp at h
 | i,0,y::l,x,h=>by
  obtain rfl:y=x:=by simpa using h
  exact List.mem_cons_self
 | i,k+1,y::l,x,h=>by
  rw[GX,show i+(k+1)=i+1+k by omega];exact wj _<|Z8b (i+1) k l (by simpa using h)
def Z24: ∀ (n:Nat) (l:Cg),l.Nodup->(∀ i,i∈l->i<n)->l.length<=n
 | 0,[],_,_=>EO _
 | 0,i::l,_,h=>absurd (h i zw) zx
 | n+1,l,hd,h=>by
  have h1:=Z24 n (l.erase n) (hd.erase n) fun i hi=>by
   have h2:=(hd.mem_erase_iff).1 hi
   have:=h i h2.2
   have:=h2.1
   omega
  rw[List.length_erase]at h1;split at h1 <;> omega
def Ui.size {r:Nat}{seen:Array Nat}(h:Ui w r bm cm seen):seen.size<=cm.length:=by
 have:=Z24 cm.length seen.toList h.nd h.lt
 simpa using this
def Ui.next {P:Program}{r:Nat}{seen:Array Nat}(h:Ui w r bm cm seen)(hne:r≠bm)(ty:TypeId):
  ((∀ i,i<cm.length->i∈seen.toList)/\(Instr.next (zq r 0) false ty).run P w= .ok (.tuple #[.bool false]) w)\/
  ∃ i x w1,cm[i]?=some x/\i∉seen.toList/\(w1=w\/w1=w.drew)/\(Instr.next (zq r 0) false ty).run P w= .ok (.tuple #[.bool true,zo (x.1:Int),.int .u64 (x.2:Int)]) (setBlock w1 r<|.mapIter (some bm) cm.length (seen.push i) cm.length)/\Ui (setBlock w1 r<|.mapIter (some bm) cm.length (seen.push i) cm.length) r bm cm (seen.push i)/\(Instr.entry<|zq r 0).run P (setBlock w1 r<|.mapIter (some bm) cm.length (seen.push i) cm.length)= .ok (.tuple #[zo (x.1:Int),.int .u64 (x.2:Int)]) (setBlock w1 r<|.mapIter (some bm) cm.length (seen.push i) cm.length):=by
 rcases run_next_at (P:=P) w ty r bm cm.length cm.length seen (GX 0 cm).toArray cm.length h.it h.map (fun e he=>by
  obtain⟨k,x,h1,rfl⟩:=Zz2 (show e∈GX 0 cm by simpa using he)
  have:=(DW.1 h1).1
  show 0+k<_
  omega) lr with⟨h0,h1⟩ | ⟨e,he,w1,BI,h1⟩
 .refine .inl ⟨fun i hi=>?_,h1⟩;have e0:leftOf (GX 0 cm).toArray seen=#[]:=Array.eq_empty_of_size_eq_zero h0;have hm:=Z8b 0 i cm<|A8 hi;unfold leftOf at e0;rw[Array.filter_eq_empty_iff]at e0
  have:=e0 _ (by simpa using hm)
  simpa using this
 .unfold leftOf at he;simp only[Array.toList_filter,List.mem_filter,Bool.not_eq_true']at he;obtain⟨he1,zX⟩:=he;obtain⟨k,x,h2,rfl⟩:=Zz2 (show e∈GX 0 cm by simpa using he1);have hk:=(DW.1 h2).1;have zH:=(PN.1 h.it).1;have NK:k∉seen.toList:=fun q=>by
   rw[Gx]at zX
   have:seen.contains k=true:=by simpa using q
   rw[this]at zX;cases zX
  dsimp only at h1;rw[Gx]at h1;have hs1:w1.heap=w.heap:=by rcases BI with rfl | rfl <;> rfl
  have it':(setBlock w1 r<|.mapIter (some bm) cm.length (seen.push k) cm.length).heap[r]?=some (.mapIter (some bm) cm.length (seen.push k) cm.length):=by
   show(w1.heap.setIfInBounds r _)[r]?=_;exact Array.getElem?_setIfInBounds_self_of_lt (by rw[hs1];exact zH)
  have mp':(setBlock w1 r<|.mapIter (some bm) cm.length (seen.push k) cm.length).heap[bm]?=some (Nb cm):=by
   show(w1.heap.setIfInBounds r _)[bm]?=_;rw[Array.getElem?_setIfInBounds_ne hne,hs1];exact h.map
  refine .inr ⟨k,x,w1,h2,NK,BI,h1,⟨it',mp',?_,fun i hi=>?_⟩,?_⟩
  .rw[Array.toList_push,Mc];exact⟨h.nd,zw,fun a ha b hb e=>NK (by rw[<- Bh.1 hb,<- e];exact ha)⟩
  .rw[Array.toList_push]at hi;rcases Aj.1 hi with hi | hi
   .exact h.lt i hi
   .rw[Bh.1 hi];exact hk
  .exact run_entry_at (P:=P) _ r bm cm.length seen (GX 0 cm).toArray cm.length {key:= zo (x.1:Int),val:= .int .u64 (x.2:Int),born:=k} it' mp' (by have:=Z8b 0 k cm h2;rw[Gx]at this;simpa using this) (by rw[List.toList_toArray,Z2d];exact List.nodup_range')
end
end Go.W
set_option linter.unusedSectionVars false
namespace Go.W
section
variable {k:Nat}{L:Nat->Nat}
variable [Mem]
structure Uu (b:BD):Prop where
 name:b.hd.1.size<=1000000
 len:b.hd.2.length<=6
 val: ∀ s,s∈b.hd.2->s.2<1000000000
 nd:(b.hs.map (·.1)).Nodup
 hl:b.hs.length<=24
 hm: ∀ h,h∈b.hs->h.2.1<4/\h.2.2<6
structure Qo (b:BD) (EF fs:List Fc) (k:Nat) (L:Nat->Nat) (xs:Bn):Prop where
 pre: ∃ more,fs=EF++more
 ok: ∀ y,y∈fs->GY y
 len:fs.length<=60
 bit: ∀ j n,(L j).testBit n=true->n<EF.length
 nm:xs.map (·.1)=(b.hs.take k).map (·.1)
 val: ∀ x,x∈xs->x.2<1000000000
def Qo.lt {b:BD}{EF fs:List Fc}{xs:Bn}(h:Qo b EF fs k L xs)(j:Nat):L j<2 ^ 60:=by
 refine Nat.lt_pow_two_of_testBit _ fun i hi=>?_;cases hb:(L j).testBit i with
 | false=>rfl
 | true=>
  have:=h.bit j i hb
  obtain⟨more,e⟩:=h.pre
  have:=h.len
  rw[e,JS]at this;omega
def Ztu {s:Ay}: ∀ {xs:Bn} {i:Nat} {y:Nat×Nat},GH s xs i=some y-> ∃ x,x∈xs/\x.2=y.2
 | [],_,_,h=>by cases h
 | b::bs,i,y,h=>by
  rw[GH]at h;split at h
  ·injection h with h;exact⟨b,zw,by rw[<- h]⟩
  ·obtain⟨x,h1,h2⟩:=Ztu h;exact⟨x,by simp[h1],h2⟩
def Yat {xs:Bn}(h: ∀ x,x∈xs->x.2<1000000000){s:Sl}(hs:s.2<1000000000):(Dr xs s).1<1000000000:=by
 unfold Dr;split
 .exact hs
 .cases hl:GH s.1 xs 0 with
  | none=>simp
  | some y=>
   obtain⟨x,h1,h2⟩:=Ztu hl
   have:=h x h1
   show y.2<_;omega
def Z0n {b:BD}(hb:Uu b){xs:Bn}(h: ∀ x,x∈xs->x.2<1000000000):GY (b.hd.1,FF xs b.hd.2):=by
 refine⟨hb.name,?_,fun v hv=>?_⟩
 .show(FF xs b.hd.2).length<=6;unfold FF;rw[Dj];exact hb.len
 .obtain⟨s,h1,rfl⟩:=List.mem_map.1 hv;exact Yat h<|hb.val s h1
def Yfy {fs:List Fc}(h: ∀ y,y∈fs->GY y)(k n:Nat):IP fs k n<1000000000:=by
 unfold IP;rw[xr];cases hn:fs[n]? with
 | none=>simp
 | some f=>exact(h f<|Ej hn).at_ k
def Yb7 {EF more:List Fc}{n:Nat}(h:n<EF.length):IP (EF++more) k n=IP EF k n:=by
 unfold IP;rw[xr,xr,PK h]
def Z8c {g g':Nat->Nat}{l:Cg}(h: ∀ n,n∈l->g n=g' n):Jb g l=Jb g' l:=by
 unfold Jb;generalize ([]:List (Nat×Nat))=c;induction l generalizing c with
 | nil=>rfl
 | cons n l ih=>
  rw[List.foldl_cons,List.foldl_cons,h n zw];exact ih (fun m hm=>h m (by simp[hm])) _
def Qo.down {b:BD}{EF fs fs':List Fc}{xs:Bn}(h:Qo b EF fs k L xs){hm:Hm}(hh:b.hs[k]?=some hm){y:Nat×Nat}(hy:y∈bT EF hm L)(ok: ∀ z,z∈fs'->GY z)(len:fs'.length<=60)(pre: ∃ more,fs'=EF++more):Qo b EF fs' (k+1) (KO L hm.2.1 y.2) (xs++[(hm.1,y.1)]):=by
 have hs:=Zu3 (IP EF hm.2.2) _ (DZ<|L hm.2.1) rfl;have hl:L hm.2.1<2 ^ 64:=BK (h.lt _) zu;have hg:=Zvg hs.nd hy;refine⟨pre,ok,len,fun j n hn=>?_,?_,fun x hx=>?_⟩
 .unfold KO at hn;split at hn
  .rw[<- hg]at hn;exact h.bit hm.2.1 n<|(Ol hl).1 ((hs.bits _ _).1 hn).1
  .exact h.bit j n hn
 .rw[wb,h.nm,PM,hh,wb];rfl
 .rcases Aj.1 hx with hx | hx
  .exact h.val x hx
  .rw[Bh.1 hx];obtain⟨n,_,h2⟩:=(hs.keys y.1).1<|List.mem_map_of_mem (f:=(·.1)) hy;show y.1<_;rw[<- h2];refine Yfy (fun z hz=>?_) _ _;obtain⟨more,e⟩:=h.pre;exact h.ok z (by rw[e];simp[hz])
def Zvk {B:Nat->Nat->Nat->Nat}{b:BD}(hb:Uu b){EF:List Fc}: ∀ {d k:Nat} {L:Nat->Nat} {xs:Bn} {fs:List Fc} {x:Fc},Qo b EF fs k L xs->ZI B b EF d k L xs x->GY x
 | 0,_,_,_,_,_,h,hx=>hx.2▸Z0n hb h.val
 | _+1,_,_,_,fs,_,h,hx=>by
  obtain⟨_,hm,h1,y,h2,h3⟩:=hx;exact Zvk hb (h.down (fs':=fs) h1 h2 h.ok h.len h.pre) h3
end
section
open Go.Shelf
variable {w:Bb}{b v:Nat}{a:Nat->Addr}{cs:Ca}{vs:List T}
variable [Mem]
def Wh (w:Bb) (q b v:Nat):Prop:=AO w b #[zq q 0] 232/\AO w v #[.func (.func 230) #[] #[zq b 0,zq v 0]] 371
def Wh.be {u:Bb}{q:Nat}(h:Wh w q b v)(hb:Bl w u):Wh u q b v:=⟨h.1.of<|hb.block _ h.1.lt,h.2.of<|hb.block _ h.2.lt⟩
def JN (H:Fc->Prop) (a:Nat->Addr) (c:Cx) (cs:Ca) (fs:List Fc) (vs:List T) (F:Cg) (xs:Bn) (Fo:Cg) (w:Bb) (e:Ending) (w':Bb):Prop:= ∃ r fs' F' Br Au,e=uY (.bool r)/\EX H fs r fs'/\Ctx a c cs fs' vs F' xs Br Au w'/\Off (c.q::c.m::(Fo++F)) w w'/\(∀ i,i∈F'->i∈F\/w.heap.size<=i)/\ ∀ i,i∈Au->i∈Fo\/w.heap.size<=i
def JN.mk {H:Fc->Prop}{c:Cx}{fs:List Fc}{F:Cg}{xs:Bn}{Fo:Cg}{w':Bb}(r:Bool){fs':List Fc}{F':Cg}{Br:Value}{Au:Cg}(h1:EX H fs r fs')(h2:Ctx a c cs fs' vs F' xs Br Au w')(h3:Off (c.q::c.m::(Fo++F)) w w')(h4: ∀ i,i∈F'->i∈F\/w.heap.size<=i)(h5: ∀ i,i∈Au->i∈Fo\/w.heap.size<=i):JN H a c cs fs vs F xs Fo w (.returned<|.bool r) w':=⟨r,fs',F',Br,Au,rfl,h1,h2,h3,h4,h5⟩
def vB (a:Nat->Addr) (c:Cx) (cs:Ca) (vs:List T) (B:Nat->Nat->Nat->Nat) (EF:List Fc) (b v d:Nat):Prop:= ∀ (k:Nat) (L:Nat->Nat) (xs:Bn) (fs:List Fc) (F:Cg) (ov:Value) (Fo:Cg) (w:Bb),k+d=c.b.hs.length->Ctx a c cs fs vs F xs ov Fo w->Wh w c.q b v->(∀ j,j∈c.q::c.m::(Fo++F)->j≠b/\j≠v)->Qo c.b EF fs k L xs->Calls prog 230 #[zo (k:Int),.agg<|D7 L,zq b 0,zq v 0] w fun e w'=>JN (ZI B c.b EF d k L xs) a c cs fs vs F xs Fo w e w'
def Ydr {c:Cx}{A:Nat->Nat}{B:Nat->Nat->Nat->Nat}(hT:Hy cs A B)(hH:Uu c.b){EF:List Fc}:vB a c cs vs B EF b v 0:=by
 intro k L xs fs F ov Fo w QZ h hw aL hI;obtain rfl:k=c.b.hs.length:=zx
 obtain⟨po,co,rfl⟩:=h.bd.row.form;obtain⟨ph,ch,c2,hrow,_⟩:=h.rd.head;obtain⟨pm,cm,c5,_,_⟩:=h.rd.homes;have HX:AF (∀ u,Bl w u->(u.cell? (zm b 0)=some (zq c.q 0)/\u.cell? (zm c.q 0)=some (zq c.p 0)/\u.cell? (zm c.q 1)=some (um c.b.hd.1)/\u.cell? (zm c.q 2)=some (sP ph c.b.hd.2.length ch)/\u.cell? (zm c.q 6)=some (.map<|some c.m)/\u.cell? (zm c.q 7)=some (sP po (xs.map (·.1)).length co))/\u.cell? (zm c.q 5)=some (sP pm c.b.hs.length cm)):=⟨fun u hu=>by
  have h':=h.be hu;exact⟨⟨(hw.be hu).1.one.1,(h'.cell 0 zx).trans h.rd.c0,(h'.cell 1 zx).trans h.rd.c1,(h'.cell 2 zx).trans c2,h'.bd.cells.1,h'.bd.cells.2.1⟩,(h'.cell 5 zx).trans c5⟩⟩
 have c0: ∀ o,(w.alloc o).cell? (zm b 0)=_:=fun o=>(hw.1.alloc o).one.1;have HC:=AC fun o=>Zqx (h.be (w':=w.alloc o)<|(AR _ w).alloc lr o) hT hI.lt;have HF:AF (∀ u,Bl w u->Calls prog 112 #[.agg #[um c.b.hd.1,sP ph c.b.hd.2.length ch],.agg #[.map<|some c.m,sP po (xs.map (·.1)).length co]] u fun e w'=>e=uY (.agg (Dq (c.b.hd.1,FF xs c.b.hd.2)).toArray)/\Bl u w'):=⟨fun u hu=>by
  have h':=h.be hu;obtain⟨ph',ch',pP,hrow',h6⟩:=h'.rd.head;rw[c2]at pP;injection pP with e;injection e with e1 e2 e3;subst e1 e3;exact Zna (.inr ⟨c.m,rfl,h'.bd.map⟩) (fun m' e=>by cases e;exact h'.bd.map.lt) po _ co hrow' h'.rd.lS h6 _⟩
 have HJ:=AC fun u (hu:Bl w u)=>Zvs (h.be hu).wd (c.b.hd.1,FF xs c.b.hd.2) (Z0n hH hI.val) hI.ok hI.len;have nq:c.q∉F:=fun e=>(h.dB c.q zw).1 e;have hbF:b∉F:=fun e=>(aL b (by simp[e])).1 rfl;have lq:=h.bd.blk.lt;have lb:=hw.1.lt;have H:=AC h;have TO:=AC<|EX.one fs (c.b.hd.1,FF xs c.b.hd.2);unfold D7 at HC⊢;clear h hw c2 c5 hrow;generalize OQ:(c.b.hd.1,FF xs c.b.hd.2)=fx at*;generalize (xs.map (·.1)).length=no at*;have FX:=AC OQ;clear OQ;refine X9 func230 rfl ?_;simp only[ntmps230,GN,DU,JC,Nat.reduceAdd,Nat.reduceSub,Qu,Qv,Qr,Qt,JU,EC];go_wp2_with fail
 apply(HC.o _).mono;rintro e w5 ⟨⟨r,rfl,hr⟩,hb⟩;have hB:Bl w w5:=((AR _ w).alloc lr _).trans<|hb.mono zw;have HR:=AC hr;have HB0:=AC hB;clear hr;cases r with
 | false=>
  clear hb hB;go_wp2_with fail
  exact⟨rfl,_,by simp[results,results230,go_sem],JN.mk true (EX.nil fs fun x hx=>by have:=HR.o.2 hx.1;cases this) (H.o.be HB0.o) (Off.of HB0.o) (fun _ h=> .inl h) fun _ h=> .inl h⟩
 | true=>
  have aV:Bl w w5.drew:=hB.drew;have AY:=(HX.o _ aV).1;obtain⟨⟨b0,q0,q1,q2,q6,q7⟩,q5⟩:=HX.o _ hB;have HB:=AC aV;clear hb hB aV;go_wp2_with fail
  have sZ:b<w5.heap.size:=BK lb HB.o.size;have lq5:c.q<w5.heap.size:=BK lq HB.o.size;obtain⟨jr,hjr⟩:=cK (TI fs fx);rw[hjr.o]at HJ TO;refine Z1y (fun a' w'=>a'.tmps[6]?=some (.bool jr.1)/\a'.defers=[]/\ ∃ F',Df w' c.p jr.2 vs F'/\Off F w w'/\ ∀ i,i∈F'->i∈F\/w.heap.size<=i) ?_ ?_
  .refine Zh (S:=fun u=>u.cell? (zm b 0)=some (zq c.q 0)/\u.cell? (zm c.q 0)=some (zq c.p 0)/\u.cell? (zm c.q 1)=some (um c.b.hd.1)/\u.cell? (zm c.q 2)=some (sP ph c.b.hd.2.length ch)/\u.cell? (zm c.q 6)=some (.map<|some c.m)/\u.cell? (zm c.q 7)=some (sP po no co)) zt ?_;change wpAnyH _ _ _ _ _ _ _ _ (World.drew _);refine zE 0 (zq c.q 0) AY ?_
   refine zE 1 (zq c.q 0) AY ?_
   refine zE 2 (zq c.q 0) AY ?_
   refine zE 3 (zq c.p 0) AY ?_
   refine zE 4 (zq c.q 0) AY ?_
   refine zE 5 (zq c.q 0) AY ?_
   refine zE 6 (zq c.q 1) AY ?_
   refine zE 7 (.agg #[um c.b.hd.1,sP ph c.b.hd.2.length ch]) AY ?_
   refine zE 8 (zq c.q 0) AY ?_
   refine zE 9 (zq c.q 0) AY ?_
   refine zE 10 (zq c.q 6) AY ?_
   refine zE 11 (.agg #[.map<|some c.m,sP po no co]) AY ?_
   refine yr 12 fun K' hK'=>?_;go_simp;apply(HF.o _ HB.o).mono;rintro e w6 ⟨rfl,Gp⟩;have B6:=HB.o.trans<|Gp.mono HB.o.size;have Sm:=(HX.o w6 B6).1;refine hK'.o _ _ Sm fun _=>?_;try simp only[zz]
   refine yr 13 fun K' hK'=>?_;go_simp;apply(HJ.o _ B6).mono;rintro e w7 ⟨rfl,F',XX,NJ,PY⟩;have lb6:b<w6.heap.size:=BK lb B6.size;have yI:c.q<w6.heap.size:=BK lq B6.size;have eb:=NJ.block b lb6 hbF;have eq:=NJ.block c.q yI nq;have cell: ∀ j,w7.cell? (zm c.q j)=w6.cell? (zm c.q j):=fun j=>A9 (a:=(zm c.q j)) eq;have JZ:=AJ ((A9 (a:=(zm b 0)) eb).trans Sm.1)<|AJ ((cell 0).trans Sm.2.1)<|AJ ((cell 1).trans Sm.2.2.1)<|AJ ((cell 2).trans Sm.2.2.2.1)<|AJ ((cell 6).trans Sm.2.2.2.2.1)<|(cell 7).trans Sm.2.2.2.2.2;refine hK'.o _ _ JZ fun _=>?_;try simp only[zz]
   refine zE 14 (.bool jr.1) JZ ?_
   refine Uy zt ?_ _;exact⟨rfl,rfl,F',XX,(Off.of B6).trans NJ fun _ h=> .inl h,fun i hi=>(PY i hi).imp id fun h=>Ab B6.size h⟩
  rintro a' w' ⟨h6,hd,F',XX,NJ,PY⟩;go_wp2
  refine Bg (v:= .bool jr.1) (by rw[results_tmp rfl,Array.getD_eq_getD_getElem?,h6];rfl) hd ?_;refine JN.mk jr.1 (TO.o.dA fun x=>?_) (H.o.world XX NJ PY) (NJ.mono fun i hi=>by simp[hi]) PY fun _ h=> .inl h;exact⟨fun e=>⟨HR.o.1 (by trivial),e.trans FX.o.symm⟩,fun e=>e.2.trans FX.o⟩
end
end Go.W
set_option linter.unusedSectionVars false
namespace Go.W
section
variable {w:Bb}{r bm k:Nat}{cm:List (Nat×Nat)}{L:Nat->Nat}
variable [Mem]
def Zx8 {s:Ay}: ∀ {xs:Bn} {i:Nat},s∉xs.map (·.1)->GH s xs i=none
 | [],_,_=>rfl
 | b::bs,i,h=>by
  rw[xp,Ak,not_or]at h;rw[GH,xd h.1,Zx8 h.2]
def yM (w:Bb) (r n:Nat):Nat:=match w.heap[r]? with
 | some (.mapIter _ _ seen _)=>n-seen.size
 | _=>0
def Ui.left {seen:Array Nat}(h:Ui w r bm cm seen):yM w r cm.length=cm.length-seen.size:=by
 unfold yM;rw[h.it]
def Ui.of {w':Bb}{seen:Array Nat}(h:Ui w r bm cm seen)(h1:w'.heap[r]?=w.heap[r]?)(h2:w'.heap[bm]?=w.heap[bm]?):Ui w' r bm cm seen:=⟨h1.trans h.it,h2.trans h.map,h.nd,h.lt⟩
def Qo.name {b:BD}(hb:Uu b){EF fs:List Fc}{xs:Bn}(h:Qo b EF fs k L xs){hm:Hm}(hh:b.hs[k]?=some hm):hm.1∉xs.map (·.1):=by
 rw[h.nm];intro q;obtain⟨hk,hx⟩:=DW.1 hh;have e:b.hs=b.hs.take k++hm::b.hs.drop (k+1):=by
  rw[<- hx,List.getElem_cons_drop,List.take_append_drop]
 have hn:=hb.nd;rw[e,wb,Mc]at hn;exact hn.2.2 _ q _ zw rfl
def Qo.nodup {b:BD}(hb:Uu b){EF fs:List Fc}{xs:Bn}(h:Qo b EF fs k L xs):(xs.map (·.1)).Nodup:=by
 rw[h.nm,List.map_take];exact hb.nd.sublist<|List.take_sublist _ _
def Yh0 (B:Nat->Nat->Nat->Nat) (b:BD) (EF:List Fc) (d k:Nat) (L:Nat->Nat) (xs:Bn) (y:Ay) (i:Nat) (ch:List (Nat×Nat)) (seen:Array Nat) (x:Fc):Prop:= ∃ j,j∈seen.toList/\ ∃ z,ch[j]?=some z/\ZI B b EF d (k+1) (KO L i z.2) (xs++[(y,z.1)]) x
end
section
open Go.Shelf
variable [Mem]
attribute [local go_sem] Me
structure Yh2 (a:Nat->Addr) (c:Cx) (cs:Ca) (vs:List T) (B:Nat->Nat->Nat->Nat) (EF fs:List Fc) (d k:Nat) (L:Nat->Nat) (xs:Bn) (y:Ay) (i sl:Nat) (ch:List (Nat×Nat)) (b v:Nat) (F Fo:Cg) (w:Bb) (n0 n5 r n8:Nat) (wr:Bb) (seen:Array Nat) (D6:List Fc) (F1:Cg) (Ot:Value) (Jm:Cg) (L':Nat->Nat):Prop where
 it:Ui wr n8 r ch seen
 tl:EX (Yh0 B c.b EF d k L xs y i ch seen) fs true D6
 cx:Ctx a c cs D6 vs F1 xs Ot Jm wr
 off:Off (c.q::c.m::(Fo++F)) w wr
 sF: ∀ j,j∈F1->j∈F\/n8+1<=j
 sFo: ∀ j,j∈Jm->j∈Fo\/n8+1<=j
 ta:Wh wr c.q b v
 left:AO wr n0 (D7 L') 307
 same: ∀ s,KO L' i s=KO L i s
 home:AO wr n5 #[um y,zo (i:Int),zo (sl:Int)] 364
 sz:n8+1<=wr.heap.size
def Ya1 {a:Nat->Addr}{c:Cx}{cs:Ca}{vs:List T}{A:Nat->Nat}{B:Nat->Nat->Nat->Nat}(hT:Hy cs A B)(hH:Uu c.b){EF:List Fc}{b v d:Nat}(ih:vB a c cs vs B EF b v d):vB a c cs vs B EF b v (d+1):=by
 intro k L xs fs F ov Fo w QZ h hw aL hI;obtain⟨po,co,rfl⟩:=h.bd.row.form;obtain⟨pm,cm,c5,_,IC⟩:=h.rd.homes;obtain⟨⟨y,i,sl⟩,hhm⟩: ∃ hm,c.b.hs[k]?=some hm:=⟨_,A8 zx⟩;obtain⟨gh,rfl,zS,g0,g1,g2⟩:=IC k _ hhm;dsimp only at g0 g1 g2;have Si:=hH.hm _<|Ej hhm;dsimp only at Si;have HX:AF (∀ u,Bl w u->u.cell? (zm b 0)=some (zq c.q 0)/\u.cell? (zm c.q 5)=some (sP (Qb gh 0) c.b.hs.length cm)/\u.cell? (zm c.q 7)=some (sP po (xs.map (·.1)).length co)/\u.cell? (zm gh (k*3))=some (um y)/\u.cell? (zm gh (k*3+1))=some (zo (i:Int))/\u.cell? (zm gh (k*3+2))=some (zo (sl:Int))):=⟨fun u hu=>by
  have h':=h.be hu;have hl:=h.rd.lS gh zS;exact⟨(hw.be hu).1.one.1,(h'.cell 5 zx).trans c5,h'.bd.cells.2.1,(A9 (a:=(zm gh (k*3)))<|hu.block gh hl).trans g0,(A9 (a:=(zm gh (k*3+1)))<|hu.block gh hl).trans g1,(A9 (a:=(zm gh (k*3+2)))<|hu.block gh hl).trans g2⟩⟩
 have c0: ∀ o,(w.alloc o).cell? (zm b 0)=_:=fun o=>(hw.1.alloc o).one.1;have HC:=AC fun o=>Zqx (h.be (w':=w.alloc o)<|(AR _ w).alloc lr o) hT hI.lt;obtain⟨ch,hch⟩:=cK (bT EF (y,i,sl) L);have CC:AF (∀ u,Bl w u->Calls prog 232 #[zq c.q 0,.agg #[um y,zo (i:Int),zo (sl:Int)],.int .u64 (L i:Int)] u fun e w'=> ∃ r,e=uY (.map<|some r)/\u.heap.size<=r/\w'.heap[r]?=some (Nb ch)/\Bl u w'):=⟨fun u hu=>by
  have hl:L i<2 ^ 64:=BK (hI.lt _) zu;obtain⟨more,e⟩:=hI.pre;have ce:Jb (IP fs sl) (DZ<|L i)=ch:=by
   rw[<- hch.o];refine Z8c fun n hn=>?_;rw[e];exact Yb7<|hI.bit i n<|(Ol hl).1 hn
  have:=Zz3 (h.be hu) y i Si.2 (L i) (hI.lt i) fun n hn=>by
   have:=hI.bit i n<|(Ol hl).1 hn
   rw[e,JS];omega
  rw[ce]at this;exact this⟩
 have ne:((k:Int)==(c.b.hs.length:Int))=false:=zj
 have hkL:(k:Int)<(c.b.hs.length:Int):=zx
 have hi4:(i:Int)<4:=zx
 have H:=AC h;have HW:=AC hw;have LS:=AC<|fe L (k:=i) Si.1;unfold D7 at HC⊢;clear h hw c5 g0 g1 g2 IC;obtain⟨no,hno⟩:=cK ((xs.map (·.1)).length);rw[hno.o]at HX H;refine X9 func230 rfl ?_;simp only[ntmps230,GN,DU,JC,Nat.reduceAdd,Nat.reduceSub,Qu,Qv,Qr,Qt,JU,EC];go_wp2_with fail
 apply(HC.o _).mono;rintro e w5 ⟨⟨r,rfl,hr⟩,hb⟩;have HR:=AC hr;have HB:=AC<|((AR _ w).alloc lr _).trans<|hb.mono zw;clear hr;cases r with
 | false=>
  clear hb;go_wp2_with fail
  exact⟨rfl,_,by simp[results,results230,go_sem],JN.mk true (EX.nil fs fun x hx=>by have:=HR.o.2 hx.1;cases this) (H.o.be HB.o) (Off.of HB.o) (fun _ h=> .inl h) fun _ h=> .inl h⟩
 | true=>
  have aR:=AC<|HR.o.1 rfl;have L0:=AC<|(AO.new w (D7 L) 307).of<|hb.block w.heap.size zw;obtain⟨b0,q5,q7,y0,y1,y2⟩:=HX.o _ HB.o;obtain⟨W6,hW6⟩:=cK (w5.alloc (.cells #[um y,zo (i:Int),zo (sl:Int)] 364));have B6:=AC<|HB.o.trans<|hW6.o▸(AR _ w5).alloc HB.o.size (.cells #[um y,zo (i:Int),zo (sl:Int)] 364);have N6:=AC<|hW6.o▸AO.new w5 #[um y,zo (i:Int),zo (sl:Int)] 364;have L6:=AC<|hW6.o▸L0.o.alloc (.cells #[um y,zo (i:Int),zo (sl:Int)] 364);have hb0: ∀ o,(w5.alloc o).cell? (zm b 0)=_:=fun o=>(HX.o _<|HB.o.alloc HB.o.size o).1;have yj: ∀ o,(w5.alloc o).cell? (zm c.q 7)=_:=fun o=>(HX.o _<|HB.o.alloc HB.o.size o).2.2.1;clear hb;go_wp2_with fail
  rw[hW6.o];have sz6:W6.heap.size=w5.heap.size+1:=by rw[<- hW6.o];simp
  have lw5:w.heap.size<w5.heap.size:=L0.o.lt;have HS:AF (∀ u,Bl W6 u->u.cell? (zm b 0)=some (zq c.q 0)/\u.cell? (zm w5.heap.size 0)=some (um y)/\u.cell? (zm w5.heap.size 1)=some (zo (i:Int))/\u.cell? (zm w5.heap.size 2)=some (zo (sl:Int))/\u.cell? (zm w.heap.size i)=some (.int .u64 (L i:Int))):=⟨fun u hu=>by
   have n6:=(N6.o.of<|hu.block _ N6.o.lt).three;exact⟨(HX.o u (tr B6 hu).o).1,n6.1,n6.2.1,n6.2.2.1,((L6.o.of<|hu.block _ L6.o.lt).cell i).trans LS.o⟩⟩
  have AY:=HS.o W6.drew (AR _ W6).drew;clear hb0 yj b0 q5 q7 y0 y1 y2 c0;refine Zh (S:=fun u=>u.cell? (zm b 0)=some (zq c.q 0)/\u.cell? (zm w5.heap.size 0)=some (um y)/\u.cell? (zm w5.heap.size 1)=some (zo (i:Int))/\u.cell? (zm w5.heap.size 2)=some (zo (sl:Int))/\u.cell? (zm w.heap.size i)=some (.int .u64 (L i:Int))) zt ?_;change wpAnyH _ _ _ _ _ _ _ _ (World.drew _);refine zE 0 (zq c.q 0) AY ?_
  refine zE 1 (.agg #[um y,zo (i:Int),zo (sl:Int)]) AY ?_
  refine zE 2 (zq w5.heap.size 1) AY ?_
  refine zE 3 (zo (i:Int)) AY ?_
  refine zE 4 (zq w.heap.size i) AY ?_
  refine zE 5 (.int .u64 (L i:Int)) AY ?_
  refine yr 6 fun K' hK'=>?_;go_simp;apply(CC.o _ B6.o.drew).mono;rintro e w8 ⟨r,rfl,hr,VM,GV⟩;have ic:W6.heap.size<=r:=hr;have B8:Bl W6 w8:=(AR _ W6).drew.trans GV;have eH:=HS.o w8 B8;have hrg:=run_range_map (P:=prog) w8 372 _ _ r _ _ underlying372 VM;refine hK'.o _ _ eH fun _=>?_;try simp only[zz]
  refine yr 7 fun K' hK'=>?_;go_simp;obtain⟨W9,hW9⟩:=cK (w8.alloc (.mapIter (some r) ch.length #[] ch.length));have B9:Bl W6 W9:=B8.trans<|hW9.o▸(AR _ w8).alloc B8.size _;have hS9:=HS.o W9 B9;rw[hW9.o];refine hK'.o _ _ hS9 fun _=>?_;try simp only[zz]
  refine Uy zt ?_ _;have l8:r<w8.heap.size:=(PN.1 VM).1;have I9:Ui W9 w8.heap.size r ch #[]:=⟨hW9.o▸World.alloc_heap_new w8 _,(hW9.o▸Ah w8 _ r l8).trans VM,zw,fun i h=>by simp at h⟩;have sz9:W9.heap.size=w8.heap.size+1:=by rw[<- hW9.o];simp
  have l68:W6.heap.size<=w8.heap.size:=B8.size;clear AY eH hrg CC B8 GV VM hS9;go_wp2_with fail
  have R0:Yh2 a c cs vs B EF fs d k L xs y i sl ch b v F Fo w w.heap.size w5.heap.size r w8.heap.size W9 #[] fs F (sP po no co) Fo L:=⟨I9,EX.nil fs fun x ⟨j,hj,_⟩=>by simp at hj,H.o.be (tr B6 B9).o,Off.of (tr B6 B9).o,fun _ h=> .inl h,fun _ h=> .inl h,HW.o.be (tr B6 B9).o,L6.o.of<|B9.block _ L6.o.lt,fun _=>rfl,N6.o.of<|B9.block _ N6.o.lt,zx⟩;have R0':=AC R0;have n9:AF (W9.heap.size=w8.heap.size+1):=⟨sz9⟩;have NL:AF (∀ Jm F1:Cg,(∀ j,j∈Jm->j∈Fo\/w8.heap.size+1<=j)->(∀ j,j∈F1->j∈F\/w8.heap.size+1<=j)-> ∀ j,w.heap.size<=j->j<w8.heap.size+1->j∉c.q::c.m::Jm/\j∉F1/\j∉c.S/\24<=j):=⟨fun Jm F1 h1 h2 j h3 h4=>by
   refine⟨fun q=>?_,fun q=>?_,fun q=>fw (H.o.rd.lS j q),Ab H.o.gl.most h3⟩
   .simp only[Ak]at q;rcases q with rfl | rfl | q
    .have:=H.o.bd.lt c.q zw;omega
    .have:=H.o.bd.lt c.m zw;omega
    .rcases h1 j q with q | q
     .have:=H.o.bd.lt j (by simp[q]);omega
     .omega
   .rcases h2 j q with q | q
    .have:=H.o.wd.lt j q;omega
    .omega⟩
  have BV:AF (∀ Jm F1:Cg,(∀ j,j∈Jm->j∈Fo\/w8.heap.size+1<=j)->(∀ j,j∈F1->j∈F\/w8.heap.size+1<=j)-> ∀ j,j∈c.q::c.m::(Jm++F1)->j≠b/\j≠v):=⟨fun Jm F1 h1 h2 j hj=>by
   have lb:=HW.o.1.lt;have lv:=HW.o.2.lt;have big:w8.heap.size+1<=j->j≠b/\j≠v:=fun h=>⟨zx,zx⟩;simp only[Ak,Aj]at hj;rcases hj with rfl | rfl | hj | hj
   .exact aL _ zw
   .exact aL _ zw
   .exact(h1 j hj).elim (fun h=>aL j (by simp[h])) big
   .exact(h2 j hj).elim (fun h=>aL j (by simp[h])) big⟩
  have FY:xs.length<1000:=by
   have h1:=congrArg List.length hI.nm;have h2:=hH.hl;rw[Dj,Dj,wt]at h1;omega
  have HIH:=AC ih;have HBV:=AC aL;have HI:=AC hI;have YM:=AC<|hI.name hH hhm;clear R0 I9 B9 ih aL hI sz9;go_loopw [9] (fun _ wr=> ∃ seen D6 F1 Ot Jm L',Yh2 a c cs vs B EF fs d k L xs y i sl ch b v F Fo w w.heap.size w5.heap.size r w8.heap.size wr seen D6 F1 Ot Jm L') (fun _ wr=>yM wr w8.heap.size ch.length)
  .exact⟨_,_,_,_,_,_,R0'.o⟩
  .obtain⟨seen,D6,F1,Ot,Jm,L',hR⟩:=hrel;have RR:=AC hR;rcases hR.it.next (P:=prog) zx 0 with⟨hall,V6⟩ | ⟨j,z,w1,hz,NK,BI,V6,Pj,hen⟩
   .have HA:=AC hall;clear hR hall;go_wp2
    refine Bg (v:= .bool true) (by simp[results,results230,go_sem]) rfl ?_;refine JN.mk true (RR.o.tl.dA fun x=>⟨fun⟨j,hj,z,hz,hx⟩=>?_,fun⟨_,h',hh,z,su,hx⟩=>?_⟩) RR.o.cx RR.o.off (fun j hj=>(RR.o.sF j hj).imp id fun h=>zx) (fun j hj=>(RR.o.sFo j hj).imp id fun h=>zx)
    .exact⟨aR.o,(y,i,sl),hhm,z,by rw[hch.o];exact Ej hz,hx⟩
    .rw[hhm]at hh;injection hh with hh;subst hh;rw[hch.o]at su;obtain⟨j,hj⟩:=List.getElem?_of_mem su;exact⟨j,HA.o j (DW.1 hj).1,z,hj,hx⟩
   .have hsz:=hR.sz;obtain⟨WA,hWA⟩:=cK (Go.ChangeMaps.setBlock w1 w8.heap.size (.mapIter (some r) ch.length (seen.push j) ch.length));rw[hWA.o]at V6 Pj hen;have OA:Off [w8.heap.size] wr WA:=by
     rw[<- hWA.o];rcases BI with e | e
     .rw[e];exact(Off.refl _ wr).put _ _ zw
     .rw[e];exact(Off.refl _ wr).drew.put _ _ zw
    have l8A:w8.heap.size+1<=WA.heap.size:=Ab hsz OA.size;have XA:=hR.cx.other OA fun j' JX=>by
     obtain rfl:=Bh.1 JX;exact NL.o Jm F1 hR.sFo hR.sF _ zx zx
    have lb:=HW.o.1.lt;have lv:=HW.o.2.lt;have TA:Wh WA c.q b v:=⟨hR.ta.1.of<|OA.block b zx zc,hR.ta.2.of<|OA.block v zx zc⟩;have LA:=hR.left.of<|OA.block w.heap.size zx zc;have NA:=hR.home.of<|OA.block w5.heap.size zx zc;have jG:WA.drew.cell? (zm b 0)=some (zq c.q 0)/\WA.drew.cell? (zm w5.heap.size 0)=some (um y):=⟨TA.1.one.1,NA.three.1⟩;have CB:=AC<|Z2a (XA.be (AR _ WA).drew).bd y z.1 (Zx8 YM.o) zx;have AA:=AC<|AJ XA<|AJ TA<|AJ LA<|AJ NA<|AJ OA Pj;have HZ:=AC hz;have HNS:=AC NK;clear hR XA TA LA NA OA Pj hz NK BI hWA;go_wp2_with fail
    refine Zh (S:=fun u=>u.cell? (zm b 0)=some (zq c.q 0)/\u.cell? (zm w5.heap.size 0)=some (um y)) zt ?_;change wpAnyH _ _ _ _ _ _ _ _ (World.drew _);refine zE 0 (zq c.q 0) jG ?_
    refine zE 1 (zq c.q 0) jG ?_
    refine zE 2 (zq c.q 6) jG ?_
    refine zE 3 (zq w5.heap.size 0) jG ?_
    refine zE 4 (um y) jG ?_
    refine zE 5 (zo (z.1:Int)) jG ?_
    refine yr 6 fun K' hK'=>?_;go_simp;apply mq CB.o;rintro wB ⟨ovB,FB,oI,VJ,yc⟩;obtain⟨XA,TA,LA,NA,OA,Pj⟩:=AA.o;have lAB:WA.heap.size<=wB.heap.size:=VJ.size;have U9: ∀ j,j∈FB->j∈Fo\/w8.heap.size+1<=j:=fun j hj=>(yc j hj).elim (RR.o.sFo j) fun h=> .inr (Ab l8A h);have XB:=(XA.be (AR _ WA).drew).step oI VJ yc ⟨rfl,fun _ _=>rfl⟩;have nB: ∀ j,w.heap.size<=j->j<w8.heap.size+1->wB.heap[j]?=WA.heap[j]?:=fun j h1 h2=>VJ.block j (BK h2 l8A) (NL.o Jm F1 RR.o.sFo RR.o.sF j h1 h2).1;have bvB:=BV.o Jm F1 RR.o.sFo RR.o.sF;have mB: ∀ j,j∈c.q::c.m::Jm->j∈c.q::c.m::(Jm++F1):=fun j h=>by simp only[Ak,Aj]at h⊢;rcases h with h | h | h <;> simp[h]
    have TB:Wh wB c.q b v:=⟨TA.1.of (VJ.block b (show b<WA.heap.size by omega) fun h=>(bvB b<|mB b h).1 rfl),TA.2.of (VJ.block v (show v<WA.heap.size by omega) fun h=>(bvB v<|mB v h).2 rfl)⟩;have LB:=LA.of<|nB _ lr zx;have NB:=NA.of<|nB w5.heap.size zx zx;refine hK'.o _ _ ⟨TB.1.one.1,NB.three.1⟩ fun _=>?_;try simp only[zz]
    refine Uy zt ?_ _;obtain⟨WC,hWC⟩:=cK (wB.setCell (zm w.heap.size i) (.int .u64 (z.2:Int)));have OC:Off [w.heap.size] wB WC:=hWC.o▸(Off.refl _ wB).set w.heap.size i _ zw;have XC:=XB.other OC fun j' JX=>by
     obtain rfl:=Bh.1 JX;exact NL.o FB F1 U9 RR.o.sF _ lr zx
    have TC:Wh WC c.q b v:=⟨TB.1.of<|OC.block b TB.1.lt zc,TB.2.of<|OC.block v TB.2.lt zc⟩;have LC:AO WC w.heap.size (D7<|KO L i z.2) 307:=by
     have:=LB.set i<|.int .u64 (z.2:Int)
     rw[vM L' Si.1,show YD L' i z.2=KO L' i z.2 from rfl,RR.o.same,hWC.o]at this;exact this
    have NC:=NB.of<|OC.block _ NB.lt zc;have sw:z∈bT EF (y,i,sl) L:=by rw[hch.o];exact Ej HZ.o
    have Zz: ∀ x,x∈D6->GY x:=fun x hx=>by
     obtain⟨ad,e,had⟩:=RR.o.tl.ext;rw[e]at hx;rcases Aj.1 hx with hx | hx
     .exact HI.o.ok x hx
     .obtain⟨j',_,z',J9,UH⟩:=had x hx;exact Zvk hH (HI.o.down (fs':=fs) hhm (by rw[hch.o];exact Ej J9) HI.o.ok HI.o.len HI.o.pre) UH
    have lY: ∃ more,D6=EF++more:=by
     obtain⟨ad,e,_⟩:=RR.o.tl.ext;obtain⟨more,e'⟩:=HI.o.pre;exact⟨more++ad,by rw[e,e',JB]⟩
    have dn:=HI.o.down hhm sw Zz (RR.o.tl.len HI.o.len) lY;have CWC:=AC<|HIH.o (k+1) (KO L i z.2) (xs++[(y,z.1)]) D6 F1 ovB FB WC zx XC TC (BV.o FB F1 U9 RR.o.sF) dn;rw[show((k+1:Nat):Int)=(k:Int)+1 from rfl]at CWC;have DN:=AC<|dn.nodup hH;have lc:=AC LC;unfold D7 at CWC LC;obtain⟨k0,k1,k2,k3,ks⟩:=LC.four;have ji:=(LB.cell i).trans<|fe L' Si.1;have js:=LB.soft;have n1:=NB.three.2.1;have vC:=TC.2.one.1;have henT: ∀ args w,(callFunc 230 args).run prog w= .ok (.enter 230 args) w:=EH func230 zt rfl;have lBC:wB.heap.size<=WC.heap.size:=OC.size;have CCx:=AC<|AJ TC<|AJ NC<|AJ OC<|AJ VJ<|AJ U9 nB;rw[<- hWC.o]at vC k0 k1 k2 k3;clear XA TA LA NA OA Pj XB TB LB NB XC TC NC LC OC VJ yc oI nB bvB mB U9 dn Zz lY sw;go_wp2_with fail
    rw[hWC.o];apply CWC.o.mono;rintro e wD ⟨r2,MG,F2,Q7,XP,rfl,E5,hc2,FM,hF2,WM⟩;obtain⟨TC,NC,OC,VJ,U9,nB⟩:=CCx.o;have bvC:=BV.o FB F1 U9 RR.o.sF;have lCD:WC.heap.size<=wD.heap.size:=FM.size;have TD:Wh wD c.q b v:=⟨TC.1.of (FM.block b TC.1.lt fun h=>(bvC b h).1 rfl),TC.2.of (FM.block v TC.2.lt fun h=>(bvC v h).2 rfl)⟩;have bD:=TD.1.one.1;have nx:xs.length=no:=by rw[<- hno.o,Dj]
    have CFr:=AC<|Zvf hc2.bd DN.o no (by rw[JS];omega);have tk0:(xs++[(y,z.1)]).take no=xs:=by rw[<- nx,List.take_left]
    rw[tk0]at CFr;have nC: ∀ j,w.heap.size<=j->j<w8.heap.size+1->wD.heap[j]?=WC.heap[j]?:=fun j h1 h2=>FM.block j zx fun h=>by
     have q:=NL.o FB F1 U9 RR.o.sF j h1 h2;simp only[Ak,Aj]at h;rcases h with h | h | h | h
     .exact q.1 (by simp[h])
     .exact q.1 (by simp[h])
     .exact q.1 (by simp[h])
     .exact q.2.1 h
    have SX: ∀ j,j∈F2->j∈F\/w8.heap.size+1<=j:=fun j hj=>(hF2 j hj).elim (RR.o.sF j) fun h=> .inr zx;have OH: ∀ j,j∈XP->j∈Fo\/w8.heap.size+1<=j:=fun j hj=>(WM j hj).elim (U9 j) fun h=> .inr zx;have DD:=AC<|AJ TD<|AJ E5<|AJ hc2<|AJ FM<|AJ SX<|AJ OH nC;clear TC NC OC VJ U9 nB bvC TD E5 hc2 FM hF2 WM nC SX OH tk0 vC k0 k1 k2 k3 ks ji js n1;go_wp2_with fail
    apply mq CFr.o;rintro wE ⟨ovE,hbE,dU⟩;obtain⟨TD,E5,hc2,FM,SX,OH,nC⟩:=DD.o;obtain⟨TC,NC,OC,VJ,U9,nB⟩:=CCx.o;obtain⟨XA,TA,LA,NA,OA,Pj⟩:=AA.o;have XE:=hc2.step hbE dU (fun _ h=> .inl h) ⟨rfl,fun _ _=>rfl⟩;have lDE:wD.heap.size<=wE.heap.size:=dU.size;have nE: ∀ j,w.heap.size<=j->j<w8.heap.size+1->wE.heap[j]?=WC.heap[j]?:=fun j h1 h2=>(dU.block j zx (NL.o XP F2 OH SX j h1 h2).1).trans (nC j h1 h2);have yH: ∀ j,w.heap.size<j->j<w8.heap.size+1->wE.heap[j]?=WA.heap[j]?:=fun j h1 h2=>(nE j zx h2).trans ((OC.block j zx zc).trans<|nB j zx h2);have bvE:=BV.o XP F2 OH SX;have mE: ∀ j,j∈c.q::c.m::XP->j∈c.q::c.m::(XP++F2):=fun j h=>by simp only[Ak,Aj]at h⊢;rcases h with h | h | h <;> simp[h]
    have TE:Wh wE c.q b v:=⟨TD.1.of (dU.block b TD.1.lt fun h=>(bvE b<|mE b h).1 rfl),TD.2.of (dU.block v TD.2.lt fun h=>(bvE v<|mE v h).2 rfl)⟩;have SC: ∀ Au F':Cg,(∀ j,j∈Au->j∈Fo\/w8.heap.size+1<=j)->(∀ j,j∈F'->j∈F\/w8.heap.size+1<=j)-> ∀ j,j∈c.q::c.m::(Au++F')->j∈c.q::c.m::(Fo++F)\/w.heap.size<=j:=fun Au F' h1 h2 j hj=>by
     simp only[Ak,Aj]at hj⊢;rcases hj with h | h | h | h
     .exact .inl<|.inl h
     .exact .inl<|.inr<|.inl h
     .exact(h1 j h).imp (fun h=> .inr (.inr<|.inl h)) fun h=>zx
     .exact(h2 j h).imp (fun h=> .inr (.inr<|.inr h)) fun h=>zx
    have OE:Off (c.q::c.m::(Fo++F)) w wE:=((((RR.o.off.trans OA fun j' JX=> .inr (by simp at JX;omega)).drew.trans VJ fun j' JX=>SC Jm F1 RR.o.sFo RR.o.sF j' (by simp only[Ak,Aj]at JX⊢;rcases JX with h | h | h <;> simp[h])).trans OC fun j' JX=> .inr (by simp at JX;omega)).trans FM<|SC FB F1 U9 RR.o.sF).trans dU fun j' JX=>SC XP F2 OH SX j' (mE j' JX);have IE:Ui wE w8.heap.size r ch (seen.push j):=Pj.of (yH _ zx zx)<|yH _ zx zx;have TL:EX (Yh0 B c.b EF d k L xs y i ch<|seen.push j) fs r2 MG:=RR.o.tl.seq E5 fun x=>by
     constructor
     .rintro⟨j',JX,z',J9,hx⟩;rw[Array.toList_push]at JX;rcases Aj.1 JX with JX | JX
      .exact .inl ⟨j',JX,z',J9,hx⟩
      .rw[Bh.1 JX,HZ.o]at J9;injection J9 with J9;subst J9;exact .inr hx
     .rintro(⟨j',JX,z',J9,hx⟩ | hx)
      .exact⟨j',by rw[Array.toList_push];simp[JX],z',J9,hx⟩
      .exact⟨j,by rw[Array.toList_push];simp,z,HZ.o,hx⟩
    have EE:=AC<|AJ XE<|AJ OE<|AJ IE<|AJ TL<|AJ TE<|AJ (lc.o.of<|nE _ lr zx)<|AJ (NC.of<|nE _ zx zx)<|AJ SX OH;clear XE OE IE TL TE SC mE bvE yH nE TD E5 hc2 FM nC TC NC OC VJ U9 nB XA TA LA NA OA Pj hbE dU;cases r2 with
    | false=>
     go_wp2
     refine Bg (v:= .bool false) (by simp[results,results230,go_sem]) rfl ?_;obtain⟨XE,OE,IE,TL,TE,_⟩:=EE.o;refine JN.mk false (TL.stop fun x ⟨j',JX,z',J9,hx⟩=>?_) XE OE (fun j hj=>(SX j hj).imp id fun h=>zx) (fun j hj=>(OH j hj).imp id fun h=>zx);exact⟨aR.o,(y,i,sl),hhm,z',by rw[hch.o];exact Ej J9,hx⟩
    | true=>
     go_wp2
     go_roundw
     .obtain⟨XE,OE,IE,TL,TE,LE,NE,_,_⟩:=EE.o;exact⟨seen.push j,MG,F2,ovE,XP,KO L i z.2,IE,TL,XE,OE,SX,OH,TE,LE,fun s=>Z60 L i z.2 s,NE,zx⟩
     case measure=>
      have IE:=EE.o.2.2.1
      have:=IE.size
      rw[IE.left,RR.o.it.left];simp at this⊢;omega
end
end Go.W
set_option linter.unusedSectionVars false
namespace Go.W
section
open Go.Shelf
variable {a:Nat->Addr}{cs:Ca}{vs:List T}{B:Nat->Nat->Nat->Nat}{F Fo:Cg}{w:Bb}
variable [Mem]
def Z32 {c:Cx}{A:Nat->Nat}(hT:Hy cs A B)(hH:Uu c.b){EF:List Fc}{b v:Nat}: ∀ d,vB a c cs vs B EF b v d
 | 0=>Ydr hT hH
 | d+1=>Ya1 hT hH (Z32 hT hH d)
def JN.la {H:Fc->Prop}{c:Cx}{fs:List Fc}{xs:Bn}{u w':Bb}{e:Ending}(hb:Bl w u)(h:JN H a c cs fs vs F xs Fo u e w'):JN H a c cs fs vs F xs Fo w e w':=by
 obtain⟨r,fs',F',Br,Au,rfl,h1,h2,h3,h4,h5⟩:=h;exact JN.mk r h1 h2 ((Off.of hb).trans h3 fun _ h=> .inl h) (fun i hi=>(h4 i hi).imp id (Ab hb.size)) fun i hi=>(h5 i hi).imp id (Ab hb.size)
def Yds {c:Cx}{fs:List Fc}{ov:Value}{A:Nat->Nat}{L:Nat->Nat}(h:Ctx a c cs fs vs F [] ov Fo w)(hT:Hy cs A B)(hH:Uu c.b){EF:List Fc}(hI:Qo c.b EF fs 0 L []):
  Calls prog 176 #[zq c.q 0,.agg<|D7 L] w fun e w'=>JN (ZI B c.b EF c.b.hs.length 0 L []) a c cs fs vs F [] Fo w e w':=by
 have HC:=AC fun u b v (hu:Bl w u) (h1:w.heap.size<=b) (h2:w.heap.size<=v) (hv:Wh u c.q b v)=>Z32 hT hH (b:=b) (v:=v) c.b.hs.length 0 L [] fs F ov Fo u zx (h.be hu) hv (fun j hj=>by
  have hl:j<w.heap.size:=by
   simp only[Ak,Aj]at hj;rcases hj with rfl | rfl | hj | hj
   .exact h.bd.lt _ zw
   .exact h.bd.lt _ zw
   .exact h.bd.lt _ (by simp[hj])
   .exact h.wd.lt _ hj
  exact⟨zx,zx⟩) hI
 clear h;unfold D7 at HC⊢;have hen: ∀ args w,(callFunc 230 args).run prog w= .ok (.enter 230 args) w:=EH func230 zt rfl;have Ho:=fun(fn:Fn) (first cap:Ca) (w:Bb)=>(rfl:(Instr.makeFunc fn first cap).run prog w= .ok (.func fn first cap) w);have hst:=fun(a:Addr) (fn:Fn) (first cap:Ca) (m:Mode) (w:Bb)=>run_store prog w a (.func fn first cap) m rfl;refine X9 func176 rfl ?_;simp only[ntmps176,GN,DU,JC,Nat.reduceAdd,Nat.reduceSub,Qu,Qv,Qr,Qt,JU,EC];go_wp2_with fail
 refine(HC.o _ w.heap.size (w.heap.size+1+1) ((((AR _ w).alloc lr _).alloc zw _).alloc zc _) lr zx ⟨((AO.new w _ _).alloc _).alloc _,bU w _ _ _ _⟩).mono ?_;intro e w5 hp;have hP:=JN.la ((((AR _ w).alloc lr _).alloc zw _).alloc zc _) hp;clear hp;obtain⟨r,fs',F',Br,Au,rfl,h1,h2,h3,h4,h5⟩:=hP;have HP:=AC<|AJ h1<|AJ h2<|AJ h3<|AJ h4 h5;clear h1 h2 h3 h4 h5;go_wp2_with fail
 exact⟨rfl,_,by simp[results,results176,go_sem],JN.mk r HP.o.1 HP.o.2.1 HP.o.2.2.1 HP.o.2.2.2.1 HP.o.2.2.2.2⟩
end
end Go.W
