import Derived.Test.YtpmcefkhkkpnbaaGreatDoorW09
set_option linter.all false
set_option maxRecDepth 100000
set_option maxHeartbeats 8000000
open Go.Proofs Go.RowKit Go.W Tryz
namespace Go.W
def wV:Ms:=⟨fun k=>((pU.getD k 0:Nat):Int),fun _=>0,0⟩
def Lm (ts:List Ay):Ms×Int:=ts.foldl (fun p t=>(Nl p.1 t.data.toList,IntKind.u64.wrap<|p.2+(t.size:Int))) (wV,0)
variable {a:Nat->Addr}{w:Bb}{ts:List Ay}
def Ez (ts:List Ay):List UInt8:=Zsx (Lm ts).1 (Lm ts).2
def IV (w:Bb) (p:Bp) (ts:List Ay):Prop:= ∀ i t,ts[i]?=some t->t.size<1000000000/\ ∃ b o,p=some (zm b o)/\b<w.heap.size/\w.cell? (zm b (o+i))=some (um t)
theorem AZ.start (h:AZ a w)(i:Nat)(hi:i<8):w.cell? (zm 11 i)=some (.int .u32<|wV.ws i):=by
 obtain⟨_,h0,h1⟩:=h;have hl:i<pU.length:=hi;exact(h1 _ _ zu).2.trans<|h0.start i _ (by rw[List.getD,A8 hl];rfl)
noncomputable def Xn (S:Nat->Int):Ca:=((((((((zeroCells276.setIfInBounds 0<|.int .u32<|S 0).setIfInBounds 1<|.int .u32<|S 1).setIfInBounds 2<|.int .u32<|S 2).setIfInBounds 3<|.int .u32<|S 3).setIfInBounds 4<|.int .u32<|S 4).setIfInBounds 5<|.int .u32<|S 5).setIfInBounds 6<|.int .u32<|S 6).setIfInBounds 7<|.int .u32<|S 7)
theorem gF (S:Nat->Int):Xn S=(([.int .u32<|S 0,.int .u32<|S 1,.int .u32<|S 2,.int .u32<|S 3,.int .u32<|S 4,.int .u32<|S 5,.int .u32<|S 6,.int .u32<|S 7]:Bu)++List.replicate 64 (Value.int .u8 0)++([zo 0,.int .u64 0]:Bu)).toArray:=zt
theorem Z9q {b:Nat}{S:Nat->Int}(h:AO w b (Xn S) 276):Mx w b S (fun _=>0) 0 0:=by
 refine⟨_,h,by rw[gF];simp,fun k hk=>?_,fun k hk=>?_,by rw[gF];simp,by rw[gF];simp⟩
 .rw[gF,Tu,JB,PK (by simpa using hk)];have g:k=0\/k=1\/k=2\/k=3\/k=4\/k=5\/k=6\/k=7:=zx
  rcases g with rfl | rfl | rfl | rfl | rfl | rfl | rfl | rfl <;> rfl
 .rw[gF,Tu,JB,PL zw,PK zc];rw[List.getElem?_replicate,xj zc]
theorem Zql (s:Ms)(m:Int):(Zsx s m).length=32:=by unfold Zsx;simp
theorem Yc3 {k:Nat}{t:Ay}(h:ts[k]?=some t):Lm (ts.take<|k+1)=(Nl (Lm<|ts.take k).1 t.data.toList,IntKind.u64.wrap<|(Lm<|ts.take k).2+(t.size:Int)):=by
 have e1:ts.take (k+1)=ts.take k++[t]:=by rw[PM,h];rfl
 rw[e1];unfold Lm;rw[List.foldl_append];rfl
def Yjl (b:Nat) (W:Bb) (ts:List Ay) (iv:Value) (wr:Bb):Prop:= ∃ k:Nat,k<=ts.length/\iv= zo (k:Int)/\Mx wr b (Lm<|ts.take k).1.ws (Lm<|ts.take k).1.hs (Lm<|ts.take k).1.n (Lm<|ts.take k).2/\(Lm<|ts.take k).1.n<64/\Ad b W wr
theorem wY {p:Bp}{c:Nat}(Z:AZ a w)(hT:IV w p ts)(hl:ts.length<1000000000):Calls prog 82 #[sP p ts.length c] w fun e w'=>e=uY (Ip<|Ez ts)/\Bl w w':=by
 have hz:=Z.size;have x0:=Z.start 0 zu;have x1:=Z.start 1 zu;have x2:=Z.start 2 zu;have x3:=Z.start 3 zu;have x4:=Z.start 4 zu;have x5:=Z.start 5 zu;have x6:=Z.start 6 zu;have x7:=Z.start 7 zu;obtain⟨S,hS⟩:=cK (wV.ws);rw[hS.o]at x0 x1 x2 x3 x4 x5 x6 x7;have ZW:=AC Z;have HT:=AC hT;clear Z hT;go_in
 have J9:11<w.heap.size:=zx
 have Na:AO ((w.alloc<|.cells Bj 115).alloc<|.cells zeroCells276 276) (w.heap.size+1) zeroCells276 276:=by
  have:=AO.new (w.alloc<|.cells Bj 115) zeroCells276 276
  simpa using this
 have mf:(Xn S).size=zeroCells276.size:=by simp[Xn]
 have nJ:(prog.info? 276).map (·.size)=some (Xn S).size:=by rw[gF];kernel_rfl
 have aF:(Xn S).all (·.oneCell')=true:=by rw[gF];kernel_rfl
 go_wp2_with (first | (refine Ij rfl 276 (.tmp 3) (.tmp 7) rfl (w.heap.size+1) (Xn S) rfl rfl 276 zeroCells276 Na nJ mf aF ?_))
 obtain⟨W,hW⟩: ∃ W,W=((w.alloc<|.cells Bj 115).alloc<|.cells zeroCells276 276).setRow (w.heap.size+1) (Xn S):=⟨_,rfl⟩;have OZ:=GM _ _ _ (Xn S) _ _ Na;rw[<- hW]at OZ;have hMx:AF (Mx W (w.heap.size+1) wV.ws (fun _=>0) 0 0):=⟨by rw[hS.o];exact Z9q OZ⟩;have VG:AF (W.heap.size=w.heap.size+2):=⟨by rw[hW,Ef];simp⟩;have hbl:AF (Bl w W):=⟨by
  have h2:=(zv w<|.cells Bj 115).alloc zw<|.cells zeroCells276 276;rw[hW];exact⟨h2.os,h2.tape,h2.output,by rw[Ef];exact h2.size,fun j hj=>(Db _ _ j _ zx).trans (h2.block j hj)⟩⟩
 have Yr:AF (AO W w.heap.size Bj 115):=⟨by
  rw[hW];exact(AO.of (AO.alloc (AO.new w Bj 115) _)<|Db _ _ _ _ zx)⟩
 change Code.wp _ _ _ _ (((w.alloc<|.cells Bj 115).alloc<|.cells zeroCells276 276).setRow (w.heap.size+1)<|Xn S);rw[<- hW];clear hW OZ Na mf nJ aF x0 x1 x2 x3 x4 x5 x6 x7;obtain⟨n,hn⟩:=cK (ts.length);rw[hn.o];generalize Value.agg _=v6;generalize Value.agg _=v7;go_loopw [10] (fun iv wr=>Yjl (w.heap.size+1) W ts iv wr) (fun iv _=>ts.length-(intOf iv).toNat)
 .exact⟨0,zx,rfl,hMx.o,(show(0:Nat)<64 by decide),Ad.refl _ W⟩
 .obtain⟨k,hk,rfl,hM,NM,hK⟩:=hrel;have HZ:=AC<|(ZW.o.be hbl.o).keeps hK zx;by_cases hlt:k<n
  .have g:(k:Int)<(n:Int):=zx
   obtain⟨t,ht⟩: ∃ t,ts[k]?=some t:=⟨ts[k]'(fw (hn.o)),A8 _⟩;obtain⟨JW,b,o,rfl,Af,hc⟩:=HT.o k t ht;have hc1:wr.cell? (zm b (o+k))=some (um t):=((A9 (a:=(zm b (o+k)))<|hK.block b (fw (VG.o)) zx).trans<|hbl.o.cell (p:=(zm b (o+k))) Af).trans hc;have CA:=AC<|Ycs (t:=t) HZ.o zx hM NM JW;have E:=AC<|Yc3 ht;have HK:=AC hK;clear hM hK ht hc NM;go_wp2_with fail
   apply mq CA.o;rintro w2 ⟨hk2,Jp,Hl⟩;have H2:=AC<|AJ Jp<|AJ Hl<|HK.o.trans hk2;clear hk2 Jp Hl CA;go_wp2_with fail
   refine⟨⟨k+1,fw (hn.o),zw,?_⟩,by simp[intOf];have:=hn.o;omega⟩;rw[E.o];exact H2.o
  .obtain rfl:k=n:=fw (hn.o)
   rw[<- hn.o,On]at hM NM;have CE:=AC<|Ycu HZ.o zx hM NM;have HK:=AC hK;have HL:=Yr.o.of<|hK.block _ (fw (VG.o)) zx;clear hM NM hK;go_wp2_with fail
   apply mq CE.o;rintro w2 hk2;have hs:(Lib.byteCells<|Zsx (Lm ts).1 (Lm ts).2).toArray.size=32:=by rw[GN,xl,Zql]
   have Bw:(Lib.byteCells<|Zsx (Lm ts).1 (Lm ts).2).toArray.all (·.oneCell')=true:=by
    rw[List.all_toArray,SI];exact Lib.byteCells_one _
   have YV:(prog.info? 115).map (·.size)=some (Lib.byteCells<|Zsx (Lm ts).1 (Lm ts).2).toArray.size:=by rw[hs];kernel_rfl
   have iI:=HL.of<|hk2.block _ HL.lt zx;have HE:AF (Ip (Zsx (Lm ts).1 (Lm ts).2)=Ip (Ez ts)):=⟨rfl⟩;unfold Ip;obtain⟨vs,UI⟩:=cK ((Lib.byteCells<|Zsx (Lm ts).1 (Lm ts).2).toArray);rw[UI.o]at hs Bw YV⊢;go_wp2_with (first | (refine Ij rfl 115 (.tmp 2) (.tmp 17) rfl w.heap.size vs rfl rfl 115 Bj iI YV (by first | exact hs | exact hs.symm) Bw ?_))
   refine Bg (results_cell_row (p:=2) (ty:=115) rfl _ _ w.heap.size 115 vs (0,0) _ rfl (GM w2 _ Bj vs _ _ iI) underlying115 rfl YV) rfl ?_;have hk:=HK.o.trans hk2;refine⟨by rw[<- UI.o];rfl,⟨hk.os.trans hbl.o.os,hk.tape.trans hbl.o.tape,hk.output.trans hbl.o.output,by rw[Ef];have:=hk.size;have:=VG.o;omega,fun j hj=>(Db w2 _ j vs zx).trans ((hk.block j (fw (VG.o)) zx).trans<|hbl.o.block j hj)⟩⟩
end Go.W
