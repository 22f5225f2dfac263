import Derived.Test.YtpmcefkhkkpnbaaGreatDoorW09
import Derived.Test.YtpmcefkhkkpnbaaGreatDoorW17
import Derived.Deep.RegionWith
import Derived.RangeFuncNested
import Derived.RangeFuncLeaves
import Derived.RangeFuncBound
import Derived.RangeFuncCalls
import Derived.Shelf.RegionOpen
import Derived.OwnWalkIn
import Derived.TacticsInMore
import Derived.LoopNIn
import Derived.LoopIn
import Derived.Shelf.Strconv.ErrVarParseInt
import Derived.Lib.AtoiErrMem
set_option linter.all false
set_option maxRecDepth 100000
set_option maxHeartbeats 8000000
open Go.Proofs Go.RowKit Go.W Tryz
namespace Go.W
section
open Go.Extern.Stop Go.Stop Go.Extern
variable {a:Nat->Addr}{w:Bb}
structure IL (a:Nat->Addr) (w:Bb):Prop where
 row: ∀ k,k<10-> ∃ c t,w.heap[(a k).block]?=some (.cells c t (0,0))
 apart: ∀ i j,i<10->j<10->i≠j->a i≠a j
 et:w.cell? (zm 10 0)=some (.iface 245<|.agg #[zq 24 57])
def IL.be {w':Bb}(g:IL a w)(hb:Bl w w'):IL a w' where
 row:=fun k hk=>by
  obtain⟨c,t,h⟩:=g.row k hk;exact⟨c,t,by rw[hb.block _ (PN.1 h).1];exact h⟩
 apart:=g.apart
 et:=Cb g.et hb
def Z2w (g:IL a w)(k i:Nat)(hk:k<10)(hi:i<10):
  Calls prog 27 #[zr<|a k,zr<|a i] w fun e w'=>e=uY (.bool<|decide<|i=k)/\w'=w:=by
 by_cases h:i=k
 .subst h;simpa using Yf6 (a i) w
 .obtain⟨c1,t1,h1⟩:=g.row k hk;obtain⟨c2,t2,h2⟩:=g.row i hi;simpa[h]using Ycl (a k) (a i) c1 c2 t1 t2 w (g.apart k i hk hi<|Ne.symm h) h1 h2
def Z2v (g:IL a w)(pb po k i:Nat)(hk:k<10)(hi:i<10)(hp:w.cell? (zm pb (po+1))=some (zr<|a k)):
  Calls prog 27 #[.iface 86<|zq pb po,zr<|a i] w fun e w'=>e=uY (.bool<|decide<|i=k)/\w'=w:=by
 by_cases h:i=k
 .subst h;simpa using Zvq pb po (a i) w hp
 .obtain⟨c1,t1,h1⟩:=g.row k hk;obtain⟨c2,t2,h2⟩:=g.row i hi;simpa[h]using Zsp pb po (a i) (a k) c1 c2 t1 t2 w hp (g.apart k i hk hi<|Ne.symm h) h1 h2
def Z33 (a:Nat->Addr)(w:Bb)(q:Nat)(hq:q<10):(w.alloc<|.cells #[zr<|a 0,zr<|a 1,zr<|a 2,zr<|a 3,zr<|a 4,zr<|a 5,zr<|a 6,zr<|a 7,zr<|a 8,zr<|a 9] 57).cell? (zm w.heap.size q)=some (zr<|a q):=by
 have h:q=0\/q=1\/q=2\/q=3\/q=4\/q=5\/q=6\/q=7\/q=8\/q=9:=zx
 rcases h with h | h | h | h | h | h | h | h | h | h <;> (subst h;simp)
def seen (k q:Nat):Int:=if k<q then(k:Int)+1 else 0
def Z3t (k:Nat):seen k (k+1)=(k:Int)+1:=by simp[seen]
def Yan (k:Nat):seen k k=0:=by simp[seen]
def Zyu (k q:Nat)(h:q≠k):seen k (q+1)=seen k q:=by
 unfold seen;by_cases h1:k<q
 .rw[xj zx,xj h1]
 .rw[xd zx,xd h1]
def Z3u (k:Nat)(h:k<10):seen k 10=(k:Int)+1:=by simp[seen,h]
def Zoj (Z:AZ a w)(g:IL a w)(k:Nat)(hk:k<10):
  Calls prog 16 #[zr<|a k] w fun e w'=>e=uY (.tuple #[.int .i64<|k+1,zo (-1)])/\Bl w w':=by
 have g0:w.cell? _=some (zr<|a 0):=Z.c1;have g1:w.cell? _=some (zr<|a 1):=Z.c2;have g2:w.cell? _=some (zr<|a 2):=Z.c3;have g3:w.cell? _=some (zr<|a 3):=Z.c4;have g4:w.cell? _=some (zr<|a 4):=Z.c5;have g5:w.cell? _=some (zr<|a 5):=Z.c6;have g6:w.cell? _=some (zr<|a 6):=Z.c7;have g7:w.cell? _=some (zr<|a 7):=Z.c8;have g8:w.cell? _=some (zr<|a 8):=Z.c9;have g9:w.cell? _=some (zr<|a 9):=Z.c10;have hb:Bl w (w.alloc<|.cells #[zr<|a 0,zr<|a 1,zr<|a 2,zr<|a 3,zr<|a 4,zr<|a 5,zr<|a 6,zr<|a 7,zr<|a 8,zr<|a 9] 57):=(AR _ _).alloc lr _;have G:=g.be hb;have T:=Z33 a w;go_in
 go_wp2
 clear g0 g1 g2 g3 g4 g5 g6 g7 g8 g9;go_loop [4,22] (fun n i=> ∃ q:Nat,q<=10/\i= zo q/\n= zo (seen k q)) (fun _ i=>10-(intOf i).toNat)
 .exact⟨0,zx,rfl,rfl⟩
 .obtain⟨q,hq,rfl,rfl⟩:=hrel;by_cases hlt:q<10
  .have Tq:=T q hlt;clear T;by_cases h:q=k
   .subst h;have I:=Z2w G q q hk hlt;simp only[Yan,decide_true]at I⊢;go_wp2_with (go_at_call 27;apply mq I;rintro w' rfl)
    exact⟨⟨q+1,zx,by go_num,by rw[Z3t]⟩,zd⟩
   .have I:=Z2w G k q hk hlt;simp only[h,decide_false]at I;go_wp2_with (go_at_call 27;apply mq I;rintro w' rfl)
    exact⟨⟨q+1,zx,by go_num,by rw[Zyu k q h]⟩,zd⟩
  .obtain rfl:q=10:=zx
   rw[Z3u k hk];have hb2:Bl w ((w.alloc<|.cells #[zr<|a 0,zr<|a 1,zr<|a 2,zr<|a 3,zr<|a 4,zr<|a 5,zr<|a 6,zr<|a 7,zr<|a 8,zr<|a 9] 57).alloc<|.cells #[.pointer none] 86):=hb.alloc zw _;have E:=(g.be hb2).et;go_wp2_with fail
   apply(Yff _ _ _ E).mono;rintro e w' ⟨rfl,rfl⟩;go_wp2
   go_ret2
   exact⟨rfl,((hb2.alloc zc _).alloc zc _).alloc zc _⟩
def Zoi (Z:AZ a w)(g:IL a w)(pb po k:Nat)(at0:Int)(hk:k<10)(h0:w.cell? (zm pb po)=some (zo at0))(h1:w.cell? (zm pb (po+1))=some (zr<|a k)):
  Calls prog 16 #[.iface 86<|zq pb po] w fun e w'=>e=uY (.tuple #[.int .i64<|k+1,zo at0])/\Bl w w':=by
 have g0:w.cell? _=some (zr<|a 0):=Z.c1;have g1:w.cell? _=some (zr<|a 1):=Z.c2;have g2:w.cell? _=some (zr<|a 2):=Z.c3;have g3:w.cell? _=some (zr<|a 3):=Z.c4;have g4:w.cell? _=some (zr<|a 4):=Z.c5;have g5:w.cell? _=some (zr<|a 5):=Z.c6;have g6:w.cell? _=some (zr<|a 6):=Z.c7;have g7:w.cell? _=some (zr<|a 7):=Z.c8;have g8:w.cell? _=some (zr<|a 8):=Z.c9;have g9:w.cell? _=some (zr<|a 9):=Z.c10;have hb:Bl w (w.alloc<|.cells #[zr<|a 0,zr<|a 1,zr<|a 2,zr<|a 3,zr<|a 4,zr<|a 5,zr<|a 6,zr<|a 7,zr<|a 8,zr<|a 9] 57):=(AR _ _).alloc lr _;have G:=g.be hb;have T:=Z33 a w;have hpl:=Wx h0;have eu:(w.alloc<|.cells #[zr<|a 0,zr<|a 1,zr<|a 2,zr<|a 3,zr<|a 4,zr<|a 5,zr<|a 6,zr<|a 7,zr<|a 8,zr<|a 9] 57).cell? (zm pb (po+1))=some (zr<|a k):=by rw[hb.cell (p:=(zm pb (po+1))) hpl];exact h1
 go_in
 go_wp2
 clear g0 g1 g2 g3 g4 g5 g6 g7 g8 g9;go_loop [4,22] (fun n i=> ∃ q:Nat,q<=10/\i= zo q/\n= zo (seen k q)) (fun _ i=>10-(intOf i).toNat)
 .exact⟨0,zx,rfl,rfl⟩
 .obtain⟨q,hq,rfl,rfl⟩:=hrel;by_cases hlt:q<10
  .have Tq:=T q hlt;clear T;by_cases h:q=k
   .subst h;have I:=Z2v G pb po q q hk hlt eu;simp only[Yan,decide_true]at I⊢;go_wp2_with (go_at_call 27;apply mq I;rintro w' rfl)
    exact⟨⟨q+1,zx,by go_num,by rw[Z3t]⟩,zd⟩
   .have I:=Z2v G pb po k q hk hlt eu;simp only[h,decide_false]at I;go_wp2_with (go_at_call 27;apply mq I;rintro w' rfl)
    exact⟨⟨q+1,zx,by go_num,by rw[Zyu k q h]⟩,zd⟩
  .obtain rfl:q=10:=zx
   rw[Z3u k hk];have hb2:Bl w ((w.alloc<|.cells #[zr<|a 0,zr<|a 1,zr<|a 2,zr<|a 3,zr<|a 4,zr<|a 5,zr<|a 6,zr<|a 7,zr<|a 8,zr<|a 9] 57).alloc<|.cells #[.pointer none] 86):=hb.alloc zw _;have E:=(g.be hb2).et;go_wp2_with fail
   apply(Yh5 _ _ (.pointer none) _ E zw zw).mono;rintro e w' ⟨rfl,hw⟩;have ym:pb<w.heap.size:=hpl;have k2:Bl w w':=by
    rw[hw];exact((((hb2.alloc zc _).alloc zc _).alloc zc _).alloc zc _).setCell zw _
   have k1:w'.cell? (zm pb po)=some (zo at0):=by rw[k2.cell (p:=(zm pb po)) ym];exact h0
   have k0:w'.cell? (zm (w.heap.size+1) 0)=some (zq pb po):=by rw[hw];go_simp
   clear hw;go_wp2
   go_region
   all_goals (try go_wp2)
   all_goals go_ret2
   all_goals exact⟨rfl,k2.drew⟩
end
variable {w:Bb}
structure Off (F:Cg) (w w':Bb):Prop where
 os:w'.os=w.os
 tape:w'.tape=w.tape
 output:w'.output=w.output
 size:w.heap.size<=w'.heap.size
 block: ∀ k,k<w.heap.size->k∉F->w'.heap[k]?=w.heap[k]?
section
variable {F G:Cg} {u v w:Bb}
def Off.refl (F:Cg)(w:Bb):Off F w w:=⟨rfl,rfl,rfl,EO _,fun _ _ _=>rfl⟩
def Off.trans (h:Off F u v)(k:Off G v w)(hG: ∀ i,i∈G->i∈F\/u.heap.size<=i):Off F u w:=
 ⟨k.os.trans h.os,k.tape.trans h.tape,k.output.trans h.output,Ab h.size k.size,fun i hi hn=>(k.block i (BK hi h.size) fun q=>(hG i q).elim hn zx).trans (h.block i hi hn)⟩
def Off.of (h:Bl u v):Off F u v:=⟨h.os,h.tape,h.output,h.size,fun i hi _=>h.block i hi⟩
def Off.mono (h:Off F u v)(hF: ∀ i,i∈F->i∈G):Off G u v:=⟨h.os,h.tape,h.output,h.size,fun i hi hn=>h.block i hi fun q=>hn (hF i q)⟩
def Off.be (h:Off F u v){B:Nat}(hF: ∀ i,i∈F->B<=i)(hB:B<=u.heap.size):Below B u v:=⟨h.os,h.tape,h.output,h.size,fun i hi=>h.block i zx fun q=>by have:=hF i q;omega⟩
def Off.alloc (h:Off F u v)(o:Obj):Off F u (v.alloc o):=h.trans (Off.of (F:=[])<|(AR _ v).alloc lr o) fun _ q=>(by cases q)
def Off.drew (h:Off F u v):Off F u v.drew:=⟨h.os,h.tape,h.output,h.size,h.block⟩
def Off.set (h:Off F u v)(b o:Nat)(x:Value)(hb:b∈F\/u.heap.size<=b):Off F u (v.setCell (zm b o) x):=
 ⟨h.os,h.tape,h.output,by simpa[World.setCell]using h.size,fun k hk hn=>(Aw v (zm b o) x k fun e=>by have e:k=b:=e;subst e;exact hb.elim hn zx).trans (h.block k hk hn)⟩
def Off.put (h:Off F u v)(b:Nat)(x:Obj)(hb:b∈F\/u.heap.size<=b):Off F u {v with heap:=v.heap.setIfInBounds b x}:=
 ⟨h.os,h.tape,h.output,by simpa using h.size,fun k hk hn=>by
  have:k≠b:=fun e=>by subst e;exact hb.elim hn zx
  show(v.heap.setIfInBounds b x)[k]?=_;rw[Array.getElem?_setIfInBounds_ne<|Ne.symm this];exact h.block k hk hn⟩
end
def Yd7 (n:Nat) (P:Program) (K s:Nat) (xs:Cg) (Z:Bb->Prop):Prop:=
 ∀ (l:Nat) (J Jx:Cg->Bb->Prop) (W:Bb),(∀ pre W1,J pre W1->Z W1)->(∀ (pre:Cg) (x:Nat) (rest:Cg) (W1:Bb),xs=pre++x::rest->J pre W1->YieldAt Fence.wide (n-1) P l #[zo (x:Int)] W1 fun e W'=>(e=uY (.bool true)/\J (pre++[x]) W')\/(e=uY (.bool false)/\Jx (pre++[x]) W'))->J [] W->
  CallsIn Fence.wide n P K #[.int .u64 (s:Int),.func (.yield l) #[] #[]] W fun e W'=>(∃ v,e=uY v)/\(J xs W'\/ ∃ pre,Jx pre W')
def Zzn (B:Nat) (W W':Bb):Prop:=W'.heap[B]?=W.heap[B]?/\W'.heap[B+1]?=W.heap[B+1]?
def Ybt (B:Nat) (I Ix:Cg->Bb->Prop) (xs:Cg) (W:Bb):Exit->Act->Bb->Prop
 | .normal,_,W'=>Zzn B W W'/\I xs W'
 | .ret,_,W'=>Zzn B W W'/\Ix xs W'
 | _,_,_=>False
def Off.putObj {F:Cg}{l:Nat}(o:Obj)(hl:l∈F):Off F w (w.putObj l o):=
 ⟨rfl,rfl,rfl,by simp[World.putObj],fun k _ hn=>World.putObj_heap_other (fun e=>hn (by rw[e];exact hl))⟩
def vF {n:Nat}{P:Program}{g:Operand}{ps:Array Tmp}{assign body:Code}{Q:Exit->Act->Bb->Prop}{a:Act}{K s:Nat}{xs:Cg}{Z:Bb->Prop}
  (hg:a.eval g= .func (.func K) #[.int .u64 (s:Int)] #[]) (eg: ∀ args w,(callFunc K args).run P w= .ok (.enter K args) w) (hseq:Yd7 (n-1) P K s xs Z) (dQ:ps.size=1)
  (I Ix:Cg->Bb->Prop) (hZ: ∀ pre W,I pre W->Z W) (hI: ∀ pre W W',I pre W->Off [w.heap.size,w.heap.size+1] W W'->I pre W') (hIx: ∀ pre W W',Ix pre W->Off [w.heap.size,w.heap.size+1] W W'->Ix pre W') (h0:I [] w) (a₁:Nat->Act)
  (Yo: ∀ (l x:Nat) (W:Bb) (K:Act->Bb->Prop),K (a₁ x) W->assign.wpIn (Fence.wide.inRound l) (n-1-1) P (Exit.then K fun _ _ _=>False) {tmps:=(ps.zip #[zo (x:Int)]).foldl (fun t (p,v)=>t.setIfInBounds p v) a.tmps,defers:=[]} W)
  (oF: ∀ (l:Nat) (pre:Cg) (x:Nat) (rest:Cg) (W:Bb),xs=pre++x::rest->I pre W->w.heap.size+2<=W.heap.size->body.wpIn (Fence.wide.inRound l) (n-1-1) P (Ybt w.heap.size I Ix (pre++[x]) W) (a₁ x) W)
  (hdone: ∀ W,I xs W->W.heap[w.heap.size]?=some (.deferred<|some [])->Q .normal {a with defers:={target:= .collected w.heap.size,args:=#[]}::a.defers} W)
  (mg: ∀ pre W,Ix pre W->W.heap[w.heap.size]?=some (.deferred<|some [])->Code.ret.wpIn Fence.wide n P Q {a with defers:={target:= .collected w.heap.size,args:=#[]}::a.defers} W):
  (Code.rangeFunc g ps assign body).wpIn Fence.wide n P Q a w:=by
 refine wpIn_rangeFunc fun fn hfn=>?_;obtain⟨rc,l9⟩: ∃ rc:LoopState->Option Code->Loop,rc=fun st pe=>{state:=st,pending:=pe,fn,tmps:=a.tmps,params:=ps,assign,body,defers:=w.heap.size}:=⟨_,rfl⟩;obtain⟨W1,hW1⟩:=fu ((w.alloc<|.deferred<|some []).alloc (.loop<|rc .ready none));have hL:W1.heap[w.heap.size+1]?=some (.loop<|rc .ready none):=by
  rw[<- hW1];have:=World.alloc_heap_new (w.alloc<|.deferred<|some [])<|.loop<|rc .ready none;rwa [EV]at this
 have hD:W1.heap[w.heap.size]?=some (.deferred<|some []):=by
  rw[<- hW1];exact(Ah _ _ _ zw).trans<|World.alloc_heap_new w _
 have hI1:I [] W1:=hI _ w _ h0 (by rw[<- hW1];exact((Off.refl _ w).alloc _).alloc _);have Ci:w.heap.size+1∈[w.heap.size,w.heap.size+1]:=zw
 refine⟨w.heap.size+1,[{target:= .collected w.heap.size,args:=#[]}],W1,{target:= .fn (.func K) #[],args:=#[.int .u64 (s:Int),.func (.yield<|w.heap.size+1) #[] #[]]},W1,K,#[.int .u64 (s:Int),.func (.yield<|w.heap.size+1) #[] #[]],W1,?_,?_,fun _ _=>trivial,?_,fun h=>(by cases h),?_⟩
 .rw[<- hW1,l9];exact run_enterLoop_outer _ _ _ _ _
 .simp only[resolve,hg];simp[go_sem]
 .simp[invoke,go_sem,eg]
 refine(hseq (w.heap.size+1) (fun pre W=>I pre W/\W.heap[w.heap.size+1]?=some (.loop<|rc .ready none)/\W.heap[w.heap.size]?=some (.deferred<|some [])) (fun pre W=>Ix pre W/\W.heap[w.heap.size+1]?=some (.loop<|rc .done<|some .ret)/\W.heap[w.heap.size]?=some (.deferred<|some [])) W1 (fun pre W1 h=>hZ pre W1 h.1) ?_ ⟨hI1,hL,hD⟩).mono ?_
 .rintro pre x rest W hx ⟨hi,hl,hk⟩;have hlt:=(PN.1 hl).1;have hy:=run_yield (P:=P) (args:=#[zo (x:Int)]) hl (by rw[l9];exact dQ.symm);rw[l9]at hy;refine⟨fn,_,assign,body,hy,roundIn_of_wpIn hfn<|Yo _ x W _ ⟨_,run_beginRound hl (by rw[l9]),?_⟩⟩;obtain⟨W2,hW2⟩:=fu (W.putObj (w.heap.size+1) (.loop {rc .ready none with state:= .busy}));have hl2:W2.heap[w.heap.size+1]?=some (.loop {rc .ready none with state:= .busy}):=by rw[<- hW2];exact World.putObj_heap_same hlt
  have hk2:W2.heap[w.heap.size]?=some (.deferred<|some []):=by rw[<- hW2];exact(World.putObj_heap_other zx).trans hk
  have zQ:I pre W2:=hI _ _ _ hi (by rw[<- hW2];exact Off.putObj _ Ci);rw[hW2];refine wpIn_mono (oF _ pre x rest W2 hx zQ (PN.1 hl2).1) ?_;rintro e a3 W3 hp;cases e with
  | normal=>
   obtain⟨⟨k1,k2⟩,nV⟩:=hp;have nP:=k2.trans hl2;have hr:=run_endRound (P:=P) none nP;rw[l9]at hr;refine⟨_,_,hr,.inl ⟨rfl,hI _ _ _ nV<|Off.putObj _ Ci,?_,(World.putObj_heap_other zx).trans<|k1.trans hk2⟩⟩;rw[l9];exact World.putObj_heap_same (PN.1 nP).1
  | ret=>
   obtain⟨⟨k1,k2⟩,nV⟩:=hp;have nP:=k2.trans hl2;have hr:=run_endRound (P:=P) (some .ret) nP;rw[l9]at hr;refine⟨_,_,hr,.inr ⟨rfl,hIx _ _ _ nV<|Off.putObj _ Ci,?_,(World.putObj_heap_other zx).trans<|k1.trans hk2⟩⟩;rw[l9];exact World.putObj_heap_same (PN.1 nP).1
  | exit id=>exact hp.elim
  | goto t=>exact hp.elim
  | panic ch=>exact hp.elim
  | outgrown=>exact hp.elim
 .rintro e W2 ⟨⟨v,rfl⟩,⟨hi,hl,hk⟩ | ⟨pre,hi,hl,hk⟩⟩
  .refine⟨none,_,by have:=run_endLoop (P:=P) hl (by rw[l9];simp);rw[l9]at this;exact this,hdone _ (hI _ _ _ hi<|Off.putObj _ Ci)<|(World.putObj_heap_other zx).trans hk⟩
  .refine⟨some .ret,_,by have:=run_endLoop (P:=P) hl (by rw[l9];simp);rw[l9]at this;exact this,mg pre _ (hIx _ _ _ hi<|Off.putObj _ Ci)<|(World.putObj_heap_other zx).trans hk⟩
section
open Go.Shelf
attribute [local go_sem] Me
end
variable {m u:Nat}
def DZ (s:Nat):Cg:=(List.range 64).filter fun i=>s.testBit i
def Ol {s i:Nat}(hs:s<2 ^ 64):i∈DZ s↔s.testBit i=true:=by
 unfold DZ;rw[List.mem_filter,List.mem_range];refine⟨fun h=>h.2,fun h=>⟨?_,h⟩⟩;refine Nat.lt_of_not_le fun hi=>?_;rw[Nat.testBit_lt_two_pow<|BK hs<|wi zx hi]at h;cases h
def Z9k: ∀ n:Nat,∀ t,0<t->t<2 ^ n-> ∃ m u,m<n/\t=2 ^ m*(2*u+1)
 | 0,t,h0,h1=>by simp at h1;omega
 | n+1,t,h0,h1=>by
  by_cases h:t % 2=1
  ·exact⟨0,t / 2,zx,zc⟩
  ·obtain⟨m,u,hm,e⟩:=Z9k n (t / 2) zx (by rw[Nat.pow_succ]at h1;omega);refine⟨m+1,u,zx,?_⟩;rw[Nat.pow_succ,Nat.mul_right_comm,<- e];omega
def Yga (m u:Nat):(2 ^ m*(2*u+1)) &&& (2 ^ m*(2*u+1)-1)=2 ^ m*(2*u):=by
 have hp:0<2 ^ m:=Nat.two_pow_pos m;have e1:2 ^ m*(2*u+1)-1=2 ^ m*(2*u)+(2 ^ m-1):=by rw[Nat.mul_add,Nat.mul_one];omega
 rw[e1];refine Nat.eq_of_testBit_eq fun i=>?_;rw[Nat.testBit_and,Nat.testBit_two_pow_mul_add _ zx,Nat.testBit_two_pow_mul,Nat.testBit_two_pow_mul];by_cases hi:i<m
 .simp[hi,Nat.not_le.2 hi]
 .have nW:m<=i:=zx
  simp only[hi,if_false,nW,decide_true,Bool.true_and];cases hk:i-m with
  | zero=>simp[Nat.testBit_zero]
  | succ k=>
   rw[Nat.testBit_add_one,Nat.testBit_add_one,show(2*u+1) / 2=u by omega,show 2*u / 2=u by omega,Bool.and_self]
def Ygb (hm:m<64)(h:2 ^ m*(2*u+1)<2 ^ 64):(2 ^ m*(2*u+1)) &&& (2 ^ 64-2 ^ m*(2*u+1))=2 ^ m:=by
 have hp:0<2 ^ m:=Nat.two_pow_pos m;have e64:(2:Nat) ^ 64=2 ^ m*(2*2 ^ (63-m)):=by rw[<- Nat.pow_succ',<- Nat.pow_add];congr 1;omega
 have hu:u<2 ^ (63-m):=by
  rw[e64]at h
  have:=Nat.lt_of_mul_lt_mul_left h
  omega
 have e1:2 ^ 64-2 ^ m*(2*u+1)=2 ^ m*(2*(2 ^ (63-m)-(u+1))+1):=by
  rw[e64,<- Nat.mul_sub];congr 1
  omega
 rw[e1];refine Nat.eq_of_testBit_eq fun i=>?_;rw[Nat.testBit_and,Nat.testBit_two_pow_mul,Nat.testBit_two_pow_mul,Nat.testBit_two_pow];by_cases hi:i<m
 .simp[Nat.not_le.2 hi];omega
 .have nW:m<=i:=zx
  simp only[nW,decide_true,Bool.true_and];cases hk:i-m with
  | zero=>
   have:m=i:=zx
   simp[Nat.testBit_zero,this]
  | succ k=>
   rw[Nat.testBit_add_one,Nat.testBit_add_one,show(2*u+1) / 2=u by omega,show(2*(2 ^ (63-m)-(u+1))+1) / 2=2 ^ (63-m)-(u+1)by omega,Nat.testBit_two_pow_sub_succ hu]
   have:m≠i:=zx
   cases u.testBit k <;> simp[this]
def Yco (hm:m<64):DZ (2 ^ m*(2*u+1))=m::DZ (2 ^ m*(2*u)):=by
 have e:List.range 64=List.range m++m::List.range' (m+1) (63-m):=by
  rw[List.range_eq_range',List.range_eq_range',show 64=m+(1+(63-m))by omega,<- List.range'_append_1,Gx];rw[show 1+(63-m)=(63-m)+1 by omega,List.range'_succ]
 unfold DZ;rw[e,List.filter_append,List.filter_append,List.filter_cons,List.filter_cons];have h0: ∀ v,(List.range m).filter (fun i=>(2 ^ m*v).testBit i)=[]:=fun v=>by
  rw[List.filter_eq_nil_iff];intro i hi;rw[Nat.testBit_two_pow_mul];simp at hi⊢;intro h;omega
 rw[h0,h0,Nat.testBit_two_pow_mul,Nat.testBit_two_pow_mul];simp only[ge_iff_le,EO,decide_true,Nat.sub_self,Nat.testBit_zero,Bool.true_and,JU];rw[xj zw,xd zw];congr 1
 refine List.filter_congr fun i hi=>?_;have nW:m+1<=i:=by rw[List.mem_range'_1]at hi;exact hi.1
 rw[Nat.testBit_two_pow_mul,Nat.testBit_two_pow_mul,show i-m=(i-m-1)+1 by omega,Nat.testBit_add_one,Nat.testBit_add_one,show(2*u+1) / 2=u by omega,show 2*u / 2=u by omega]
def pZ:Cg:=[0,1,56,2,57,49,28,3,61,58,42,50,38,29,17,4,62,47,59,36,45,43,51,22,53,39,33,30,24,18,12,5,63,55,48,27,60,41,37,16,46,35,44,21,52,32,23,11,54,26,40,15,34,20,31,10,25,14,19,9,13,8,7,6]
def Yi4: ∀ m:Fin 64,((2 ^ m.val*285870213051353865) % 18446744073709551616) / 288230376151711744<64/\pZ[((2 ^ m.val*285870213051353865) % 18446744073709551616) / 288230376151711744]?=some m.val:=zu
section
open Go.Shelf
attribute [local go_sem] Me
def ZN (w:Bb):Prop:= ∀ i z:Nat,pZ[i]?=some z->w.cell? (zm 16 i)=some (yS (z:Int))
def Yi6 {m u:Nat}(hm:m<64)(DK:2 ^ m*(2*u+1)<2 ^ 64): ∃ t k j:Nat,2 ^ m*(2*u+1)=t/\((t:Int)==0)=false/\bits BinOp.and IntKind.u64 (t:Int) (IntKind.u64.wrap (-(t:Int)))=(k:Int)/\IntKind.u64.wrap ((k:Int)*285870213051353865) / 288230376151711744=(j:Int)/\j<64/\pZ[j]?=some m:=by
 obtain⟨hj,ht⟩:=Yi4 ⟨m,hm⟩;have e1:=Ygb hm DK;have hp:0<2 ^ m*(2*u+1):=Nat.mul_pos (Nat.two_pow_pos m) zx;refine⟨_,2 ^ m,_,rfl,?_,?_,?_,hj,ht⟩
 .rw[BJ];omega
 .generalize 2 ^ m*(2*u+1)=t at*;have h2:(2:Nat) ^ 64=18446744073709551616:=zu
  rw[h2]at e1 DK;have w1:IntKind.u64.wrap (-(t:Int))=((18446744073709551616-t:Nat):Int):=by rw[IntKind.wrap_u64];omega
  rw[w1,u64_and_nat _ _ DK zx,e1]
 .dsimp only;generalize (2:Nat) ^ m=k;rw[IntKind.wrap_u64,Int.natCast_ediv,Int.natCast_emod,Int.natCast_mul];rfl
def Ya4 (t k j m:Nat)(w:Bb)(ne:((t:Int)==0)=false)(e1:bits BinOp.and IntKind.u64 (t:Int) (IntKind.u64.wrap (-(t:Int)))=(k:Int))(e2:IntKind.u64.wrap ((k:Int)*285870213051353865) / 288230376151711744=(j:Int))(hj:j<64)(hm:m<64)(hc:w.cell? (zm 16 j)=some (yS (m:Int))):Calls prog 228 #[.int .u64 (t:Int)] w fun e w'=>e=uY (zo (m:Int))/\w'=w:=by
 have JX:(j:Int)<64:=zx
 go_in
 go_wp2
 go_ret
 exact⟨rfl,rfl⟩
def Yi5 {m u:Nat}(hm:m<64)(DK:2 ^ m*(2*u+1)<2 ^ 64)(w:Bb)(hb:ZN w):Calls prog 228 #[.int .u64 ((2 ^ m*(2*u+1):Nat):Int)] w fun e w'=>e=uY (zo (m:Int))/\w'=w:=by
 obtain⟨t,k,j,et,ne,e1,e2,hj,hc⟩:=Yi6 hm DK;rw[et];exact Ya4 t k j m w ne e1 e2 hj hm<|hb _ _ hc
def ut (n s:Nat)(hs:s<2 ^ 64):Yd7 n prog 173 s (DZ s) ZN:=fun l J Jx W hJ hY h0=>by
 have CT:=AC @Yi5;refine callsIn_of_wp func173 rfl trivial ?_ rfl;simp only[ntmps173,GN,DU,JC,Nat.reduceAdd,Nat.reduceSub,Qu,Qv,Qr,Qt,JU,EC];gi_wp2
 gi_loopw [0] (fun sv wr=> ∃ (t:Nat) (pre:Cg),t<2 ^ 64/\sv= .int .u64 (t:Int)/\DZ s=pre++DZ t/\J pre wr) (fun sv _=>(intOf sv).toNat)
 case atStart=>exact⟨s,[],hs,rfl,rfl,h0⟩
 case round=>
  obtain⟨t,pre,h8t,rfl,hx,hJs⟩:=hrel;by_cases ht:t=0
  .subst ht;gi_wp2
   go_end0
   refine⟨⟨_,rfl⟩,.inl ?_⟩;rw[hx,show DZ 0=[]from by simp[DZ],List.append_nil];exact hJs
  .have QY:((t:Int)==0)=false:=zj
   obtain⟨m,u,hm,et⟩:=Z9k 64 t zx h8t;have C1:=AC<|CT.o hm (et▸h8t) wr<|hJ _ _ hJs;rw[<- et]at C1;have e1:=Yco (u:=u) hm;have e3:=Yga m u;rw[<- et]at e1 e3;have hlt:2 ^ m*(2*u)<t:=by rw[et];exact Nat.mul_lt_mul_of_pos_left zx<|Nat.two_pow_pos m
   rw[e1]at hx;obtain⟨fn,tmps,assign,body,hy,hR⟩:=hY pre m _ wr hx hJs;have h2:(2:Nat) ^ 64=18446744073709551616:=zu
   have e2:bits BinOp.and IntKind.u64 (t:Int) ((t:Int)-1)=((2 ^ m*(2*u):Nat):Int):=by
    rw[show(t:Int)-1=((t-1:Nat):Int)by omega,u64_and_nat _ _ (h2▸h8t) zx,e3]
   generalize 2 ^ m*(2*u)=v at*;clear CT e1 e3 et;gi_wp2_with (refine⟨trivial,fun h=>(by cases h),?_⟩;apply(callsIn_wide.2 C1.o).mono;rintro e w' ⟨rfl,rfl⟩)
   refine⟨fun h=>(by cases h),hR.mono ?_⟩;rintro e W3 (⟨rfl,hJ3⟩ | ⟨rfl,hJx3⟩)
   .gi_wp2
    go_roundw
    .exact⟨v,pre++[m],zx,rfl,by rw[hx,JB];rfl,hJ3⟩
    simp[intOf];omega
   .gi_wp2
    refine Bg (results_none rfl _ _ _) rfl ?_;exact⟨⟨_,rfl⟩,.inr ⟨_,hJx3⟩⟩
end
variable {t m:Ay}{p:Nat}{x:Tk}
def WZ (t:Ay) (p:Nat) (m:Ay):Bool:=Lib.hasPrefix (t.extract p t.size).data.toList m.data.toList
def Xg (t:Ay) (x:Tk) (p:Nat):Except (Int×Nat) (Unit×Tk×Nat):=match Rx.find? (WZ t p)with
 | none=> .error (1,x.at_)
 | some m=> .ok ((),{x with text:=m},p+m.size)
def Z8z (hp:p<=t.size)(h:WZ t p m=true):p+m.size<=t.size:=by
 have g:=(List.isPrefixOf_iff_prefix.1 h).length_le;simp at g
 have:m.size=m.data.size:=rfl
 omega
def Ygc {k:Nat}(hk:Rx[k]?=some m)(h0: ∀ j m',j<k->Rx[j]?=some m'->WZ t p m'=false)(h1:WZ t p m=true):Xg t x p= .ok ((),{x with text:=m},p+m.size):=by
 have:Rx.find? (WZ t p)=some m:=by
  rw[List.find?_eq_some_iff_getElem];refine⟨h1,k,?_,?_,?_⟩
  .exact(DW.1 hk).1
  .exact(DW.1 hk).2
  .intro j hj;rw[h0 j _ hj<|A8 _];rfl
 unfold Xg;rw[this]
def Ygd (h0: ∀ j m',j<14->Rx[j]?=some m'->WZ t p m'=false):Xg t x p= .error (1,x.at_):=by
 have:Rx.find? (WZ t p)=none:=by
  rw[List.find?_eq_none];intro m hm;obtain⟨j,hj,rfl⟩:=List.getElem_of_mem hm;rw[h0 j _ hj<|A8 _];simp
 unfold Xg;rw[this]
variable {a:Nat->Addr}
def AZ.marks (h:AZ a w)(i:Nat)(s:Ay)(hs:Rx[i]?=some s):w.cell? (zm 13 i)=some (um s):=by
 obtain⟨_,h0,h1⟩:=h;exact(h1 _ _ zu).2.trans<|h0.marks i s hs
def Ye5 (w:Bb) (t:Ay) (p:Nat) (iv:Value) (wr:Bb):Prop:= ∃ k:Nat,k<=14/\iv= zo (k:Int)/\(∃ n,wr=w.drewN n)/\ ∀ j m',j<k->Rx[j]?=some m'->WZ t p m'=false
def Z9o (k:Nat)(h:k<14): ∃ m,Rx[k]?=some m/\ ∀ w,(Instr.index 340 (.agg #[.string ⟨#[60,45]⟩,.string ⟨#[60,61]⟩,.string ⟨#[62,61]⟩,.string ⟨#[61,61]⟩,.string ⟨#[33,61]⟩,.string ⟨#[94,61]⟩,.string ⟨#[60]⟩,.string ⟨#[62]⟩,.string ⟨#[40]⟩,.string ⟨#[41]⟩,.string ⟨#[91]⟩,.string ⟨#[93]⟩,.string ⟨#[44]⟩,.string ⟨#[59]⟩])<|zo (k:Int)).run prog w= .ok (um m) w:=by
 have g:k=0\/k=1\/k=2\/k=3\/k=4\/k=5\/k=6\/k=7\/k=8\/k=9\/k=10\/k=11\/k=12\/k=13:=zx
 rcases g with rfl | rfl | rfl | rfl | rfl | rfl | rfl | rfl | rfl | rfl | rfl | rfl | rfl | rfl;all_goals exact⟨_,rfl,fun _=>zt⟩
def xJ (v:Value):Nat:=match v with
 | .int _ i=>i.toNat
 | _=>0
def Zyq {b:Nat}{t:Ay}{p:Nat}{x:Tk}(Z:AZ a w)(h:Rd w b t p x):
  Calls prog 133 #[zq b 0] w (JO a b t VU w<|Xg t x p):=by
 obtain⟨c0,c1,-,c3,-,-,-,-,sf⟩:=h.1.eight;have hp:=h.2.2.1;have ht:=h.2.1;have z1:=Z.c1;have m0:=Z.marks 0 _ rfl;have m1:=Z.marks 1 _ rfl;have m2:=Z.marks 2 _ rfl;have m3:=Z.marks 3 _ rfl;have m4:=Z.marks 4 _ rfl;have m5:=Z.marks 5 _ rfl;have m6:=Z.marks 6 _ rfl;have m7:=Z.marks 7 _ rfl;have m8:=Z.marks 8 _ rfl;have m9:=Z.marks 9 _ rfl;have m10:=Z.marks 10 _ rfl;have m11:=Z.marks 11 _ rfl;have m12:=Z.marks 12 _ rfl;have m13:=Z.marks 13 _ rfl;have H:=AC h;clear Z h;go_in
 go_wp2_with fail
 clear m0 m1 m2 m3 m4 m5 m6 m7 m8 m9 m10 m11 m12 m13;go_loopw [5] (fun iv wr=>Ye5 w t p iv wr) (fun iv _=>14-xJ iv)
 .exact⟨0,zx,rfl,⟨0,rfl⟩,fun j _ hj=>absurd hj zx⟩
 .obtain⟨k,hk,rfl,⟨n,rfl⟩,hall⟩:=hrel;have A:=AC hall;clear hall;by_cases hlt:k<14
  .obtain⟨m,hm,ik⟩:=Z9o k hlt;have g:(k:Int)<14:=zx
   have C:=AC fun u=>Znp (t.extract p t.size) m u;rw[show Lib.hasPrefix (t.extract p t.size).data.toList m.data.toList=WZ t p m from rfl]at C;cases hgo:WZ t p m
   .rw[hgo]at C;have S:AF (∀ j m',j<k+1->Rx[j]?=some m'->WZ t p m'=false):=⟨fun j m' hj Yb=>by
     by_cases hjk:j=k
     .subst hjk;rw[hm]at Yb;cases Yb;exact hgo
     .exact A.o j m' zx Yb⟩
    clear hm hgo A;go_wp2
    go_quiet ((go_at_call 191;first | exact Calls.quiet_of_same (C.o _) | exact gM C.o))
    go_wp2
    go_roundw
    .exact⟨k+1,zx,zw,⟨_,rfl⟩,S.o⟩
    simp[xJ];omega
   .rw[hgo]at C;have Y:=AC<|Ygc (x:=x) hm A.o hgo;have hle:=Z8z hp hgo;clear hm hgo A;go_wp2
    go_quiet ((go_at_call 191;first | exact Calls.quiet_of_same (C.o _) | exact gM C.o))
    go_wp2
    refine Bg (by simp[results,results133,go_sem];try rfl) rfl ?_;exact⟨(((Ad.refl b w).dr _).set _ _).set _ _,Or.inr ⟨_,_,_,_,Y.o,rfl,rfl,((H.o.dr _).goes hle).text m⟩⟩
  .obtain rfl:k=14:=zx
   have Y:=AC<|Ygd (x:=x) A.o;have C1:=AC fun n=>QM a (n:=1) zu (H.o.dr n);clear A;go_wp2_with fail
   apply(C1.o _).mono;rintro e w2 ⟨⟨L,hL,rfl,hB⟩,hb⟩;exact⟨rfl,((Ad.refl b w).dr _).AU hb,Or.inl ⟨1,_,Y.o,zu,L,hL,rfl,hB⟩⟩
end Go.W
namespace Go.Proofs
open Go.RowKit Go.Shelf Go.Lib
def Tryz.PQ:Go.Shelf.Ren:=⟨fun | 174=>200 | 247=>245 | 245=>246 | 287=>267 | 279=>268 | 280=>269 | 281=>270 | 282=>271 | 321=>278 | 322=>279 | 316=>177 | 171=>281 | 205=>280 | 243=>289 | 246=>293 | 283=>299 | 284=>300 | 285=>301 | 286=>302 | 129=>188 | 317=>304 | 318=>305 | 319=>306 | 320=>307 | 337=>308 | 338=>228 | n=>n,fun | 9=>9 | 3=>3 | 2=>2 | 75=>57 | 85=>338 | 4=>4 | 167=>411 | 5=>5 | 53=>274 | 175=>412 | 46=>243 | 168=>414 | 37=>149 | 0=>0 | 210=>423 | 21=>21 | 127=>240 | 145=>432 | 143=>430 | 171=>437 | 173=>439 | 212=>444 | 51=>272 | 20=>20 | 213=>445 | 232=>114 | 233=>193 | 80=>119 | n=>n,fun | 15=>20 | 16=>21 | 17=>22 | 18=>23 | 19=>16 | n=>n⟩
def Tryz.OL:Go.Proofs.LaysC.n174 prog Tryz.PQ:=by
 repeat' first | exact ke | constructor
end Go.Proofs
namespace Go.W
def Tj (t:Ay) (x:Tk) (p:Nat):Except (Int×Nat) (Int×Tk×Nat):=
 let p1:=if(Ac t).getD p 0=45 then p+1 else p
 let q:=DT (Ac t) G9 p1
 if q=p1\/(Ac t).getD p1 0=48/\(t.extract p q).toList≠[48]then .error (1,x.at_)else match Lib.parseIntB 64 (t.extract p q).data.toList with
 | .ok n=> .ok (n,x,q)
 | _=> .error (1,x.at_)
section
open Go.Shelf Go.Lib
variable {a:Nat->Addr}{w:Bb}{s:Ay}
def Z03 (s:Ay)(hs:s.size<=8000)(v:Int)(h:Lib.parseIntB 64 s.data.toList= .ok v)(w:Bb):Calls prog 200 #[um s,zo 10,zo 64] w fun e w'=>e=uY (.tuple #[zo v,.nilIface])/\Bl w w':=by
 apply(Any.strconv_ParseInt_10_at64_ok Tryz.OL s zx v h w).mono;rintro e w' ⟨rfl,rfl | ⟨t,rfl⟩⟩
 .exact⟨rfl,AR _ _⟩
 .exact⟨rfl,Lib.bytesWorld_below w _ t⟩
def Z02 (Z:AZ a w)(s:Ay)(hs:s.size<=8000)(h: ∀ v,Lib.parseIntB 64 s.data.toList≠ .ok v):Calls prog 200 #[um s,zo 10,zo 64] w fun e w'=>(∃ v te pe,e=uY (.tuple #[zo v,.iface te pe]))/\Bl w w':=by
 obtain⟨_,h0,h1⟩:=Z;cases hp:Lib.parseIntB 64 s.data.toList with
 | ok v=>exact absurd hp (h v)
 | range=>
  obtain⟨te,pe,hc⟩:=h0.rng;apply(Any.strconv_ParseInt_10_at64_range Tryz.OL s zx hp _ w ((h1 _ _ zu).2.trans hc)<|Or.inr ⟨te,pe,rfl⟩).mono;rintro e w' ⟨N,rfl,-,-,hb⟩;exact⟨⟨_,_,_,rfl⟩,hb⟩
 | _=>
  obtain⟨te,pe,hc⟩:=h0.syn;apply(Any.strconv_ParseInt_10_at64_syntax Tryz.OL s zx hp _ w ((h1 _ _ zu).2.trans hc)<|Or.inr ⟨te,pe,rfl⟩).mono;rintro e w' ⟨N,rfl,-,-,hb⟩;exact⟨⟨_,_,_,rfl⟩,hb⟩
def Yjr (h:0<s.size):(s.toList==[])=false:=by
 rw[BJ];intro h0
 have:=gL s
 rw[h0]at this;simp at this;omega
def Yh7 (h:s.size=0):(s.toList==[])=true:=by
 rw[DR];exact M9<|(gL s).trans h
def Zrl {b:Nat}{t:Ay}{p:Nat}{x:Tk}(Z:AZ a w)(h:Rd w b t p x):
  Calls prog 132 #[zq b 0] w (JO a b t (fun _ v (y:Int)=>v= zo y) w<|Tj t x p):=by
 have ht:=h.2.1;have hg:=h.2.2.2;have hp:=h.2.2.1;have CP:=AC<|qK h;have hl:=Wy t;obtain⟨c0,c1,-,-,-,-,-,-,sf⟩:=h.1.eight;have H:=AC h;have ZZ:=AC Z;have GI:AF ((Ac t).getD p 0=45->p<t.size):=⟨fun hh=>qD zx⟩;obtain⟨p1,UM⟩:=fu ((if(Ac t).getD p 0=45 then p+1 else p));have F:AF (Tj t x p=if DT (Ac t) G9 p1=p1\/(Ac t).getD p1 0=48/\(t.extract p<|DT (Ac t) G9 p1).toList≠[48]then .error (1,x.at_)else match Lib.parseIntB 64 (t.extract p<|DT (Ac t) G9 p1).data.toList with
  | .ok n=> .ok (n,x,DT (Ac t) G9 p1)
  | _=> .error (1,x.at_)):=⟨by rw[<- UM];rfl⟩
 have hp1l:p<=p1/\p1<=t.size:=by
  have:=GI.o
  split at UM <;> omega
 have hs:=fZ (bs:=Ac t) (ok:=G9) (p:=p1) zx;have CR:=AC fun u (hu:Rd u b t p1 x)=>p8 Zx0 hu;have BY:AF (∀ q,q<=t.size->p1<q->(Ac<|t.extract p1 q).getD 0 0=(Ac t).getD p1 0):=⟨fun q h1 h2=>Zp6 (j:=0) h1 zx⟩;generalize DT (Ac t) G9 p1=q at*;have hz0:(t.extract p1 q).size=q-p1:=by rw[YB];omega
 have hz:(t.extract p q).size=q-p:=by rw[YB];omega
 clear h Z;go_in
 go_wp2_with fail
 apply mq CP.o;rintro w1 hb;have ZA:=AC<|ZZ.o.be hb;have HK:=AC<|(Ad.refl b w).AU hb;have hr:=H.o.of hb;have HR:=AC hr;clear c0 c1 sf CP H ZZ;obtain⟨c0,c1,-,-,-,-,-,-,sf⟩:=hr.1.eight;clear hr hb;generalize (Ac t).getD p 0=c at*;by_cases hc:c=45
 case' pos=>
  have g1:((c:Int)==45)=true:=by rw[DR];omega
  have hpl:=GI.o hc;rw[xj hc]at UM;have HRP:AF (Rd (w1.setCell (zm b 1)<|.int .i64<|(p:Int)+1) b t p1 x):=⟨by rw[<- UM];exact HR.o.next hpl⟩;have xX:AF (Ad b w1<|w1.setCell (zm b 1)<|.int .i64<|(p:Int)+1):=⟨(Ad.refl b w1).set _ _⟩;clear GI hc UM;go_wp2_with fail
 case' neg=>
  have g1:((c:Int)==45)=false:=zj
  rw[xd hc]at UM;have HRP:AF (Rd w1 b t p1 x):=⟨by rw[<- UM];exact HR.o⟩;have xX:AF (Ad b w1 w1):=⟨Ad.refl b w1⟩;clear GI hc UM;go_wp2_with fail
 all_goals
  apply(CR.o _ HRP.o).mono;rintro e w2 ⟨rfl,hk2,hr2⟩;have ZB:=AC<|ZA.o.keeps (xX.o.trans hk2) hg;have JV:=AC<|(HK.o.trans xX.o).trans hk2;have Ao:=AC hr2;have C1:=AC fun u (hu:Rd u b t q x)=>QM a (n:=1) zu hu;clear c0 c1 sf;obtain⟨d0,d1,-,-,-,-,-,-,XU⟩:=hr2.1.eight;have z1:=ZB.o.c1;clear hk2 hr2 CR HRP xX HR;have BY:=BY.o q zx;generalize t.extract p1 q=s0 at*;generalize (Ac t).getD p1 0=d at*;have CI:=AC fun s (hs:s.size<=8000) v (h:Lib.parseIntB 64 s.data.toList= .ok v) u=>Z03 s hs v h u;have CJ:=AC fun u (Z:AZ a u) s (hs:s.size<=8000) (h: ∀ v,Lib.parseIntB 64 s.data.toList≠ .ok v)=>Z02 Z s hs h;go_wp2
  go_quiet (fail)
  have ZC:=AC<|ZB.o.be<|MW (n:=nq)<|AR _ w2;generalize t.extract p q=s at*;by_cases ig:q=p1
  .have Y:AF (Tj t x p= .error (1,x.at_)):=⟨by rw[F.o,xj<|Or.inl ig]⟩;have e1:(s0.toList==[])=true:=Yh7 zx;clear BY ig;go_wp2_with fail
   apply(C1.o _<|Ao.o.dr _).mono;rintro e w3 ⟨⟨L,hL,rfl,hB⟩,hb⟩;exact⟨rfl,(JV.o.dr _).AU hb,Or.inl ⟨1,_,Y.o,zu,L,Ab JV.o.size hL,rfl,hB⟩⟩
  have e1:(s0.toList==[])=false:=Yjr zx;have h0:0<s0.size:=zx
  have hx0:=(ZQ s0 0 h0).trans<|BY zx;by_cases ek:d=48/\s.toList≠[48]
  .have Y:AF (Tj t x p= .error (1,x.at_)):=⟨by rw[F.o,xj<|Or.inr ek]⟩;have g4:((d:Int)==48)=true:=by rw[DR];omega
   have g5:(s.toList==[48])=false:=by rw[BJ];exact ek.2
   clear ek;go_wp2_with fail
   apply(C1.o _<|Ao.o.dr _).mono;rintro e w3 ⟨⟨L,hL,rfl,hB⟩,hb⟩;exact⟨rfl,(JV.o.dr _).AU hb,Or.inl ⟨1,_,Y.o,zu,L,Ab JV.o.size hL,rfl,hB⟩⟩
  have F2:=AC<|F.o.trans<|xd (by rintro(z | z);exact ig z;exact ek z);have GG:((d:Int)==48)=false\/((d:Int)==48)=true/\(s.toList==[48])=true:=by
   by_cases hd:d=48
   .right
    exact⟨by rw[DR];omega,by rw[DR];exact Decidable.byContradiction fun hh=>ek ⟨hd,hh⟩⟩
   .left
    rw[BJ];omega
  have hz8:s.size<=8000:=zx
  by_cases hv: ∃ v,Lib.parseIntB 64 s.data.toList= .ok v
  .obtain⟨v,hv⟩:=hv;have Y:AF (Tj t x p= .ok (v,x,q)):=⟨by rw[F2.o,hv]⟩;have C:=AC<|CI.o s hz8 v hv;clear ek hv F F2 CI CJ C1;rcases GG with ga | ⟨ga,gb⟩;all_goals
    go_wp2_with fail
    apply(C.o _).mono;rintro e w3 ⟨rfl,hb⟩;have R:=AC<|AJ ((JV.o.dr nq).AU hb)<|(Ao.o.dr nq).of hb;clear hb;go_wp2
    go_ret
    exact⟨R.o.1,Or.inr ⟨_,v,x,q,Y.o,rfl,zw,R.o.2⟩⟩
  .have Y:AF (Tj t x p= .error (1,x.at_)):=⟨by
    rw[F2.o];split
    .rename_i n hn;exact absurd ⟨n,hn⟩ hv
    .rfl⟩
   have C:=AC (CJ.o _ ZC.o s hz8 fun v h=>hv ⟨v,h⟩);clear ek hv F F2 CI CJ;rcases GG with ga | ⟨ga,gb⟩;all_goals
    go_wp2_with fail
    apply C.o.mono;rintro e w3 ⟨⟨v,te,pe,rfl⟩,hb⟩;have ER:=AC<|(JV.o.dr nq).AU hb;have Dn:=AC<|(Ao.o.dr nq).of hb;have z1:=(ZC.o.be hb).c1;clear hb d0 d1 XU;go_wp2_with fail
    apply(C1.o _ Dn.o).mono;rintro e w4 ⟨⟨L,hL,rfl,hB⟩,hb⟩;exact⟨rfl,ER.o.AU hb,Or.inl ⟨1,_,Y.o,zu,L,Ab ER.o.size hL,rfl,hB⟩⟩
end
end Go.W
