import Derived.Test.YtghnjdpgbldlkaaGreatDoorW10
import Derived.Test.YtghnjdpgbldlkaaGreatDoorW15
import Derived.Deep.RegionHeld
set_option linter.defProp false
set_option maxRecDepth 100000
set_option maxHeartbeats 8000000
set_option linter.unusedSimpArgs false
open Go.Proofs Go.RowKit Go.W Tryz
namespace Go.W
variable {P:Program}{ops:Array Oper}{o:Oper}{a:Act}{Q:Exit->Act->World->Prop}{w:World}{K:Act->World->Prop}{E:Prop}{S:World->Prop}{v:Value}
def Z0d (w:World)(dT sT ty elem:TypeId)(g Gu Ky m:Nat)(x:Value)(news:List Value)(cur:Array Value)(t:TypeId)(hu:P.underlying dT=some (.slice elem))(hz:(P.info? elem).map (·.size)=some 1)(hg:w.heap[g]?=some (.cells cur t (0,0)))(hs:Src P 1 sT x m news w)(hm:m<=Gu)(BG:m<=cur.size):
  (Builtin.copy_ #[dT,sT] ty #[.slice (Qb g 0) Gu Ky,x]).run P w= .ok (goInt m) (w.setRow g (news++cur.toList.drop m).toArray):=by
 have hl:news.length=m:=by have:=hs.newsLen;omega
 have hst:=run_storeCells_at P g 0 t news 0 cur w hg (by rw[hl];simpa using BG) hs.one;rw[hl]at hst;simp only[Oj,Hr,List.take_zero,FK]at hst;have qa:Nat.min m Gu=m:=Nat.min_eq_left hm;cases hq:P.info? elem with
 | none=>simp[hq]at hz
 | some i=>
  have h1:i.size=1:=by simpa[hq]using hz
  simp[Builtin.copy_,Jo hu,hs.len,sizeOf,typeInfo,hq,qa,h1,hs.cells,hst,Result.andThen]
def Zqs (w:World){rest:List Oper}(hgd:o.guard=none)(s x:Operand)(t u:TypeId)
  (ho:o.op= .call {callee:= .builtin .copy,args:=#[s,x],argTypes:=#[t,u]}) (v1 v2:Value) (hs:a.eval s=v1) (hx:a.eval x=v2) {v':Value} {w':World}
  (hr:(Builtin.copy_ #[t,u] o.type #[v1,v2]).run P w= .ok v' w') (h:wpList P ops Q rest (a.put o.dst v') w'):wpList P ops Q (o::rest) a w:=by
 refine wpList_plain hgd fun _ hK=>?_;unfold Oper.wp execOp;simp only[ho,resolve,invoke,builtin,QM,Sem.run_pure,Rw,List.map_toArray,List.map_cons,List.map_nil,hs,hx,hr];exact hK _ _ h
def Zug (hgd:o.guard=none)(d x:Operand)(dT sT:TypeId)(hop:o.op=Op.call {callee:=Callee.builtin Builtin.copy,args:=#[d,x],argTypes:=#[dT,sT]})
  (elem:TypeId) (g Gu Ky m:Nat) (xv:Value) (news:List Value) (cur:Array Value) (t:TypeId) (hu:P.underlying dT=some (.slice elem)) (hz:(P.info? elem).map (·.size)=some 1) (hd:a.eval d= .slice (Qb g 0) Gu Ky) (hx:a.eval x=xv) (hg:w.heap[g]?=some (.cells cur t (0,0))) (hs:Src P 1 sT xv m news w) (hm:m<=Gu) (BG:m<=cur.size) (nv:Array Value) (Ou:(news++cur.toList.drop m).toArray=nv)
  (hK:K (a.put o.dst<|goInt m) (w.setRow g nv)):if Region.wanted o (yielded ops a.tmps)=true then Oper.wp P o a w K Q else E:=by
 have hw:Region.wanted o (yielded ops a.tmps)=true:=by simp[Region.wanted,hgd]
 rw[if_pos hw];have hrun:=Z0d (P:=P) w dT sT o.type elem g Gu Ky m xv news cur t hu hz hg hs hm BG;rw[Ou]at hrun;unfold Oper.wp;simp[execOp,hop,resolve,invoke,builtin,hd,hx,hrun,Result.andThen];exact hK
def wW (hgd:o.guard=none)(ty:TypeId)(x:Operand)(ho:o.op= .load ty x)(g:Addr)(hx:a.eval x= .pointer (some g))(h: ∀ u,S u->(loadVar ty g).run P u= .ok v u):YieldsIf P ops S o v a:=
 Or.inl ⟨by simp[Region.wanted,hgd],fun u hS=>by
  simp only[execOp,ho,hx,Instr.loadAt,Instr.sureAddr,QM,Sem.run_pure,Rw,h u hS]⟩
def Zof (hgd:o.guard=none)(f t:TypeId)(x:Operand)(ho:o.op= .convert f t x)(y:Value)(hx:a.eval x=y)(h: ∀ u,S u->(convert f t y).run P u= .ok v u):YieldsIf P ops S o v a:=
 Or.inl ⟨by simp[Region.wanted,hgd],fun u hS=>by
  simp only[execOp,ho,hx,QM,Sem.run_pure,Rw,h u hS]⟩
def Zkf (hgd:o.guard=none)(ty:TypeId)(x y:Operand)(ho:o.op= .store ty x y)(g:Nat)(cells:Array Value)(hx:a.eval x= .pointer (Qb g 0))(hy:a.eval y= .agg cells)(t:TypeId)(old:Array Value)(hg:w.heap[g]?=some (.cells old t (0,0)))(hi:(P.info? ty).map (·.size)=some cells.size)(hold:old.size=cells.size)(h1:cells.all (·.oneCell')=true)(h:K (a.put o.dst undef) (w.setRow g cells)):if Region.wanted o (yielded ops a.tmps)=true then Oper.wp P o a w K Q else E:=by
 rw[if_pos (by simp[Region.wanted,hgd])];exact wp_store_row ty x y ho g cells hx hy t old hg hi hold h1 h
end Go.W
namespace Go.P
variable {key t:ByteArray}{w u:World}{L c b:Nat}{e:TypeId}{p:Option Addr}{ts:List ByteArray}
def LZ:Array Value:=#[.int .u8 0,.int .u8 0,.int .u8 0,.int .u8 0,.int .u8 0,.int .u8 0,.int .u8 0,.int .u8 0,.int .u8 0,.int .u8 0,.int .u8 0,.int .u8 0,.int .u8 0,.int .u8 0,.int .u8 0,.int .u8 0,.int .u8 0,.int .u8 0,.int .u8 0,.int .u8 0,.int .u8 0,.int .u8 0,.int .u8 0,.int .u8 0,.int .u8 0,.int .u8 0,.int .u8 0,.int .u8 0,.int .u8 0,.int .u8 0,.int .u8 0,.int .u8 0,.int .u8 0,.int .u8 0,.int .u8 0,.int .u8 0,.int .u8 0,.int .u8 0,.int .u8 0,.int .u8 0,.int .u8 0,.int .u8 0,.int .u8 0,.int .u8 0,.int .u8 0,.int .u8 0,.int .u8 0,.int .u8 0,.int .u8 0,.int .u8 0,.int .u8 0,.int .u8 0,.int .u8 0,.int .u8 0,.int .u8 0,.int .u8 0,.int .u8 0,.int .u8 0,.int .u8 0,.int .u8 0,.int .u8 0,.int .u8 0,.int .u8 0,.int .u8 0]
def Zxj:LZ=(List.replicate 64<|Value.int .u8 0).toArray:=zt
def FE (key:ByteArray):List UInt8:=
 let l:=if 64<key.size then FZ [key]else key.data.toList
 l++List.replicate (64-l.length) 0
def DV (key:ByteArray) (ts:List ByteArray):List UInt8:=FZ [⟨(Jf (FE key) 92).toArray⟩,⟨(FZ<|⟨(Jf (FE key) 54).toArray⟩::ts).toArray⟩]
def Oh (ts:List ByteArray):(FZ ts).length=32:=Zpg _ _
def Xh (key:ByteArray):(FE key).length=64:=by
 unfold FE;by_cases h:64<key.size
 ·simp[h,Oh]
 ·simp[h];omega
def bP (ts:List ByteArray):(Lib.byteCells<|FZ ts).toArray.size=32:=by rw[E9,Lib.byteCells_length,Oh]
def Xc (l:List UInt8):(Lib.byteCells l).toArray.all (·.oneCell')=true:=by
 rw[List.all_toArray,UI];exact Lib.byteCells_one _
def mZ (ts:List ByteArray):(prog.info? 111).map (·.size)=some (Lib.byteCells<|FZ ts).toArray.size:=by rw[bP];kernel_rfl
def uY (key:ByteArray):(prog.info? 166).map (·.size)=some (Lib.byteCells<|FE key).toArray.size:=by rw[E9,Lib.byteCells_length,Xh];kernel_rfl
def Zqx (n:Nat):LZ.toList.drop n=List.replicate (64-n) (.int .u8 0):=by
 rw[Zxj];show(List.replicate 64<|Value.int .u8 0).drop n=_;rw[List.drop_replicate]
def Z6i (h:key.size<=64):(byteCells key++LZ.toList.drop key.size).toArray=(Lib.byteCells<|FE key).toArray:=by
 unfold FE;rw[if_neg zx,Zqx];unfold Lib.byteCells;rw[List.map_append,List.map_replicate];rfl
def Z9j (h:64<key.size):(Lib.byteCells (FZ [key])++LZ.toList.drop 32).toArray=(Lib.byteCells<|FE key).toArray:=by
 unfold FE;rw[if_pos h,Zqx];unfold Lib.byteCells;rw[List.map_append,List.map_replicate,Oh];rfl
def Z6h (key:ByteArray)(k:Nat)(h:k<64):(Lib.byteCells<|FE key).toArray[k]?=some (.int .u8 (((FE key).getD k 0).toNat:Int)):=by
 have:k<(FE key).length:=by rw[Xh];exact h
 simp[Lib.byteCells,List.getD,DK this]
def bO (h:AJ w L #[.string t] e)(ht:t.size<1000000000):Us w (Qb L 0) [t]:=by
 intro i x hi;cases i with
 | zero=>
  obtain rfl:t=x:=by simpa using hi
  exact⟨ht,L,0,rfl,h.lt,by rw[h.cell];rfl⟩
 | succ i=>simp at hi
def Us.below (h:Us w p ts)(hb:Bl w u):Us u p ts:=by
 intro i t hi;obtain⟨h1,b,o,h2,h3,h4⟩:=h i t hi;exact⟨h1,b,o,h2,Ba h3 hb.size,(hb.cell (p:=⟨b,o+i,none⟩) h3).trans h4⟩
def Us.sl (h:Us w p ts)(hl:ts.length<1000000):NZ 1 w (.slice p ts.length c) ts.length (ts.map .string):=by
 refine⟨p,c,rfl,hl,zw,fun u hu=>?_,fun a ha j u hj=>?_,fun hp=>?_⟩
 ·obtain⟨t,_,rfl⟩:=List.mem_map.1 hu;rfl
 ·rw[Jq]at hj;obtain⟨t,ht,rfl⟩:=SE.1 hj;obtain⟨_,b,o,h2,h3,h4⟩:=h j t ht;obtain rfl:a=⟨b,o,none⟩:=by rw[ha]at h2;exact Ny h2
  exact⟨h3,by rw[Addr.add_lit];exact h4⟩
 ·cases ts with
  | nil=>rfl
  | cons t ts=>
   obtain⟨_,b,o,h2,_⟩:=h 0 t rfl;rw[hp]at h2;cases h2
def Yf9 {s:Nat}{v1 v2:Value}{x1 x2:Nat×List Value}(hB:AJ w b #[v1,v2] e)(h1:NZ s w v1 x1.1 x1.2)(h2:NZ s w v2 x2.1 x2.2): ∀ i x,[x1,x2][i]?=some x->b<w.heap.size/\ ∃ v,w.cell? ⟨b,0+i,none⟩=some v/\NZ s w v x.1 x.2:=by
 intro i x hi;refine⟨hB.lt,?_⟩;rw[Hr];cases i with
 | zero=>obtain rfl:x1=x:=by simpa using hi
         exact⟨v1,by rw[hB.cell];rfl,h1⟩
 | succ i=>cases i with
  | zero=>obtain rfl:x2=x:=by simpa using hi
          exact⟨v2,by rw[hB.cell];rfl,h2⟩
  | succ i=>simp at hi
def Z4y {E m:Nat}{W:World}{nv:Value}{done:List Value}(h:Nj E 1 W nv done m m u)(hd:done=ts.map .string)(hm:m=ts.length)(h0:0<m)(ht: ∀ t,t∈ts->t.size<1000000000): ∃ p' c',nv= .slice p' ts.length c'/\Us u p' ts:=by
 subst hd;subst hm;obtain⟨_,_,h | ⟨cap,vs,_,rfl,hB,_,L9⟩⟩:=h
 ·omega
 ·refine⟨_,_,rfl,fun i t hi=>⟨ht t<|U8 hi,_,_,rfl,hB.lt,?_⟩⟩;rw[hB.cell,Hr,<- UG]
  have:(List.take (List.map Value.string ts).length vs.toList)[i]?=some (.string t):=by rw[L9,Jq,hi];rfl
  rw[List.getElem?_take]at this;split at this
  ·exact this
  ·cases this
structure cO (w:World) (b L:Nat) (key:ByteArray) (I:List UInt8) (u:World):Prop where
 pad:AJ u b (Lib.byteCells<|FE key).toArray 166
 inner:AJ u L (Lib.byteCells I).toArray 111
 res: ∃ vs,AJ u w.heap.size vs 111/\vs.size=32
 below:Bl w u
def cO.later {v:World}{I:List UInt8}(h:cO w b L key I u)(hb:Bl u v):cO w b L key I v:=by
 obtain⟨vs,hv,hs⟩:=h.res;exact⟨h.pad.of<|hb.block _ h.pad.lt,h.inner.of<|hb.block _ h.inner.lt,⟨vs,hv.of<|hb.block _ hv.lt,hs⟩,h.below.trans<|hb.mono h.below.size⟩
def Z7r {s:ByteArray}(h:AJ w L #[.string t,.string s] e)(ht:t.size<1000000000)(hs:s.size<1000000000):Us w (Qb L 0) [t,s]:=by
 intro i x hi;cases i with
 | zero=>
  obtain rfl:t=x:=by simpa using hi
  exact⟨ht,L,0,rfl,h.lt,by rw[h.cell];rfl⟩
 | succ i=>cases i with
  | zero=>
   obtain rfl:s=x:=by simpa using hi
   exact⟨hs,L,0,rfl,h.lt,by rw[h.cell];rfl⟩
  | succ i=>simp at hi
def uw {a:Nat->Addr}(Z:Aa a w)(hk:key.size<1000000000)(hT:Us w p ts)(hl:ts.length<1000000):Calls prog 36 #[.string key,.slice p ts.length c] w fun e w'=>e= .returned (Ha<|DV key ts)/\Bl w w':=by
 have ZW:=AA Z;have HT:=AA hT;clear Z hT;obtain⟨n,hn⟩: ∃ n,AC (ts.length=n):=⟨_,⟨rfl⟩⟩;rw[hn.out]at hl⊢;have Ew:AJ ((w.alloc<|.cells Bi 111).alloc<|.cells LZ 166) (w.heap.size+1) LZ 166:=by
  have:=AJ.new (w.alloc<|.cells Bi 111) LZ 166
  simpa using this
 have hs64:LZ.size=64:=by rw[Zxj];simp
 go_in
 rcases QL 64 key.size with Io | Io
 case' inl=>
  have g:((key.size:Int) > 64):=zx
  go_wp2_with fail
  have hb2:Bl w (((w.alloc<|.cells Bi 111).alloc<|.cells LZ 166).alloc<|.cells #[.string key] 9):=(((AQ w.heap.size w).alloc lr _).alloc (by first | (simp;done) | (simp;omega) | omega) _).alloc (by first | (simp;done) | (simp;omega) | omega) _;have aV:AJ (((w.alloc<|.cells Bi 111).alloc<|.cells LZ 166).alloc<|.cells #[.string key] 9) (w.heap.size+1+1) #[.string key] 9:=by
   have:=AJ.new ((w.alloc<|.cells Bi 111).alloc<|.cells LZ 166) #[.string key] 9
   simpa using this
  have CO:=oJ (a:=a) (w:=((w.alloc<|.cells Bi 111).alloc<|.cells LZ 166).alloc<|.cells #[.string key] 9) (c:=1) (ZW.out.below hb2) (bO aV hk) zw;refine mq CO ?_;rintro w2 AX;have hs2:=AX.size;simp only[EH]at hs2;have Ce:=AA<|hb2.trans<|AX.mono hb2.size;have P2:=(Ew.alloc<|.cells #[.string key] 9).of<|AX.block _ (by first | (simp;done) | (simp;omega) | omega);have R2:=(((AJ.new w Bi 111).alloc<|.cells LZ 166).alloc<|.cells #[.string key] 9).of<|AX.block _ (by first | (simp;done) | (simp;omega) | omega);clear CO hb2 aV AX Ew;have FL:=bP [key];have hv2:=Xc<|FZ [key];have hv3:=mZ [key];have HL:=Z9j Io;unfold Ha;have C9:=Lib.byteCells_one<|FZ [key];have hlen:(Lib.byteCells<|FZ [key]).length=32:=by rw[Lib.byteCells_length,Oh]
  have Fz:=AJ.new w2 Bi 111;have Pm:=Gj _ _ _ (Lib.byteCells<|FZ [key]).toArray _ _ Fz;have P3:=AJ.of (P2.alloc<|.cells Bi 111)<|Db (w2.alloc<|.cells Bi 111) w2.heap.size _ (Lib.byteCells<|FZ [key]).toArray (by have:=P2.lt;omega);go_wp2_with (first
   | (refine Jp rfl 111 (.tmp 6) (.tmp 13) rfl w2.heap.size (Lib.byteCells<|FZ [key]).toArray rfl rfl 111 Bi Fz hv3 (by first | exact FL | exact FL.symm) hv2 ?_))
  simp only[Act.put];go_region_law (refine Zug rfl (.tmp 14) (.tmp 15) 74 74 rfl 5 (w.heap.size+1) 64 64 32 (.slice (Qb w2.heap.size 0) 32 32) (Lib.byteCells<|FZ [key]) LZ 166 underlying74 zt (by simp[Act.eval,Act.put]) (by simp[Act.eval,Act.put]) P3 (Src.ofSlice _ underlying74 ⟨w2.heap.size,0,none⟩ 32 32 (Lib.byteCells<|FZ [key]) (by rw[hlen]) (fun j u hj=>by rw[Addr.add_lit,Hr];exact((AJ.cell Pm j).trans (by rw[Qz];exact hj))) C9) zx zx (Lib.byteCells<|FE key).toArray HL ?_)
  obtain⟨W6,hW6⟩: ∃ W,((w2.alloc<|.cells Bi 111).setRow w2.heap.size (Lib.byteCells<|FZ [key]).toArray).drew.setRow (w.heap.size+1) (Lib.byteCells<|FE key).toArray=W:=⟨_,rfl⟩;change Exit.then _ _ _ _ (((w2.alloc<|.cells Bi 111).setRow w2.heap.size (Lib.byteCells<|FZ [key]).toArray).drew.setRow (w.heap.size+1) (Lib.byteCells<|FE key).toArray);have HP:AC (AJ W6 (w.heap.size+1) (Lib.byteCells<|FE key).toArray 166):=⟨by rw[<- hW6];exact Gj _ _ LZ _ _ _ P3⟩;have HR:AC (AJ W6 w.heap.size Bi 111):=⟨by
   rw[<- hW6];exact AJ.of (AJ.of (R2.alloc<|.cells Bi 111)<|Db _ _ _ _ (by have:=R2.lt;omega))<|Db _ _ _ _ zx⟩
  have dG:AC (Bl w W6):=⟨by
   have h3:=Ce.out.alloc zx<|.cells Bi 111;rw[<- hW6];exact⟨h3.os,h3.tape,h3.output,by rw[ET];show _<=(World.setRow _ _ _).heap.size;rw[ET];exact h3.size,fun j hj=>(Db _ _ j _ zx).trans ((Db _ _ j _ zx).trans<|h3.block j hj)⟩⟩
  rw[hW6];clear P2 R2 Ce hs2 FL hv2 hv3 HL C9 hlen Fz Pm P3 hW6;have O7:=HP.out;go_wp2_with (refine QK rfl 166 (.tmp 5) rfl (w.heap.size+1) rfl 166 (Lib.byteCells<|FE key).toArray (0,0) _ O7 underlying166 rfl (uY key) ?_)
  clear O7
 case' inr=>
  have g: ¬ ((key.size:Int) > 64):=zx
  have Uc:=Z0d (P:=prog) _ 74 9 3 5 (w.heap.size+1) 64 64 key.size (.string key) _ LZ 166 underlying74 zt Ew (Src.ofString _ underlying9 key) Io zx;rw[Z6i Io]at Uc;have O7:=Gj _ _ _ (Lib.byteCells<|FE key).toArray _ _ Ew;go_wp2_with (first
   | (refine Zqs _ rfl (.tmp 17) (.tmp 18) _ _ rfl _ _ rfl rfl Uc ?_)
   | (refine QK rfl 166 (.tmp 5) rfl (w.heap.size+1) rfl 166 (Lib.byteCells<|FE key).toArray (0,0) _ O7 underlying166 rfl (uY key) ?_))
  obtain⟨W6,hW6⟩: ∃ W,(((w.alloc<|Obj.cells Bi 111).alloc<|Obj.cells LZ 166).setRow (w.heap.size+1) (Lib.byteCells<|FE key).toArray)=W:=⟨_,rfl⟩;have HP:AC (AJ W6 (w.heap.size+1) (Lib.byteCells<|FE key).toArray 166):=⟨by rw[<- hW6];exact O7⟩;have HR:AC (AJ W6 w.heap.size Bi 111):=⟨by
   rw[<- hW6];exact AJ.of ((AJ.new w Bi 111).alloc<|.cells LZ 166)<|Db _ _ _ _ zx⟩
  have dG:AC (Bl w W6):=⟨by
   have h3:=((AQ w.heap.size w).alloc lr<|.cells Bi 111).alloc zw<|.cells LZ 166;rw[<- hW6];exact⟨h3.os,h3.tape,h3.output,by rw[ET];exact h3.size,fun j hj=>(Db _ _ j _ zx).trans (h3.block j hj)⟩⟩
  rw[hW6];clear hW6 O7 Uc Ew
 all_goals
  have h6:=HP.out.lt;refine(Zsb _ (FE key) 54 W6 (Xh key) zu (by rw[E9,Lib.byteCells_length,Xh])<|Z6h key).mono ?_;rintro e w7 ⟨rfl,Eu⟩;go_wp2_with fail
  have gT:(Jf (FE key) 54).length=64:=by unfold Jf;rw[Nw,Xh]
  have hM:AC ((⟨(Jf (FE key) 54).toArray⟩:ByteArray).size<1000000000):=⟨by simp[ByteArray.size,gT]⟩;have EM:AC ((⟨(Jf (FE key) 54).toArray⟩:ByteArray)=⟨(Jf (FE key) 54).toArray⟩):=⟨rfl⟩;generalize fI:(⟨(Jf (FE key) 54).toArray⟩:ByteArray)=M at hM EM⊢;have HgM:=AA fI;clear fI gT;have Gq:=((AQ w7.heap.size w7).alloc lr<|.cells #[.string M] 9).alloc zw<|.cells #[.slice (Qb w7.heap.size 0) 1 1,.slice p n c] 29;have B8:AJ ((w7.alloc<|.cells #[.string M] 9).alloc<|.cells #[.slice (Qb w7.heap.size 0) 1 1,.slice p n c] 29) (w7.heap.size+1) #[.slice (Qb w7.heap.size 0) 1 1,.slice p n c] 29:=by
   have:=AJ.new (w7.alloc<|.cells #[.string M] 9) #[.slice (Qb w7.heap.size 0) 1 1,.slice p n c] 29
   simpa using this
  have T1:=(bO (((AJ.new w7 #[.string M] 9)).alloc<|.cells #[.slice (Qb w7.heap.size 0) 1 1,.slice p n c] 29) hM.out).sl (c:=1) zw;have dJ:=AA<|dG.out.trans<|Eu.mono zx;have HT8:=AA<|(HT.out.below dJ.out).below Gq;have T2:=HT8.out.sl (c:=c) (by rw[hn.out];exact hl);rw[hn.out]at T2;have CC:=Z10 (xs:=[(1,[Value.string M]),(n,ts.map .string)]) (c:=2) (Yf9 B8 T1 T2) zw (by simp[Dp];omega);refine CC.mono ?_;rintro e w9 ⟨nv,rfl,hC⟩;have TN:=hC.1;obtain⟨p9,c9,rfl,xc⟩:=Z4y (ts:=M::ts) hC (by simp[Ui]) (by simp[Dp,hn.out];omega) (by simp[Dp];omega) (fun t ht=>by
   rcases Be.1 ht with rfl | ht
   ·exact hM.out
   ·obtain⟨i,hi⟩:=List.getElem?_of_mem ht;exact(HT.out i t hi).1)
  have dI:=AA<|dJ.out.trans<|(Gq.trans<|TN.mono Gq.size).mono dJ.out.size;have P9:=HP.out.of<|(((Gq.trans<|TN.mono Gq.size).block _ (by have:=Eu.size;omega))).trans<|Eu.block _ h6;have R9:=HR.out.of<|(((Gq.trans<|TN.mono Gq.size).block _ (by have:=Eu.size;omega))).trans<|Eu.block _ zx;have ow:=AA P9;have xg:=AA R9;clear CC T1 T2 hC B8 Gq TN Eu P9 R9;have zk:AC ((M::ts).length=n+1):=⟨by simp[hn.out]⟩;have yH:=AA<|oJ (c:=c9) (ZW.out.below dI.out) xc (by rw[zk.out];omega);rw[zk.out]at yH⊢;have H9:=AA xc;clear xc;go_wp2_with fail
  refine mq yH.out ?_;rintro On JX;have P10:=(ow.out.of<|JX.block _ ow.out.lt).alloc<|.cells Bi 111;have R10:=(xg.out.of<|JX.block _ xg.out.lt).alloc<|.cells Bi 111;have RF:=AA<|(tr dI JX).out.alloc (by have:=JX.size;have:=dI.out.size;omega)<|.cells Bi 111;have ze:w.heap.size+1<On.heap.size:=by have:=JX.size;have:=ow.out.lt;omega
  clear yH JX ow xg dI H9 HT8 dJ dG HP HR;have FL:=bP<|M::ts;have hv2:=Xc<|FZ<|M::ts;have hv3:=mZ<|M::ts;have L8:=Oh<|M::ts;unfold Ha;have EI:AC (FZ (M::ts)=FZ (M::ts)):=⟨rfl⟩;obtain⟨I,hI⟩: ∃ I,AC (FZ (M::ts)=I):=⟨_,⟨rfl⟩⟩;rw[hI.out]at FL hv2 hv3 L8⊢;have Yu:=AJ.new On Bi 111;have xO:=Gj _ _ _ (Lib.byteCells I).toArray _ _ Yu;have xQ:=P10.of<|Db (On.alloc<|.cells Bi 111) On.heap.size _ (Lib.byteCells I).toArray zx;have Zv:=AA<|R10.of<|Db (On.alloc<|.cells Bi 111) On.heap.size _ (Lib.byteCells I).toArray zx;have Z8:AC (Bl w<|(On.alloc<|.cells Bi 111).setRow On.heap.size (Lib.byteCells I).toArray):=⟨⟨RF.out.os,RF.out.tape,RF.out.output,by rw[ET];exact RF.out.size,fun j hj=>(Db _ _ j _ zx).trans (RF.out.block j hj)⟩⟩;go_wp2_with (first
   | (refine Jp rfl 111 (.tmp 7) (.tmp 26) rfl On.heap.size (Lib.byteCells I).toArray rfl rfl 111 Bi Yu hv3 (by first | exact FL | exact FL.symm) hv2 ?_))
  simp only[Act.put];obtain⟨W,hW⟩: ∃ W,(On.alloc<|.cells Bi 111).setRow On.heap.size (Lib.byteCells I).toArray=W:=⟨_,rfl⟩;change Code.wp _ _ _ _ ((On.alloc<|.cells Bi 111).setRow On.heap.size (Lib.byteCells I).toArray);rw[hW]at xQ Zv Z8 xO⊢;have AV:cO w (w.heap.size+1) On.heap.size key I W.drew:=⟨xQ,xO,⟨_,Zv.out,rfl⟩,Z8.out.drew⟩;clear hW P10 R10 RF Yu Zv Z8 xQ xO;generalize On.heap.size=L at*;refine U7 (S:=cO w (w.heap.size+1) L key I) zt ?_;change wpAnyH _ _ _ _ _ _ _ _ (World.drew _);refine wpAnyH_take (i:=0) (oi:={dst:=some 27,op:= .load 166<|.tmp 5,type:=166,pos:= "sums.go:53",after:=#[],guard:=none}) (v:= .agg (Lib.byteCells<|FE key).toArray) rfl zt zt zt (fun _ _ _ h=>h) (wW rfl 166 (.tmp 5) rfl ⟨w.heap.size+1,0,none⟩ rfl fun u hS=>WK u (w.heap.size+1) 166 166 _ _ _ hS.pad underlying166 rfl (uY key)) AV ?_;simp only[Act.put];refine tk 2 (.slice (Qb L 0) 32 32) AV ?_;simp only[Act.put];refine wpAnyH_take (i:=3) (oi:={dst:=some 30,op:= .convert 74 9<|.tmp 29,type:=9,pos:= "sums.go:53",after:=#[{on:=2,ground:=Ground.data}],guard:=none}) (v:= .string ⟨I.toArray⟩) rfl zt zt zt (fun _ _ _ h=>h) (Zof rfl 74 9 (.tmp 29) rfl _ rfl fun u hS=>nY hS.inner (fun j hj=>by simp[Lib.byteCells,List.getD,DK hj]) 32 L8.symm) AV ?_;simp only[Act.put];refine Eg (rs:=[1]) zt zw<|EG rfl (fun K' hK'=>?_) Eh;go_simp;refine(Zsb _ (FE key) 92 W.drew (Xh key) zu (by rw[E9,Lib.byteCells_length,Xh])<|Z6h key).mono ?_;rintro e pM ⟨rfl,gD⟩;have hS1:=AV.later gD;refine hK'.out _ _ hS1 fun _=>?_;have gT:(Jf (FE key) 92).length=64:=by unfold Jf;rw[Nw,Xh]
  have hM2:AC ((⟨(Jf (FE key) 92).toArray⟩:ByteArray).size<1000000000):=⟨by simp[ByteArray.size,gT]⟩;generalize fI:(⟨(Jf (FE key) 92).toArray⟩:ByteArray)=M2 at hM2⊢;have xY:=AA fI;clear fI gT hK' K' gD;have hIs:AC ((⟨I.toArray⟩:ByteArray).size<1000000000):=⟨by simp[ByteArray.size,L8]⟩;generalize hgI:(⟨I.toArray⟩:ByteArray)=J at hIs⊢;have HgI:=AA hgI;clear hgI;refine Eg (rs:=[4]) zt zw<|EG rfl (fun K' hK'=>?_) Eh;go_simp;have fq:=(AQ pM.heap.size pM).alloc lr<|.cells #[.string M2,.string J] 9;have Fz:=hS1.later fq;refine hK'.out _ _ Fz fun _=>?_;have T2:=Z7r (AJ.new pM #[.string M2,.string J] 9) hM2.out hIs.out;clear hK' K' fq;have CO:=oJ (c:=2) (ZW.out.below Fz.below) T2 zw;refine Eg (rs:=[5]) zt zw<|EG rfl (fun K' hK'=>?_) Eh;go_simp;refine mq CO ?_;rintro pK fo;have Pm:=Fz.later fo;refine hK'.out _ _ Pm fun _=>?_;clear hK' K' fo CO T2;have hv4:=bP [M2,J];have kI:=Xc<|FZ [M2,J];have qE:=mZ [M2,J];have HE:AC (FZ [M2,J]=DV key ts):=⟨by rw[<- xY.out,<- HgI.out,<- hI.out,<- HgM.out];rfl⟩;unfold Ha;rw[HE.out]at hv4 kI qE⊢;obtain⟨vs,Gy,hs32⟩:=Pm.res;refine Eg (rs:=[6]) zt zw<|EG rfl (fun K' hK'=>?_) Eh;refine Zkf rfl 111 (.tmp 4) (.tmp 32) rfl w.heap.size (Lib.byteCells<|DV key ts).toArray rfl rfl 111 vs Gy qE zx kI ?_;have hR:=Gj pK _ vs (Lib.byteCells<|DV key ts).toArray _ _ Gy;have hBB:Bl w (pK.setRow w.heap.size (Lib.byteCells<|DV key ts).toArray):=⟨Pm.below.os,Pm.below.tape,Pm.below.output,by rw[ET];exact Pm.below.size,fun j hj=>(Db _ _ j _ zx).trans (Pm.below.block j hj)⟩;have hS4:cO w (w.heap.size+1) L key I (pK.setRow w.heap.size (Lib.byteCells<|DV key ts).toArray):=⟨Pm.pad.of<|Db _ _ _ _ zx,Pm.inner.of<|Db _ _ _ _ zx,⟨_,hR,hv4⟩,hBB⟩;refine hK'.out _ _ hS4 fun _=>?_;clear hK' K';refine Lp zt ?_ _;go_wp2
  refine CQ (results_cell_row (p:=4) (ty:=111) rfl _ _ w.heap.size 111 (Lib.byteCells<|DV key ts).toArray (0,0) _ rfl hR underlying111 rfl qE) rfl ?_;exact⟨rfl,hBB⟩
end Go.P
namespace Go.W
def Zgz {P:Program}(w:World){ops:Array Oper}{rest:List Oper}{o:Oper}{a:Act}{Q:Exit->Act->World->Prop}(hgd:o.guard=none)(x:Operand)(f t:TypeId)(ho:o.op= .convert f t x)(y:Value)(hx:a.eval x=y){v':Value}{w':World}
  (hr:(convert f t y).run P w= .ok v' w') (h:wpList P ops Q rest (a.put o.dst v') w'):wpList P ops Q (o::rest) a w:=by
 refine wpList_plain hgd fun _ hK=>?_;unfold Oper.wp execOp;simp only[ho,QM,Sem.run_pure,Rw,hx,hr];exact hK _ _ h
end Go.W
namespace Go.P
variable {a:Nat->Addr}{w:World}{t:ByteArray}
def vQ (l:List UInt8)(j:Nat)(h:j<l.length):(Lib.byteCells l).toArray[j]?=some (.int .u8 ((l.getD j 0).toNat:Int)):=by simp[Lib.byteCells,List.getD,DK h]
def bM {l:List UInt8}(h:l.length=32):(prog.info? 111).map (·.size)=some (Lib.byteCells l).toArray.size:=by rw[E9,Lib.byteCells_length,h];kernel_rfl
def Yc2 (Z:Aa a w)(ht:t.size<1000000000):Calls prog 89 #[.string t] w fun e w'=>e= .returned (.string ⟨(FZ [t]).toArray⟩)/\Bl w w':=by
 have ZW:=AA Z;clear Z;go_in
 go_wp2_with fail
 have hb1:=(AQ w.heap.size w).alloc lr<|.cells #[.string t] 9;refine(oJ (c:=1) (ZW.out.below hb1) (bO (AJ.new w #[.string t] 9) ht) zw).mono ?_;rintro e w2 ⟨rfl,hb2⟩;have HB:=AA<|(hb1.trans<|hb2.mono hb1.size).alloc (by have:=hb2.size;simp at this;omega)<|.cells Bi 111;have hlt:w.heap.size<w2.heap.size:=by have:=hb2.size;simp at this;omega
 have FL:=bP [t];have hv2:=Xc<|FZ [t];have hv3:=mZ [t];have L8:=Oh [t];clear hb1 hb2;unfold Ha;obtain⟨I,hI⟩: ∃ I,AC (FZ [t]=I):=⟨_,⟨rfl⟩⟩;rw[hI.out]at FL hv2 hv3 L8⊢;have hS:=AJ.new w2 Bi 111;have Fz:=Gj _ _ _ (Lib.byteCells I).toArray _ _ hS;have hcv:=AA<|nY (xs:=I) Fz (fun j hj=>vQ I j hj) 32 L8.symm (cap:=32);go_wp2_with (first
  | (refine Jp rfl 111 (.tmp 3) (.tmp 6) rfl w2.heap.size (Lib.byteCells I).toArray rfl rfl 111 Bi hS hv3 (by first | exact FL | exact FL.symm) hv2 ?_)
  | (refine Zgz _ rfl (.tmp 7) _ _ rfl _ rfl hcv.out ?_))
 go_ret
 exact⟨by rw[hI.out];try rfl,⟨HB.out.os,HB.out.tape,HB.out.output,by rw[ET];exact HB.out.size,fun j hj=>(Db _ _ j _ zx).trans (HB.out.block j hj)⟩⟩
def Zva {tag:List UInt8}(Z:Aa a w)(hl:tag.length=32)(ht:t.size<1000000000):Calls prog 84 #[Ha tag,.string t] w fun e w'=>e= .returned (Ha<|DV ⟨tag.toArray⟩ [t])/\Bl w w':=by
 have ZW:=AA Z;clear Z;unfold Ha;go_in
 have Dl: ∀ o,AJ ((w.alloc<|.cells (Lib.byteCells tag).toArray 111).alloc o) w.heap.size (Lib.byteCells tag).toArray 111:=fun o=>(AJ.new w _ _).alloc o;have hcv:=AA fun o=>nY (xs:=tag) (Dl o) (fun j hj=>vQ tag j hj) 32 hl.symm (cap:=32);have Wu:AJ ((w.alloc<|.cells (Lib.byteCells tag).toArray 111).alloc<|.cells Bi 111) (w.heap.size+1) Bi 111:=by
  have:=AJ.new (w.alloc<|.cells (Lib.byteCells tag).toArray 111) Bi 111
  simpa using this
 go_wp2_with (refine Zgz _ rfl (.tmp 5) _ _ rfl _ rfl (hcv.out _) ?_)
 have hb1:=(((AQ w.heap.size w).alloc lr<|.cells (Lib.byteCells tag).toArray 111).alloc zw<|.cells Bi 111).alloc (by first | (simp;done) | (simp;omega))<|.cells #[.string t] 9;have MF:AJ (((w.alloc<|.cells (Lib.byteCells tag).toArray 111).alloc<|.cells Bi 111).alloc<|.cells #[.string t] 9) (w.heap.size+1+1) #[.string t] 9:=by
  have:=AJ.new ((w.alloc<|.cells (Lib.byteCells tag).toArray 111).alloc<|.cells Bi 111) #[.string t] 9
  simpa using this
 refine(uw (key:=⟨tag.toArray⟩) (c:=1) (ZW.out.below hb1) (by simp[ByteArray.size,hl]) (bO MF ht) zw).mono ?_;rintro e w2 ⟨rfl,hb2⟩;have HB:=AA<|hb1.trans<|hb2.mono hb1.size;have Wt:=(Wu.alloc<|.cells #[.string t] 9).of<|hb2.block _ (by first | (simp;done) | (simp;omega));have FL:=bP [⟨(Jf (FE ⟨tag.toArray⟩) 92).toArray⟩,⟨(FZ<|⟨(Jf (FE ⟨tag.toArray⟩) 54).toArray⟩::[t]).toArray⟩];have L8:(DV ⟨tag.toArray⟩ [t]).length=32:=Oh _;clear FL hb1 hb2 MF Wu Dl hcv;unfold Ha;obtain⟨I,hI⟩: ∃ I,AC (DV ⟨tag.toArray⟩ [t]=I):=⟨_,⟨rfl⟩⟩;rw[hI.out]at L8⊢;have FL:(Lib.byteCells I).toArray.size=32:=by rw[E9,Lib.byteCells_length,L8]
 have hv3:=bM L8;go_wp2_with (refine Jp rfl 111 (.tmp 4) (.tmp 9) rfl (w.heap.size+1) (Lib.byteCells I).toArray rfl rfl 111 Bi Wt hv3 (by first | exact FL | exact FL.symm) (Xc I) ?_)
 refine CQ (results_cell_row (p:=4) (ty:=111) rfl _ _ (w.heap.size+1) 111 (Lib.byteCells I).toArray (0,0) _ rfl (Gj w2 _ Bi _ _ _ Wt) underlying111 rfl hv3) rfl ?_;exact⟨by rw[hI.out];try rfl,⟨HB.out.os,HB.out.tape,HB.out.output,by rw[ET];exact HB.out.size,fun j hj=>(Db _ _ j _ zx).trans (HB.out.block j hj)⟩⟩
end Go.P
namespace Go.W
def Zw7 {n:Nat}{l t r:By}(h:KI n l= .ok (t,r)):t.length=n/\r.length<=l.length:=by
 unfold KI at h;split at h
 ·cases h
 ·injection h with h;injection h with h1 h2;subst h1;subst h2;simp;omega
end Go.W
namespace Go.P
def Z45 (V:E8)(CL:Ig){a:Nat->Addr}{w:World}{b:Nat}{l:By}(Z:Aa a w)(h:Dc w b l):
  Calls prog 188 #[.pointer<|Qb b 0] w (Hg a b (G5 (Hf AY 4) w.heap.size) w<|TY l):=by
 have hb:=h.1.lt;have hgb:=h.2.2;have K0:=AA<|(Ac.refl b w).alloc<|.cells #[.string ⟨#[]⟩,.slice none 0 0,.slice none 0 0,.slice none 0 0] 108;have L0:=AA<|AJ.new w #[.string ⟨#[]⟩,.slice none 0 0,.slice none 0 0,.slice none 0 0] 108;have C:=AA<|WF (Z.keeps K0.out hgb)<|h.alloc<|.cells #[.string ⟨#[]⟩,.slice none 0 0,.slice none 0 0,.slice none 0 0] 108;have ZZ:=AA Z;have VC:=AA<|AF V CL;clear Z h V CL;go_in
 go_wp2_with fail
 refine C.out.mono ?_;rintro e w1 ⟨AZ,⟨i,hy,hi,rfl⟩ | ⟨n,r1,v,hy,rfl,⟨rfl,hn⟩,Bg⟩⟩
 ·exact⟨rfl,K0.out.trans AZ,Or.inl ⟨i,De.Ad hy,hi,rfl⟩⟩
 have K1:=AA<|K0.out.trans AZ;have Y:AC (TY l=(if 4000<n then fun _=> .error 4 else(KI n).then bg) r1):=⟨De.then_ok hy⟩;have L1:=AA<|L0.out.of<|AZ.block w.heap.size zw zx;have hs1:=L1.out.lt;have Z1:=AA<|ZZ.out.keeps K1.out hgb;have QS:=AA Bg;clear hy AZ Bg C L0 K0;by_cases hlt:4000<n
 ·have Y4:AC (TY l= .error 4):=⟨by rw[Y.out,if_pos hlt]⟩;have g:(4000:Int)<(n:Int):=zx
  have z4:=Z1.out.c4;have CR:=AA<|Nu a b w1 (n:=4) zu;clear Y;go_wp2_with fail
  refine mq CR.out ?_;rintro w2 rfl;exact⟨rfl,K1.out,Or.inl ⟨4,Y4.out,zu,rfl⟩⟩
 have g: ¬ (4000:Int)<(n:Int):=zx
 have Y1:=AA<|Y.out;rw[if_neg hlt]at Y1;have C2:=AA<|jA Z1.out QS.out n hn;clear Y;go_wp2_with fail
 refine C2.out.mono ?_;rintro e w2 ⟨hk2,⟨i,hy,hi,rfl⟩ | ⟨t,r2,v,hy,rfl,rfl,Cf⟩⟩
 ·exact⟨rfl,K1.out.trans hk2,Or.inl ⟨i,Y1.out.trans<|De.Ad hy,hi,rfl⟩⟩
 have K2:=AA<|K1.out.trans hk2;have Y2:=AA<|Y1.out.trans<|De.then_ok hy;have L2:=AA<|L1.out.of<|hk2.block w.heap.size hs1 zx;have hs2:=L2.out.lt;have JV:=(Zw7 hy).1;have Z2:=AA<|ZZ.out.keeps K2.out hgb;have Z7:=AA Cf;have C3:=AA<|Z16 VC.out.1 VC.out.2 Z2.out Z2.out.size (l:=t) zx;clear hy hk2 Cf C2 Y1 L1 QS Z1 K1;go_wp2_with fail
 refine C3.out.mono ?_;rintro e w3 ⟨hb3,⟨m,hy,hm,rfl⟩ | ⟨x,vs,F,hy,rfl,hQ,hN⟩⟩
 ·have Y3:AC (TY l= .error m):=⟨Y2.out.trans<|Zyq hy _⟩;have CR:=AA fun u=>Nu a b u hm;have K3:=AA<|K2.out.AR hb3;rw[DC _ hm]at CR⊢;clear Y2 hy hb3 C3;go_wp2_with fail
  refine(CR.out _).mono ?_;rintro e w4 ⟨rfl,rfl⟩;exact⟨rfl,K3.out.alloc _,Or.inl ⟨m,Y3.out,hm,rfl⟩⟩
 ·have Y3:AC (TY l= .ok ((ba t,x),r2)):=⟨Y2.out.trans<|Z0s hy _⟩;have K3:=AA<|K2.out.AR hb3;have L3:=AA<|L2.out.of<|hb3.block _ hs2;have Xq:=AA<|Z7.out.of<|hb3.block _ Z7.out.1.lt;have HQ:=AA<|AF hQ hN;obtain⟨p1,c1,p2,c2,p3,c3,rfl⟩:=Dq.vals hQ;have z0:=fun o=>(L3.out.alloc o).four.1;have z1:=fun o=>(L3.out.alloc o).four.2.1;have z2:=fun o=>(L3.out.alloc o).four.2.2.1;have z3:=fun o=>(L3.out.alloc o).four.2.2.2.1;have z4:=fun o=>(L3.out.alloc o).four.2.2.2.2;have hs3:=AA L3.out.lt;have Sd:AC ((ba t).size<1000000000):=⟨by rw[Bh];omega⟩;have eP:=hb3.size;clear Y2 hy hb3 C3 hQ hN;go_wp2
  refine CQ (by simp[results,results188,go_sem,z0,z1,z2,z3];try rfl) rfl ?_;have n1:=HQ.out.2;have st: ∀ j,j≠w.heap.size->j<w3.heap.size-> ∀ o x0 x1 x2 x3,(((((w3.alloc o).setCell ⟨w.heap.size,0,none⟩ x0).setCell ⟨w.heap.size,1,none⟩ x1).setCell ⟨w.heap.size,2,none⟩ x2).setCell ⟨w.heap.size,3,none⟩ x3).heap[j]?=w3.heap[j]?:=fun j hj hl o x0 x1 x2 x3=>(Iz hj).trans (Ah _ _ _ hl);have hs3:=hs3.out;exact⟨(K3.out.alloc _).r4 lr,Or.inr ⟨_,r2,_,Y3.out,rfl,⟨_,F,rfl,⟨_,rfl,Sd.out,Dq.stable (ty:=AY) 4 _ _ _ _ _ HQ.out.1 fun j hj=>st j (by have:=n1.ge j hj;omega) (n1.lt j hj) _ _ _ _ _⟩,n1.later zx zw⟩,Xq.out.of<|st b zx Xq.out.1.lt _ _ _ _ _⟩⟩
end Go.P
