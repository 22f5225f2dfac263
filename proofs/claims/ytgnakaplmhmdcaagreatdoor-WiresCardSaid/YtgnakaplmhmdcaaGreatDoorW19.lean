import Derived.Test.YtgnakaplmhmdcaaGreatDoorW18
import Derived.Deep.RegionHeld
set_option maxRecDepth 100000
set_option maxHeartbeats 8000000
set_option linter.unusedSimpArgs false
open Go.Proofs Go.RowKit Go.W
namespace Go.W
variable {P:Program}{ops:Array Oper}{o:Oper}{a:Act}{Q:Exit->Act->World->Prop}{w:World}{K:Act->World->Prop}{E:Prop}{S:World->Prop}{v:Value}
theorem Zx7 (w:World)(dT sT ty elem:TypeId)(g dLen dCap m:Nat)(x:Value)(news:List Value)(cur:Array Value)(t:TypeId)(hu:P.underlying dT=some (.slice elem))(hz:(P.info? elem).map (·.size)=some 1)(hg:w.heap[g]?=some (.cells cur t (0,0)))(hs:Src P 1 sT x m news w)(hm:m<=dLen)(hfit:m<=cur.size):
  (Builtin.copy_ #[dT,sT] ty #[.slice (some ⟨g,0,none⟩) dLen dCap,x]).run P w= .ok (goInt m) (w.setRow g (news++cur.toList.drop m).toArray):=by
 have hl:news.length=m:=by have:=hs.newsLen;omega
 have hst:=run_storeCells_at P g 0 t news 0 cur w hg (by rw[hl];simpa using hfit) hs.one;rw[hl]at hst;simp only[Yeg,Ydp,List.take_zero,Ydg]at hst;have hmin:Nat.min m dLen=m:=Nat.min_eq_left hm;cases hq:P.info? elem with
 | none=>simp[hq]at hz
 | some i=>
  have h1:i.size=1:=by simpa[hq]using hz
  simp[Builtin.copy_,run_underlying hu,hs.len,sizeOf,typeInfo,hq,hmin,h1,hs.cells,hst,Result.andThen]
theorem Znz (w:World){rest:List Oper}(hgd:o.guard=none)(s x:Operand)(t u:TypeId)
  (ho:o.op= .call {callee:= .builtin .copy,args:=#[s,x],argTypes:=#[t,u]}) (v1 v2:Value) (hs:a.eval s=v1) (hx:a.eval x=v2) {v':Value} {w':World}
  (hr:(Builtin.copy_ #[t,u] o.type #[v1,v2]).run P w= .ok v' w') (h:wpList P ops Q rest (a.put o.dst v') w'):wpList P ops Q (o::rest) a w:=by
 refine wpList_plain hgd fun _ hK=>?_;unfold Oper.wp execOp;simp only[ho,resolve,invoke,builtin,Yek,Sem.run_pure,Yd9,List.map_toArray,List.map_cons,List.map_nil,hs,hx,hr];exact hK _ _ h
theorem Zr4 (hgd:o.guard=none)(d x:Operand)(dT sT:TypeId)(hop:o.op=Op.call {callee:=Callee.builtin Builtin.copy,args:=#[d,x],argTypes:=#[dT,sT]})
  (elem:TypeId) (g dLen dCap m:Nat) (xv:Value) (news:List Value) (cur:Array Value) (t:TypeId) (hu:P.underlying dT=some (.slice elem)) (hz:(P.info? elem).map (·.size)=some 1) (hd:a.eval d= .slice (some ⟨g,0,none⟩) dLen dCap) (hx:a.eval x=xv) (hg:w.heap[g]?=some (.cells cur t (0,0))) (hs:Src P 1 sT xv m news w) (hm:m<=dLen) (hfit:m<=cur.size) (nv:Array Value) (hnv:(news++cur.toList.drop m).toArray=nv)
  (hK:K (a.put o.dst (goInt m)) (w.setRow g nv)):if Region.wanted o (yielded ops a.tmps)=true then Oper.wp P o a w K Q else E:=by
 have hw:Region.wanted o (yielded ops a.tmps)=true:=by simp[Region.wanted,hgd]
 rw[if_pos hw];have hrun:=Zx7 (P:=P) w dT sT o.type elem g dLen dCap m xv news cur t hu hz hg hs hm hfit;rw[hnv]at hrun;unfold Oper.wp;simp[execOp,hop,resolve,invoke,builtin,hd,hx,hrun,Result.andThen];exact hK
theorem Zhb (hgd:o.guard=none)(ty:TypeId)(x:Operand)(ho:o.op= .load ty x)(g:Addr)(hx:a.eval x= .pointer (some g))(h: ∀ u,S u->(loadVar ty g).run P u= .ok v u):YieldsIf P ops S o v a:=
 Or.inl ⟨by simp[Region.wanted,hgd],fun u hS=>by
  simp only[execOp,ho,hx,Instr.loadAt,Instr.sureAddr,Yek,Sem.run_pure,Yd9,h u hS]⟩
theorem Zmi (hgd:o.guard=none)(f t:TypeId)(x:Operand)(ho:o.op= .convert f t x)(y:Value)(hx:a.eval x=y)(h: ∀ u,S u->(convert f t y).run P u= .ok v u):YieldsIf P ops S o v a:=
 Or.inl ⟨by simp[Region.wanted,hgd],fun u hS=>by
  simp only[execOp,ho,hx,Yek,Sem.run_pure,Yd9,h u hS]⟩
theorem Zjd (hgd:o.guard=none)(ty:TypeId)(x y:Operand)(ho:o.op= .store ty x y)(g:Nat)(cells:Array Value)(hx:a.eval x= .pointer (some ⟨g,0,none⟩))(hy:a.eval y= .agg cells)(t:TypeId)(old:Array Value)(hg:w.heap[g]?=some (.cells old t (0,0)))(hi:(P.info? ty).map (·.size)=some cells.size)(hold:old.size=cells.size)(h1:cells.all (·.oneCell')=true)(h:K (a.put o.dst undef) (w.setRow g cells)):if Region.wanted o (yielded ops a.tmps)=true then Oper.wp P o a w K Q else E:=by
 rw[if_pos (by simp[Region.wanted,hgd])];exact wp_store_row ty x y ho g cells hx hy t old hg hi hold h1 h
end Go.W
namespace Go.P
variable {key t:ByteArray}{w u:World}{L c b:Nat}{e:TypeId}{p:Option Addr}{ts:List ByteArray}
def Zd8:Array Value:=#[.int .u8 0,.int .u8 0,.int .u8 0,.int .u8 0,.int .u8 0,.int .u8 0,.int .u8 0,.int .u8 0,.int .u8 0,.int .u8 0,.int .u8 0,.int .u8 0,.int .u8 0,.int .u8 0,.int .u8 0,.int .u8 0,.int .u8 0,.int .u8 0,.int .u8 0,.int .u8 0,.int .u8 0,.int .u8 0,.int .u8 0,.int .u8 0,.int .u8 0,.int .u8 0,.int .u8 0,.int .u8 0,.int .u8 0,.int .u8 0,.int .u8 0,.int .u8 0,.int .u8 0,.int .u8 0,.int .u8 0,.int .u8 0,.int .u8 0,.int .u8 0,.int .u8 0,.int .u8 0,.int .u8 0,.int .u8 0,.int .u8 0,.int .u8 0,.int .u8 0,.int .u8 0,.int .u8 0,.int .u8 0,.int .u8 0,.int .u8 0,.int .u8 0,.int .u8 0,.int .u8 0,.int .u8 0,.int .u8 0,.int .u8 0,.int .u8 0,.int .u8 0,.int .u8 0,.int .u8 0,.int .u8 0,.int .u8 0,.int .u8 0,.int .u8 0]
theorem Zt2:Zd8=(List.replicate 64 (Value.int .u8 0)).toArray:=by kernel_rfl
def Zh2 (key:ByteArray):List UInt8:=
 let l:=if 64 < key.size then ofB [key]else key.data.toList
 l++List.replicate (64 - l.length) 0
def Za1 (key:ByteArray) (ts:List ByteArray):List UInt8:=ofB [⟨(Zgi (Zh2 key) 92).toArray⟩,⟨(ofB (⟨(Zgi (Zh2 key) 54).toArray⟩::ts)).toArray⟩]
theorem Zbs (ts:List ByteArray):(ofB ts).length=32:=Znu _ _
theorem Zde (key:ByteArray):(Zh2 key).length=64:=by
 unfold Zh2;by_cases h:64 < key.size
 ·simp[h,Zbs]
 ·simp[h];omega
theorem Zgz (ts:List ByteArray):(Lib.byteCells (ofB ts)).toArray.size=32:=by rw[Yc5,Lib.byteCells_length,Zbs]
theorem Zf3 (l:List UInt8):(Lib.byteCells l).toArray.all (·.oneCell')=true:=by
 rw[List.all_toArray,Yej];exact Lib.byteCells_one _
theorem Zkb (ts:List ByteArray):(Tryz.prog.info? 117).map (·.size)=some (Lib.byteCells (ofB ts)).toArray.size:=by rw[Zgz];kernel_rfl
theorem Zr8 (key:ByteArray):(Tryz.prog.info? 181).map (·.size)=some (Lib.byteCells (Zh2 key)).toArray.size:=by rw[Yc5,Lib.byteCells_length,Zde];kernel_rfl
theorem Zpa (n:Nat):Zd8.toList.drop n=List.replicate (64 - n) (.int .u8 0):=by
 rw[Zt2];show(List.replicate 64 (Value.int .u8 0)).drop n=_;rw[List.drop_replicate]
theorem Z4h (h:key.size<=64):(byteCells key++Zd8.toList.drop key.size).toArray=(Lib.byteCells (Zh2 key)).toArray:=by
 unfold Zh2;rw[if_neg (by omega),Zpa];unfold Lib.byteCells;rw[List.map_append,List.map_replicate];rfl
theorem Z6b (h:64 < key.size):(Lib.byteCells (ofB [key])++Zd8.toList.drop 32).toArray=(Lib.byteCells (Zh2 key)).toArray:=by
 unfold Zh2;rw[if_pos h,Zpa];unfold Lib.byteCells;rw[List.map_append,List.map_replicate,Zbs];rfl
theorem Z4z (key:ByteArray)(k:Nat)(h:k < 64):(Lib.byteCells (Zh2 key)).toArray[k]?=some (.int .u8 (((Zh2 key).getD k 0).toNat:Int)):=by
 have:k < (Zh2 key).length:=by rw[Zde];exact h
 simp[Lib.byteCells,List.getD,Yc0 this]
theorem Zgu (h:Blk w L #[.string t] e)(ht:t.size < 1000000000):Zgh w (some ⟨L,0,none⟩) [t]:=by
 intro i x hi;cases i with
 | zero=>
  obtain rfl:t=x:=by simpa using hi
  exact⟨ht,L,0,rfl,h.lt,by rw[h.cell];rfl⟩
 | succ i=>simp at hi
theorem Zgh.below (h:Zgh w p ts)(hb:Below w.heap.size w u):Zgh u p ts:=by
 intro i t hi;obtain⟨h1,b,o,h2,h3,h4⟩:=h i t hi;exact⟨h1,b,o,h2,Ycz h3 hb.size,(hb.cell (p:=⟨b,o+i,none⟩) h3).trans h4⟩
theorem Zgh.sl (h:Zgh w p ts)(hl:ts.length < 1000000):Ztr 1 w (.slice p ts.length c) ts.length (ts.map .string):=by
 refine⟨p,c,rfl,hl,by simp,fun u hu=>?_,fun a ha j u hj=>?_,fun hp=>?_⟩
 ·obtain⟨t,_,rfl⟩:=List.mem_map.1 hu;rfl
 ·rw[Ydn]at hj;obtain⟨t,ht,rfl⟩:=Ydi.1 hj;obtain⟨_,b,o,h2,h3,h4⟩:=h j t ht;obtain rfl:a=⟨b,o,none⟩:=by rw[ha]at h2;exact Yd5 h2
  exact⟨h3,by rw[Addr.add_lit];exact h4⟩
 ·cases ts with
  | nil=>rfl
  | cons t ts=>
   obtain⟨_,b,o,h2,_⟩:=h 0 t rfl;rw[hp]at h2;cases h2
theorem Ycr {s:Nat}{v1 v2:Value}{x1 x2:Nat×List Value}(hB:Blk w b #[v1,v2] e)(h1:Ztr s w v1 x1.1 x1.2)(h2:Ztr s w v2 x2.1 x2.2): ∀ i x,[x1,x2][i]?=some x->b < w.heap.size/\ ∃ v,w.cell? ⟨b,0+i,none⟩=some v/\Ztr s w v x.1 x.2:=by
 intro i x hi;refine⟨hB.lt,?_⟩;rw[Ydp];cases i with
 | zero=>obtain rfl:x1=x:=by simpa using hi
         exact⟨v1,by rw[hB.cell];rfl,h1⟩
 | succ i=>cases i with
  | zero=>obtain rfl:x2=x:=by simpa using hi
          exact⟨v2,by rw[hB.cell];rfl,h2⟩
  | succ i=>simp at hi
theorem Z3y {E m:Nat}{W:World}{nv:Value}{done:List Value}(h:Zin E 1 W nv done m m u)(hd:done=ts.map .string)(hm:m=ts.length)(h0:0 < m)(ht: ∀ t,t∈ts->t.size < 1000000000): ∃ p' c',nv= .slice p' ts.length c'/\Zgh u p' ts:=by
 subst hd;subst hm;obtain⟨_,_,h | ⟨cap,vs,_,rfl,hB,_,htk⟩⟩:=h
 ·omega
 ·refine⟨_,_,rfl,fun i t hi=>⟨ht t (Yd8 hi),_,_,rfl,hB.lt,?_⟩⟩;rw[hB.cell,Ydp,<- Ydw]
  have:(List.take (List.map Value.string ts).length vs.toList)[i]?=some (.string t):=by rw[htk,Ydn,hi];rfl
  rw[List.getElem?_take]at this;split at this
  ·exact this
  ·cases this
structure Z90 (w:World) (b L:Nat) (key:ByteArray) (I:List UInt8) (u:World):Prop where
 pad:Blk u b (Lib.byteCells (Zh2 key)).toArray 181
 inner:Blk u L (Lib.byteCells I).toArray 117
 res: ∃ vs,Blk u w.heap.size vs 117/\vs.size=32
 below:Below w.heap.size w u
theorem Z90.later {v:World}{I:List UInt8}(h:Z90 w b L key I u)(hb:Below u.heap.size u v):Z90 w b L key I v:=by
 obtain⟨vs,hv,hs⟩:=h.res;exact⟨h.pad.of (hb.block _ h.pad.lt),h.inner.of (hb.block _ h.inner.lt),⟨vs,hv.of (hb.block _ hv.lt),hs⟩,h.below.trans (hb.mono h.below.size)⟩
theorem Z4f {s:ByteArray}(h:Blk w L #[.string t,.string s] e)(ht:t.size < 1000000000)(hs:s.size < 1000000000):Zgh w (some ⟨L,0,none⟩) [t,s]:=by
 intro i x hi;cases i with
 | zero=>
  obtain rfl:t=x:=by simpa using hi
  exact⟨ht,L,0,rfl,h.lt,by rw[h.cell];rfl⟩
 | succ i=>cases i with
  | zero=>
   obtain rfl:s=x:=by simpa using hi
   exact⟨hs,L,0,rfl,h.lt,by rw[h.cell];rfl⟩
  | succ i=>simp at hi
theorem Zn3 {a:Nat->Addr}(Z:Zap a w)(hk:key.size < 1000000000)(hT:Zgh w p ts)(hl:ts.length < 1000000):Calls Tryz.prog 40 #[.string key,.slice p ts.length c] w fun e w'=>e= .returned (Zlk (Za1 key ts))/\Below w.heap.size w w':=by
 have ZW:=Zaa Z;have HT:=Zaa hT;clear Z hT;obtain⟨n,hn⟩: ∃ n,Box (ts.length=n):=⟨_,⟨rfl⟩⟩;rw[hn.out]at hl⊢;have hB1:Blk ((w.alloc (.cells Zaj 117)).alloc (.cells Zd8 181)) (w.heap.size+1) Zd8 181:=by
  have:=Blk.new (w.alloc (.cells Zaj 117)) Zd8 181
  simpa using this
 have hs64:Zd8.size=64:=by rw[Zt2];simp
 go_enter Tryz.func40,Tryz.ntmps40
 rcases Yel 64 key.size with hk64 | hk64
 case' inl=>
  have g:((key.size:Int) > 64):=by omega
  go_wp2_with fail
  have hb2:Below w.heap.size w (((w.alloc (.cells Zaj 117)).alloc (.cells Zd8 181)).alloc (.cells #[.string key] 9)):=(((Yct w.heap.size w).alloc lr _).alloc (by first | (simp;done) | (simp;omega) | omega) _).alloc (by first | (simp;done) | (simp;omega) | omega) _;have hT2:Blk (((w.alloc (.cells Zaj 117)).alloc (.cells Zd8 181)).alloc (.cells #[.string key] 9)) (w.heap.size+1+1) #[.string key] 9:=by
   have:=Blk.new ((w.alloc (.cells Zaj 117)).alloc (.cells Zd8 181)) #[.string key] 9
   simpa using this
  have CO:=Zyv (a:=a) (w:=((w.alloc (.cells Zaj 117)).alloc (.cells Zd8 181)).alloc (.cells #[.string key] 9)) (c:=1) (ZW.out.below hb2) (Zgu hT2 hk) (by simp);refine CO.mono ?_;rintro e w2 ⟨rfl,hbw⟩;have hs2:=hbw.size;simp only[Yc4]at hs2;have HB2:=Zaa (hb2.trans (hbw.mono hb2.size));have P2:=(hB1.alloc (.cells #[.string key] 9)).of (hbw.block _ (by first | (simp;done) | (simp;omega) | omega));have R2:=(((Blk.new w Zaj 117).alloc (.cells Zd8 181)).alloc (.cells #[.string key] 9)).of (hbw.block _ (by first | (simp;done) | (simp;omega) | omega));clear CO hb2 hT2 hbw hB1;have hv1:=Zgz [key];have hv2:=Zf3 (ofB [key]);have hv3:=Zkb [key];have HL:=Z6b hk64;unfold Zlk;have hone:=Lib.byteCells_one (ofB [key]);have hlen:(Lib.byteCells (ofB [key])).length=32:=by rw[Lib.byteCells_length,Zbs]
  have hS2:=Blk.new w2 Zaj 117;have hS3:=setRow_heap _ _ _ (Lib.byteCells (ofB [key])).toArray _ _ hS2;have P3:=Blk.of (P2.alloc (.cells Zaj 117)) (setRow_other (w2.alloc (.cells Zaj 117)) w2.heap.size _ (Lib.byteCells (ofB [key])).toArray (by have:=P2.lt;omega));go_wp2_with (first
   | (refine wpList_store_row rfl 117 (.tmp 6) (.tmp 13) rfl w2.heap.size (Lib.byteCells (ofB [key])).toArray rfl rfl 117 Zaj hS2 hv3 (by first | exact hv1 | exact hv1.symm) hv2 ?_))
  simp only[Act.put];go_region_law (refine Zr4 rfl (.tmp 14) (.tmp 15) 76 76 rfl 5 (w.heap.size+1) 64 64 32 (.slice (some ⟨w2.heap.size,0,none⟩) 32 32) (Lib.byteCells (ofB [key])) Zd8 181 Tryz.underlying76 (by kernel_rfl) (by simp[Act.eval,Act.put]) (by simp[Act.eval,Act.put]) P3 (Src.ofSlice _ Tryz.underlying76 ⟨w2.heap.size,0,none⟩ 32 32 (Lib.byteCells (ofB [key])) (by rw[hlen]) (fun j u hj=>by rw[Addr.add_lit,Ydp];exact((Blk.cell hS3 j).trans (by rw[Ydq];exact hj))) hone) (by omega) (by omega) (Lib.byteCells (Zh2 key)).toArray HL ?_)
  obtain⟨W6,hW6⟩: ∃ W,((w2.alloc (.cells Zaj 117)).setRow w2.heap.size (Lib.byteCells (ofB [key])).toArray).drew.setRow (w.heap.size+1) (Lib.byteCells (Zh2 key)).toArray=W:=⟨_,rfl⟩;change Exit.then _ _ _ _ (((w2.alloc (.cells Zaj 117)).setRow w2.heap.size (Lib.byteCells (ofB [key])).toArray).drew.setRow (w.heap.size+1) (Lib.byteCells (Zh2 key)).toArray);have HP:Box (Blk W6 (w.heap.size+1) (Lib.byteCells (Zh2 key)).toArray 181):=⟨by rw[<- hW6];exact setRow_heap _ _ Zd8 _ _ _ P3⟩;have HR:Box (Blk W6 w.heap.size Zaj 117):=⟨by
   rw[<- hW6];exact Blk.of (Blk.of (R2.alloc (.cells Zaj 117)) (setRow_other _ _ _ _ (by have:=R2.lt;omega))) (setRow_other _ _ _ _ (by omega))⟩
  have HBl:Box (Below w.heap.size w W6):=⟨by
   have h3:=HB2.out.alloc (by omega) (.cells Zaj 117);rw[<- hW6];exact⟨h3.os,h3.tape,h3.output,by rw[setRow_size];show _<=(World.setRow _ _ _).heap.size;rw[setRow_size];exact h3.size,fun j hj=>(setRow_other _ _ j _ (by omega)).trans ((setRow_other _ _ j _ (by omega)).trans (h3.block j hj))⟩⟩
  rw[hW6];clear P2 R2 HB2 hs2 hv1 hv2 hv3 HL hone hlen hS2 hS3 P3 hW6;have hB4:=HP.out;go_wp2_with (refine wpList_load_row rfl 181 (.tmp 5) rfl (w.heap.size+1) rfl 181 (Lib.byteCells (Zh2 key)).toArray (0,0) _ hB4 Tryz.underlying181 rfl (Zr8 key) ?_)
  clear hB4
 case' inr=>
  have g: ¬ ((key.size:Int) > 64):=by omega
  have hcp:=Zx7 (P:=Tryz.prog) _ 76 9 3 5 (w.heap.size+1) 64 64 key.size (.string key) _ Zd8 181 Tryz.underlying76 (by kernel_rfl) hB1 (Src.ofString _ Tryz.underlying9 key) hk64 (by omega);rw[Z4h hk64]at hcp;have hB4:=setRow_heap _ _ _ (Lib.byteCells (Zh2 key)).toArray _ _ hB1;go_wp2_with (first
   | (refine Znz _ rfl (.tmp 17) (.tmp 18) _ _ rfl _ _ rfl rfl hcp ?_)
   | (refine wpList_load_row rfl 181 (.tmp 5) rfl (w.heap.size+1) rfl 181 (Lib.byteCells (Zh2 key)).toArray (0,0) _ hB4 Tryz.underlying181 rfl (Zr8 key) ?_))
  obtain⟨W6,hW6⟩: ∃ W,(((w.alloc (Obj.cells Zaj 117)).alloc (Obj.cells Zd8 181)).setRow (w.heap.size+1) (Lib.byteCells (Zh2 key)).toArray)=W:=⟨_,rfl⟩;have HP:Box (Blk W6 (w.heap.size+1) (Lib.byteCells (Zh2 key)).toArray 181):=⟨by rw[<- hW6];exact hB4⟩;have HR:Box (Blk W6 w.heap.size Zaj 117):=⟨by
   rw[<- hW6];exact Blk.of ((Blk.new w Zaj 117).alloc (.cells Zd8 181)) (setRow_other _ _ _ _ (by omega))⟩
  have HBl:Box (Below w.heap.size w W6):=⟨by
   have h3:=((Yct w.heap.size w).alloc lr (.cells Zaj 117)).alloc (by simp) (.cells Zd8 181);rw[<- hW6];exact⟨h3.os,h3.tape,h3.output,by rw[setRow_size];exact h3.size,fun j hj=>(setRow_other _ _ j _ (by omega)).trans (h3.block j hj)⟩⟩
  rw[hW6];clear hW6 hB4 hcp hB1
 all_goals
  have h6:=HP.out.lt;refine(Zqp _ (Zh2 key) 54 W6 (Zde key) (by decide) (by rw[Yc5,Lib.byteCells_length,Zde]) (Z4z key)).mono ?_;rintro e w7 ⟨rfl,hb7⟩;go_wp2_with fail
  have hMs:(Zgi (Zh2 key) 54).length=64:=by unfold Zgi;rw[Yd6,Zde]
  have hM:Box ((⟨(Zgi (Zh2 key) 54).toArray⟩:ByteArray).size < 1000000000):=⟨by simp[ByteArray.size,hMs]⟩;have EM:Box ((⟨(Zgi (Zh2 key) 54).toArray⟩:ByteArray)=⟨(Zgi (Zh2 key) 54).toArray⟩):=⟨rfl⟩;generalize hgM:(⟨(Zgi (Zh2 key) 54).toArray⟩:ByteArray)=M at hM EM⊢;have HgM:=Zaa hgM;clear hgM hMs;have hb8:=((Yct w7.heap.size w7).alloc lr (.cells #[.string M] 9)).alloc (by simp) (.cells #[.slice (some ⟨w7.heap.size,0,none⟩) 1 1,.slice p n c] 29);have B8:Blk ((w7.alloc (.cells #[.string M] 9)).alloc (.cells #[.slice (some ⟨w7.heap.size,0,none⟩) 1 1,.slice p n c] 29)) (w7.heap.size+1) #[.slice (some ⟨w7.heap.size,0,none⟩) 1 1,.slice p n c] 29:=by
   have:=Blk.new (w7.alloc (.cells #[.string M] 9)) #[.slice (some ⟨w7.heap.size,0,none⟩) 1 1,.slice p n c] 29
   simpa using this
  have T1:=(Zgu (((Blk.new w7 #[.string M] 9)).alloc (.cells #[.slice (some ⟨w7.heap.size,0,none⟩) 1 1,.slice p n c] 29)) hM.out).sl (c:=1) (by simp);have HB7:=Zaa (HBl.out.trans (hb7.mono (by omega)));have HT8:=Zaa ((HT.out.below HB7.out).below hb8);have T2:=HT8.out.sl (c:=c) (by rw[hn.out];exact hl);rw[hn.out]at T2;have CC:=Z00 (xs:=[(1,[Value.string M]),(n,ts.map .string)]) (c:=2) (Ycr B8 T1 T2) (by simp) (by simp[Zfv];omega);refine CC.mono ?_;rintro e w9 ⟨nv,rfl,hC⟩;have hb9:=hC.1;obtain⟨p9,c9,rfl,HT9⟩:=Z3y (ts:=M::ts) hC (by simp[Zpu]) (by simp[Zfv,hn.out];omega) (by simp[Zfv];omega) (fun t ht=>by
   rcases Yc1.1 ht with rfl | ht
   ·exact hM.out
   ·obtain⟨i,hi⟩:=List.getElem?_of_mem ht;exact(HT.out i t hi).1)
  have HB9:=Zaa (HB7.out.trans ((hb8.trans (hb9.mono hb8.size)).mono HB7.out.size));have P9:=HP.out.of ((((hb8.trans (hb9.mono hb8.size)).block _ (by have:=hb7.size;omega))).trans (hb7.block _ h6));have R9:=HR.out.of ((((hb8.trans (hb9.mono hb8.size)).block _ (by have:=hb7.size;omega))).trans (hb7.block _ (by omega)));have HP9:=Zaa P9;have HR9:=Zaa R9;clear CC T1 T2 hC B8 hb8 hb9 hb7 P9 R9;have hl9:Box ((M::ts).length=n+1):=⟨by simp[hn.out]⟩;have CO9:=Zaa (Zyv (c:=c9) (ZW.out.below HB9.out) HT9 (by rw[hl9.out];omega));rw[hl9.out]at CO9⊢;have H9:=Zaa HT9;clear HT9;go_wp2_with fail
  refine CO9.out.mono ?_;rintro e w10 ⟨rfl,hb10⟩;have P10:=(HP9.out.of (hb10.block _ HP9.out.lt)).alloc (.cells Zaj 117);have R10:=(HR9.out.of (hb10.block _ HR9.out.lt)).alloc (.cells Zaj 117);have HB10:=Zaa ((HB9.out.trans (hb10.mono HB9.out.size)).alloc (by have:=hb10.size;have:=HB9.out.size;omega) (.cells Zaj 117));have hlt10:w.heap.size+1 < w10.heap.size:=by have:=hb10.size;have:=HP9.out.lt;omega
  clear CO9 hb10 HP9 HR9 HB9 H9 HT8 HB7 HBl HP HR;have hv1:=Zgz (M::ts);have hv2:=Zf3 (ofB (M::ts));have hv3:=Zkb (M::ts);have hvl:=Zbs (M::ts);unfold Zlk;have EI:Box (ofB (M::ts)=ofB (M::ts)):=⟨rfl⟩;obtain⟨I,hI⟩: ∃ I,Box (ofB (M::ts)=I):=⟨_,⟨rfl⟩⟩;rw[hI.out]at hv1 hv2 hv3 hvl⊢;have hS10:=Blk.new w10 Zaj 117;have S11:=setRow_heap _ _ _ (Lib.byteCells I).toArray _ _ hS10;have P11:=P10.of (setRow_other (w10.alloc (.cells Zaj 117)) w10.heap.size _ (Lib.byteCells I).toArray (by omega));have HR11:=Zaa (R10.of (setRow_other (w10.alloc (.cells Zaj 117)) w10.heap.size _ (Lib.byteCells I).toArray (by omega)));have HB11:Box (Below w.heap.size w ((w10.alloc (.cells Zaj 117)).setRow w10.heap.size (Lib.byteCells I).toArray)):=⟨⟨HB10.out.os,HB10.out.tape,HB10.out.output,by rw[setRow_size];exact HB10.out.size,fun j hj=>(setRow_other _ _ j _ (by omega)).trans (HB10.out.block j hj)⟩⟩;go_wp2_with (first
   | (refine wpList_store_row rfl 117 (.tmp 7) (.tmp 26) rfl w10.heap.size (Lib.byteCells I).toArray rfl rfl 117 Zaj hS10 hv3 (by first | exact hv1 | exact hv1.symm) hv2 ?_))
  simp only[Act.put];obtain⟨W,hW⟩: ∃ W,(w10.alloc (.cells Zaj 117)).setRow w10.heap.size (Lib.byteCells I).toArray=W:=⟨_,rfl⟩;change Code.wp _ _ _ _ ((w10.alloc (.cells Zaj 117)).setRow w10.heap.size (Lib.byteCells I).toArray);rw[hW]at P11 HR11 HB11 S11⊢;have hS0:Z90 w (w.heap.size+1) w10.heap.size key I W.drew:=⟨P11,S11,⟨_,HR11.out,rfl⟩,HB11.out.drew⟩;clear hW P10 R10 HB10 hS10 HR11 HB11 P11 S11;generalize w10.heap.size=L at*;refine wp_region_held (S:=Z90 w (w.heap.size+1) L key I) (by kernel_rfl) ?_;change wpAnyH _ _ _ _ _ _ _ _ (World.drew _);refine wpAnyH_take (i:=0) (oi:={dst:=some 27,op:= .load 181 (.tmp 5),type:=181,pos:= "sums.go:53",after:=#[],guard:=none}) (v:= .agg (Lib.byteCells (Zh2 key)).toArray) rfl (by kernel_rfl) (by kernel_rfl) (by kernel_rfl) (fun _ _ _ h=>h) (Zhb rfl 181 (.tmp 5) rfl ⟨w.heap.size+1,0,none⟩ rfl fun u hS=>run_loadVar_row u (w.heap.size+1) 181 181 _ _ _ hS.pad Tryz.underlying181 rfl (Zr8 key)) hS0 ?_;simp only[Act.put];refine tk 2 (.slice (some ⟨L,0,none⟩) 32 32) hS0 (hy:=fun u hS=>by go_simp) (h:=?_);simp only[Act.put];refine wpAnyH_take (i:=3) (oi:={dst:=some 30,op:= .convert 76 9 (.tmp 29),type:=9,pos:= "sums.go:53",after:=#[{on:=2,ground:=Ground.data}],guard:=none}) (v:= .string ⟨I.toArray⟩) rfl (by kernel_rfl) (by kernel_rfl) (by kernel_rfl) (fun _ _ _ h=>h) (Zmi rfl 76 9 (.tmp 29) rfl _ rfl fun u hS=>Zcq hS.inner (fun j hj=>by simp[Lib.byteCells,List.getD,Yc0 hj]) 32 hvl.symm) hS0 ?_;simp only[Act.put];refine wpAnyH_ready (rs:=[1]) (by kernel_rfl) (by simp) (Yc9 rfl (fun K' hK'=>?_) Ydc);go_simp;refine(Zqp _ (Zh2 key) 92 W.drew (Zde key) (by decide) (by rw[Yc5,Lib.byteCells_length,Zde]) (Z4z key)).mono ?_;rintro e w12 ⟨rfl,hb12⟩;have hS1:=hS0.later hb12;refine hK'.out _ _ hS1 fun _=>?_;have hMs:(Zgi (Zh2 key) 92).length=64:=by unfold Zgi;rw[Yd6,Zde]
  have hM2:Box ((⟨(Zgi (Zh2 key) 92).toArray⟩:ByteArray).size < 1000000000):=⟨by simp[ByteArray.size,hMs]⟩;generalize hgM:(⟨(Zgi (Zh2 key) 92).toArray⟩:ByteArray)=M2 at hM2⊢;have HgM2:=Zaa hgM;clear hgM hMs hK' K' hb12;have hIs:Box ((⟨I.toArray⟩:ByteArray).size < 1000000000):=⟨by simp[ByteArray.size,hvl]⟩;generalize hgI:(⟨I.toArray⟩:ByteArray)=J at hIs⊢;have HgI:=Zaa hgI;clear hgI;refine wpAnyH_ready (rs:=[4]) (by kernel_rfl) (by simp) (Yc9 rfl (fun K' hK'=>?_) Ydc);go_simp;have hb13:=(Yct w12.heap.size w12).alloc lr (.cells #[.string M2,.string J] 9);have hS2:=hS1.later hb13;refine hK'.out _ _ hS2 fun _=>?_;have T2:=Z4f (Blk.new w12 #[.string M2,.string J] 9) hM2.out hIs.out;clear hK' K' hb13;have CO:=Zyv (c:=2) (ZW.out.below hS2.below) T2 (by simp);refine wpAnyH_ready (rs:=[5]) (by kernel_rfl) (by simp) (Yc9 rfl (fun K' hK'=>?_) Ydc);go_simp;refine CO.mono ?_;rintro e w14 ⟨rfl,hb14⟩;have hS3:=hS2.later hb14;refine hK'.out _ _ hS3 fun _=>?_;clear hK' K' hb14 CO T2;have hv4:=Zgz [M2,J];have hv5:=Zf3 (ofB [M2,J]);have hv6:=Zkb [M2,J];have HE:Box (ofB [M2,J]=Za1 key ts):=⟨by rw[<- HgM2.out,<- HgI.out,<- hI.out,<- HgM.out];rfl⟩;unfold Zlk;rw[HE.out]at hv4 hv5 hv6⊢;obtain⟨vs,hvs,hs32⟩:=hS3.res;refine wpAnyH_ready (rs:=[6]) (by kernel_rfl) (by simp) (Yc9 rfl (fun K' hK'=>?_) Ydc);refine Zjd rfl 117 (.tmp 4) (.tmp 32) rfl w.heap.size (Lib.byteCells (Za1 key ts)).toArray rfl rfl 117 vs hvs hv6 (by omega) hv5 ?_;have hR:=setRow_heap w14 _ vs (Lib.byteCells (Za1 key ts)).toArray _ _ hvs;have hBB:Below w.heap.size w (w14.setRow w.heap.size (Lib.byteCells (Za1 key ts)).toArray):=⟨hS3.below.os,hS3.below.tape,hS3.below.output,by rw[setRow_size];exact hS3.below.size,fun j hj=>(setRow_other _ _ j _ (by omega)).trans (hS3.below.block j hj)⟩;have hS4:Z90 w (w.heap.size+1) L key I (w14.setRow w.heap.size (Lib.byteCells (Za1 key ts)).toArray):=⟨hS3.pad.of (setRow_other _ _ _ _ (by omega)),hS3.inner.of (setRow_other _ _ _ _ (by omega)),⟨_,hR,hv4⟩,hBB⟩;refine hK'.out _ _ hS4 fun _=>?_;clear hK' K';refine wpAnyH_done (by kernel_rfl) ?_ _;go_wp2_with fail
  refine bodyPost_ret (results_cell_row (p:=4) (ty:=117) rfl _ _ w.heap.size 117 (Lib.byteCells (Za1 key ts)).toArray (0,0) _ rfl hR Tryz.underlying117 rfl hv6) rfl ?_;exact⟨rfl,hBB⟩
end Go.P
namespace Go.W
theorem Zf6 {P:Program}(w:World){ops:Array Oper}{rest:List Oper}{o:Oper}{a:Act}{Q:Exit->Act->World->Prop}(hgd:o.guard=none)(x:Operand)(f t:TypeId)(ho:o.op= .convert f t x)(y:Value)(hx:a.eval x=y){v':Value}{w':World}
  (hr:(convert f t y).run P w= .ok v' w') (h:wpList P ops Q rest (a.put o.dst v') w'):wpList P ops Q (o::rest) a w:=by
 refine wpList_plain hgd fun _ hK=>?_;unfold Oper.wp execOp;simp only[ho,Yek,Sem.run_pure,Yd9,hx,hr];exact hK _ _ h
end Go.W
namespace Go.P
variable {a:Nat->Addr}{w:World}{t:ByteArray}
theorem Zn5 (l:List UInt8)(j:Nat)(h:j < l.length):(Lib.byteCells l).toArray[j]?=some (.int .u8 ((l.getD j 0).toNat:Int)):=by simp[Lib.byteCells,List.getD,Yc0 h]
theorem Zi4 {l:List UInt8}(h:l.length=32):(Tryz.prog.info? 117).map (·.size)=some (Lib.byteCells l).toArray.size:=by rw[Yc5,Lib.byteCells_length,h];kernel_rfl
theorem Z87 (Z:Zap a w)(ht:t.size < 1000000000):Calls Tryz.prog 99 #[.string t] w fun e w'=>e= .returned (.string ⟨(ofB [t]).toArray⟩)/\Below w.heap.size w w':=by
 have ZW:=Zaa Z;clear Z;go_enter Tryz.func99,Tryz.ntmps99
 go_wp2_with fail
 have hb1:=(Yct w.heap.size w).alloc lr (.cells #[.string t] 9);refine(Zyv (c:=1) (ZW.out.below hb1) (Zgu (Blk.new w #[.string t] 9) ht) (by simp)).mono ?_;rintro e w2 ⟨rfl,hb2⟩;have HB:=Zaa ((hb1.trans (hb2.mono hb1.size)).alloc (by have:=hb2.size;simp at this;omega) (.cells Zaj 117));have hlt:w.heap.size < w2.heap.size:=by have:=hb2.size;simp at this;omega
 have hv1:=Zgz [t];have hv2:=Zf3 (ofB [t]);have hv3:=Zkb [t];have hvl:=Zbs [t];clear hb1 hb2;unfold Zlk;obtain⟨I,hI⟩: ∃ I,Box (ofB [t]=I):=⟨_,⟨rfl⟩⟩;rw[hI.out]at hv1 hv2 hv3 hvl⊢;have hS:=Blk.new w2 Zaj 117;have hS2:=setRow_heap _ _ _ (Lib.byteCells I).toArray _ _ hS;have hcv:=Zaa (Zcq (xs:=I) hS2 (fun j hj=>Zn5 I j hj) 32 hvl.symm (cap:=32));go_wp2_with (first
  | (refine wpList_store_row rfl 117 (.tmp 3) (.tmp 6) rfl w2.heap.size (Lib.byteCells I).toArray rfl rfl 117 Zaj hS hv3 (by first | exact hv1 | exact hv1.symm) hv2 ?_)
  | (refine Zf6 _ rfl (.tmp 7) _ _ rfl _ rfl hcv.out ?_))
 go_ret
 exact⟨by rw[hI.out];try rfl,⟨HB.out.os,HB.out.tape,HB.out.output,by rw[setRow_size];exact HB.out.size,fun j hj=>(setRow_other _ _ j _ (by omega)).trans (HB.out.block j hj)⟩⟩
theorem Zuk {tag:List UInt8}(Z:Zap a w)(hl:tag.length=32)(ht:t.size < 1000000000):Calls Tryz.prog 94 #[Zlk tag,.string t] w fun e w'=>e= .returned (Zlk (Za1 ⟨tag.toArray⟩ [t]))/\Below w.heap.size w w':=by
 have ZW:=Zaa Z;clear Z;unfold Zlk;go_enter Tryz.func94,Tryz.ntmps94
 have hT1: ∀ o,Blk ((w.alloc (.cells (Lib.byteCells tag).toArray 117)).alloc o) w.heap.size (Lib.byteCells tag).toArray 117:=fun o=>(Blk.new w _ _).alloc o;have hcv:=Zaa (fun o=>Zcq (xs:=tag) (hT1 o) (fun j hj=>Zn5 tag j hj) 32 hl.symm (cap:=32));have hR1:Blk ((w.alloc (.cells (Lib.byteCells tag).toArray 117)).alloc (.cells Zaj 117)) (w.heap.size+1) Zaj 117:=by
  have:=Blk.new (w.alloc (.cells (Lib.byteCells tag).toArray 117)) Zaj 117
  simpa using this
 go_wp2_with (refine Zf6 _ rfl (.tmp 5) _ _ rfl _ rfl (hcv.out _) ?_)
 have hb1:=(((Yct w.heap.size w).alloc lr (.cells (Lib.byteCells tag).toArray 117)).alloc (by simp) (.cells Zaj 117)).alloc (by first | (simp;done) | (simp;omega)) (.cells #[.string t] 9);have hB2:Blk (((w.alloc (.cells (Lib.byteCells tag).toArray 117)).alloc (.cells Zaj 117)).alloc (.cells #[.string t] 9)) (w.heap.size+1+1) #[.string t] 9:=by
  have:=Blk.new ((w.alloc (.cells (Lib.byteCells tag).toArray 117)).alloc (.cells Zaj 117)) #[.string t] 9
  simpa using this
 refine(Zn3 (key:=⟨tag.toArray⟩) (c:=1) (ZW.out.below hb1) (by simp[ByteArray.size,hl]) (Zgu hB2 ht) (by simp)).mono ?_;rintro e w2 ⟨rfl,hb2⟩;have HB:=Zaa (hb1.trans (hb2.mono hb1.size));have hR2:=(hR1.alloc (.cells #[.string t] 9)).of (hb2.block _ (by first | (simp;done) | (simp;omega)));have hv1:=Zgz [⟨(Zgi (Zh2 ⟨tag.toArray⟩) 92).toArray⟩,⟨(ofB (⟨(Zgi (Zh2 ⟨tag.toArray⟩) 54).toArray⟩::[t])).toArray⟩];have hvl:(Za1 ⟨tag.toArray⟩ [t]).length=32:=Zbs _;clear hv1 hb1 hb2 hB2 hR1 hT1 hcv;unfold Zlk;obtain⟨I,hI⟩: ∃ I,Box (Za1 ⟨tag.toArray⟩ [t]=I):=⟨_,⟨rfl⟩⟩;rw[hI.out]at hvl⊢;have hv1:(Lib.byteCells I).toArray.size=32:=by rw[Yc5,Lib.byteCells_length,hvl]
 have hv3:=Zi4 hvl;go_wp2_with (refine wpList_store_row rfl 117 (.tmp 4) (.tmp 9) rfl (w.heap.size+1) (Lib.byteCells I).toArray rfl rfl 117 Zaj hR2 hv3 (by first | exact hv1 | exact hv1.symm) (Zf3 I) ?_)
 refine bodyPost_ret (results_cell_row (p:=4) (ty:=117) rfl _ _ (w.heap.size+1) 117 (Lib.byteCells I).toArray (0,0) _ rfl (setRow_heap w2 _ Zaj _ _ _ hR2) Tryz.underlying117 rfl hv3) rfl ?_;exact⟨by rw[hI.out];try rfl,⟨HB.out.os,HB.out.tape,HB.out.output,by rw[setRow_size];exact HB.out.size,fun j hj=>(setRow_other _ _ j _ (by omega)).trans (HB.out.block j hj)⟩⟩
end Go.P
namespace Go.W
theorem Zur {n:Nat}{l t r:By}(h:Zfe n l= .ok (t,r)):t.length=n/\r.length<=l.length:=by
 unfold Zfe at h;split at h
 ·cases h
 ·injection h with h;injection h with h1 h2;subst h1;subst h2;simp;omega
end Go.W
namespace Go.P
theorem Z1x (V:Zbe)(CL:Zb5){a:Nat->Addr}{w:World}{b:Nat}{l:By}(Z:Zap a w)(h:Dc w b l):
  Calls Tryz.prog 191 #[.pointer (some ⟨b,0,none⟩)] w (Zeq a b (Zk3 (Zeo Zad 4) w.heap.size) w (Zne l)):=by
 have hb:=h.1.lt;have hgb:=h.2.2;have K0:=Zaa ((Zaf.refl b w).alloc (.cells #[.string ⟨#[]⟩,.slice none 0 0,.slice none 0 0,.slice none 0 0] 114));have L0:=Zaa (Blk.new w #[.string ⟨#[]⟩,.slice none 0 0,.slice none 0 0,.slice none 0 0] 114);have C:=Zaa (Zc1 (Z.keeps K0.out hgb) (h.alloc (.cells #[.string ⟨#[]⟩,.slice none 0 0,.slice none 0 0,.slice none 0 0] 114)));have ZZ:=Zaa Z;have VC:=Zaa (Ycs V CL);clear Z h V CL;go_enter Tryz.func191,Tryz.ntmps191
 go_wp2_with fail
 refine C.out.mono ?_;rintro e w1 ⟨hk1,⟨i,hy,hi,rfl⟩ | ⟨n,r1,v,hy,rfl,⟨rfl,hn⟩,hd1⟩⟩
 ·exact⟨rfl,K0.out.trans hk1,Or.inl ⟨i,De.then_error hy,hi,rfl⟩⟩
 have K1:=Zaa (K0.out.trans hk1);have Y:Box (Zne l=(if 4000 < n then fun _=> .error 4 else(Zfe n).then Zzk) r1):=⟨De.then_ok hy⟩;have L1:=Zaa (L0.out.of (hk1.block w.heap.size (by simp) (by omega)));have hs1:=L1.out.lt;have Z1:=Zaa (ZZ.out.keeps K1.out hgb);have HD1:=Zaa hd1;clear hy hk1 hd1 C L0 K0;by_cases hlt:4000 < n
 ·have Y4:Box (Zne l= .error 4):=⟨by rw[Y.out,if_pos hlt]⟩;have g:(4000:Int) < (n:Int):=by omega
  have z4:=Z1.out.c4;have CR:=Zaa (Zbp a b w1 (n:=4) (by decide));clear Y;go_wp2_with fail
  refine CR.out.mono ?_;rintro e w2 ⟨rfl,rfl⟩;exact⟨rfl,K1.out,Or.inl ⟨4,Y4.out,by decide,rfl⟩⟩
 have g: ¬ (4000:Int) < (n:Int):=by omega
 have Y1:=Zaa (Y.out);rw[if_neg hlt]at Y1;have C2:=Zaa (Zkl Z1.out HD1.out n hn);clear Y;go_wp2_with fail
 refine C2.out.mono ?_;rintro e w2 ⟨hk2,⟨i,hy,hi,rfl⟩ | ⟨t,r2,v,hy,rfl,rfl,hd2⟩⟩
 ·exact⟨rfl,K1.out.trans hk2,Or.inl ⟨i,Y1.out.trans (De.then_error hy),hi,rfl⟩⟩
 have K2:=Zaa (K1.out.trans hk2);have Y2:=Zaa (Y1.out.trans (De.then_ok hy));have L2:=Zaa (L1.out.of (hk2.block w.heap.size hs1 (by omega)));have hs2:=L2.out.lt;have htl:=(Zur hy).1;have Z2:=Zaa (ZZ.out.keeps K2.out hgb);have HD2:=Zaa hd2;have C3:=Zaa (Zq1 VC.out.1 VC.out.2 Z2.out Z2.out.size (l:=t) (by omega));clear hy hk2 hd2 C2 Y1 L1 HD1 Z1 K1;go_wp2_with fail
 refine C3.out.mono ?_;rintro e w3 ⟨hb3,⟨m,hy,hm,rfl⟩ | ⟨x,vs,F,hy,rfl,hQ,hN⟩⟩
 ·have Y3:Box (Zne l= .error m):=⟨Y2.out.trans (Zvo hy _)⟩;have CR:=Zaa (fun u=>Zbp a b u hm);have K3:=Zaa (K2.out.ofBelow hb3);rw[Zah _ hm]at CR⊢;clear Y2 hy hb3 C3;go_wp2_with fail
  refine(CR.out _).mono ?_;rintro e w4 ⟨rfl,rfl⟩;exact⟨rfl,K3.out.alloc _,Or.inl ⟨m,Y3.out,hm,rfl⟩⟩
 ·have Y3:Box (Zne l= .ok ((ba t,x),r2)):=⟨Y2.out.trans (Zxv hy _)⟩;have K3:=Zaa (K2.out.ofBelow hb3);have L3:=Zaa (L2.out.of (hb3.block _ hs2));have HD3:=Zaa (HD2.out.of (hb3.block _ HD2.out.1.lt));have HQ:=Zaa (Ycs hQ hN);obtain⟨p1,c1,p2,c2,p3,c3,rfl⟩:=Zba.vals hQ;have z0:=fun o=>(L3.out.alloc o).four.1;have z1:=fun o=>(L3.out.alloc o).four.2.1;have z2:=fun o=>(L3.out.alloc o).four.2.2.1;have z3:=fun o=>(L3.out.alloc o).four.2.2.2.1;have z4:=fun o=>(L3.out.alloc o).four.2.2.2.2;have hs3:=Zaa L3.out.lt;have hts:Box ((ba t).size < 1000000000):=⟨by rw[Ze7];omega⟩;have hs23:=hb3.size;clear Y2 hy hb3 C3 hQ hN;go_wp2_with fail
  refine bodyPost_ret (by simp[results,Tryz.results191,go_sem,z0,z1,z2,z3];try rfl) rfl ?_;have n1:=HQ.out.2;have st: ∀ j,j≠w.heap.size->j < w3.heap.size-> ∀ o x0 x1 x2 x3,(((((w3.alloc o).setCell ⟨w.heap.size,0,none⟩ x0).setCell ⟨w.heap.size,1,none⟩ x1).setCell ⟨w.heap.size,2,none⟩ x2).setCell ⟨w.heap.size,3,none⟩ x3).heap[j]?=w3.heap[j]?:=fun j hj hl o x0 x1 x2 x3=>(Zcc hj).trans (Ycx _ _ _ hl);have hs3:=hs3.out;exact⟨(K3.out.alloc _).r4 lr,Or.inr ⟨_,r2,_,Y3.out,rfl,⟨_,F,rfl,⟨_,rfl,hts.out,Zba.stable (ty:=Zad) 4 _ _ _ _ _ HQ.out.1 fun j hj=>st j (by have:=n1.ge j hj;omega) (n1.lt j hj) _ _ _ _ _⟩,n1.later (by omega) (by simp)⟩,HD3.out.of (st b (by omega) HD3.out.1.lt _ _ _ _ _)⟩⟩
end Go.P
