import Derived.Test.YtmebjfclpalmaaaGreatDoorW09
import Derived.Test.YtmebjfclpalmaaaGreatDoorW13
import Derived.Deep.RegionHeld
set_option maxRecDepth 100000
set_option maxHeartbeats 8000000
set_option linter.unusedSimpArgs false
open Go.Proofs Go.RowKit Go.W Tryz
namespace Go.W
variable {P:Program}{ops:Array Oper}{o:Oper}{a:Act}{Q:Exit->Act->World->Prop}{w:World}{K:Act->World->Prop}{E:Prop}{S:World->Prop}{v:Value}
theorem Zx3 (w:World)(dT sT ty elem:TypeId)(g dLen dCap m:Nat)(x:Value)(news:List Value)(cur:Array Value)(t:TypeId)(hu:P.underlying dT=some (.slice elem))(hz:(P.info? elem).map (·.size)=some 1)(hg:w.heap[g]?=some (.cells cur t (0,0)))(hs:Src P 1 sT x m news w)(hm:m<=dLen)(hfit:m<=cur.size):
  (Builtin.copy_ #[dT,sT] ty #[.slice (some ⟨g,0,none⟩) dLen dCap,x]).run P w= .ok (goInt m) (w.setRow g (news++cur.toList.drop m).toArray):=by
 have hl:news.length=m:=by have:=hs.newsLen;omega
 have hst:=run_storeCells_at P g 0 t news 0 cur w hg (by rw[hl];simpa using hfit) hs.one;rw[hl]at hst;simp only[Yey,Yd7,List.take_zero,Ydy]at hst;have hmin:Nat.min m dLen=m:=Nat.min_eq_left hm;cases hq:P.info? elem with
 | none=>simp[hq]at hz
 | some i=>
  have h1:i.size=1:=by simpa[hq]using hz
  simp[Builtin.copy_,Yff hu,hs.len,sizeOf,typeInfo,hq,hmin,h1,hs.cells,hst,Result.andThen]
theorem Zo8 (w:World){rest:List Oper}(hgd:o.guard=none)(s x:Operand)(t u:TypeId)
  (ho:o.op= .call {callee:= .builtin .copy,args:=#[s,x],argTypes:=#[t,u]}) (v1 v2:Value) (hs:a.eval s=v1) (hx:a.eval x=v2) {v':Value} {w':World}
  (hr:(Builtin.copy_ #[t,u] o.type #[v1,v2]).run P w= .ok v' w') (h:wpList P ops Q rest (a.put o.dst v') w'):wpList P ops Q (o::rest) a w:=by
 refine wpList_plain hgd fun _ hK=>?_;unfold Oper.wp execOp;simp only[ho,resolve,invoke,builtin,Ye2,Sem.run_pure,Yer,List.map_toArray,List.map_cons,List.map_nil,hs,hx,hr];exact hK _ _ h
theorem Zst (hgd:o.guard=none)(d x:Operand)(dT sT:TypeId)(hop:o.op=Op.call {callee:=Callee.builtin Builtin.copy,args:=#[d,x],argTypes:=#[dT,sT]})
  (elem:TypeId) (g dLen dCap m:Nat) (xv:Value) (news:List Value) (cur:Array Value) (t:TypeId) (hu:P.underlying dT=some (.slice elem)) (hz:(P.info? elem).map (·.size)=some 1) (hd:a.eval d= .slice (some ⟨g,0,none⟩) dLen dCap) (hx:a.eval x=xv) (hg:w.heap[g]?=some (.cells cur t (0,0))) (hs:Src P 1 sT xv m news w) (hm:m<=dLen) (hfit:m<=cur.size) (nv:Array Value) (hnv:(news++cur.toList.drop m).toArray=nv)
  (hK:K (a.put o.dst (goInt m)) (w.setRow g nv)):if Region.wanted o (yielded ops a.tmps)=true then Oper.wp P o a w K Q else E:=by
 have hw:Region.wanted o (yielded ops a.tmps)=true:=by simp[Region.wanted,hgd]
 rw[if_pos hw];have hrun:=Zx3 (P:=P) w dT sT o.type elem g dLen dCap m xv news cur t hu hz hg hs hm hfit;rw[hnv]at hrun;unfold Oper.wp;simp[execOp,hop,resolve,invoke,builtin,hd,hx,hrun,Result.andThen];exact hK
theorem Zfr (hgd:o.guard=none)(ty:TypeId)(x:Operand)(ho:o.op= .load ty x)(g:Addr)(hx:a.eval x= .pointer (some g))(h: ∀ u,S u->(loadVar ty g).run P u= .ok v u):YieldsIf P ops S o v a:=
 Or.inl ⟨by simp[Region.wanted,hgd],fun u hS=>by
  simp only[execOp,ho,hx,Instr.loadAt,Instr.sureAddr,Ye2,Sem.run_pure,Yer,h u hS]⟩
theorem Zm4 (hgd:o.guard=none)(f t:TypeId)(x:Operand)(ho:o.op= .convert f t x)(y:Value)(hx:a.eval x=y)(h: ∀ u,S u->(convert f t y).run P u= .ok v u):YieldsIf P ops S o v a:=
 Or.inl ⟨by simp[Region.wanted,hgd],fun u hS=>by
  simp only[execOp,ho,hx,Ye2,Sem.run_pure,Yer,h u hS]⟩
theorem Zgs (hgd:o.guard=none)(ty:TypeId)(x y:Operand)(ho:o.op= .store ty x y)(g:Nat)(cells:Array Value)(hx:a.eval x= .pointer (some ⟨g,0,none⟩))(hy:a.eval y= .agg cells)(t:TypeId)(old:Array Value)(hg:w.heap[g]?=some (.cells old t (0,0)))(hi:(P.info? ty).map (·.size)=some cells.size)(hold:old.size=cells.size)(h1:cells.all (·.oneCell')=true)(h:K (a.put o.dst undef) (w.setRow g cells)):if Region.wanted o (yielded ops a.tmps)=true then Oper.wp P o a w K Q else E:=by
 rw[if_pos (by simp[Region.wanted,hgd])];exact wp_store_row ty x y ho g cells hx hy t old hg hi hold h1 h
end Go.W
namespace Go.P
variable {key t:ByteArray}{w u:World}{L c b:Nat}{e:TypeId}{p:Option Addr}{ts:List ByteArray}
def Zes:Array Value:=#[.int .u8 0,.int .u8 0,.int .u8 0,.int .u8 0,.int .u8 0,.int .u8 0,.int .u8 0,.int .u8 0,.int .u8 0,.int .u8 0,.int .u8 0,.int .u8 0,.int .u8 0,.int .u8 0,.int .u8 0,.int .u8 0,.int .u8 0,.int .u8 0,.int .u8 0,.int .u8 0,.int .u8 0,.int .u8 0,.int .u8 0,.int .u8 0,.int .u8 0,.int .u8 0,.int .u8 0,.int .u8 0,.int .u8 0,.int .u8 0,.int .u8 0,.int .u8 0,.int .u8 0,.int .u8 0,.int .u8 0,.int .u8 0,.int .u8 0,.int .u8 0,.int .u8 0,.int .u8 0,.int .u8 0,.int .u8 0,.int .u8 0,.int .u8 0,.int .u8 0,.int .u8 0,.int .u8 0,.int .u8 0,.int .u8 0,.int .u8 0,.int .u8 0,.int .u8 0,.int .u8 0,.int .u8 0,.int .u8 0,.int .u8 0,.int .u8 0,.int .u8 0,.int .u8 0,.int .u8 0,.int .u8 0,.int .u8 0,.int .u8 0,.int .u8 0]
theorem Zvf:Zes=(List.replicate 64 (Value.int .u8 0)).toArray:=by kernel_rfl
def Ziw (key:ByteArray):List UInt8:=
 let l:=if 64 < key.size then ofB [key]else key.data.toList
 l++List.replicate (64 - l.length) 0
def Zaj (key:ByteArray) (ts:List ByteArray):List UInt8:=ofB [⟨(Zgo (Ziw key) 92).toArray⟩,⟨(ofB (⟨(Zgo (Ziw key) 54).toArray⟩::ts)).toArray⟩]
theorem Zar (ts:List ByteArray):(ofB ts).length=32:=Znz _ _
theorem Zdn (key:ByteArray):(Ziw key).length=64:=by
 unfold Ziw;by_cases h:64 < key.size
 ·simp[h,Zar]
 ·simp[h];omega
theorem Zhe (ts:List ByteArray):(Lib.byteCells (ofB ts)).toArray.size=32:=by rw[Ydn,Lib.byteCells_length,Zar]
theorem Zeo (l:List UInt8):(Lib.byteCells l).toArray.all (·.oneCell')=true:=by
 rw[List.all_toArray,Ye1];exact Lib.byteCells_one _
theorem Zk1 (ts:List ByteArray):(prog.info? 89).map (·.size)=some (Lib.byteCells (ofB ts)).toArray.size:=by rw[Zhe];kernel_rfl
theorem Zsg (key:ByteArray):(prog.info? 171).map (·.size)=some (Lib.byteCells (Ziw key)).toArray.size:=by rw[Ydn,Lib.byteCells_length,Zdn];kernel_rfl
theorem Zpf (n:Nat):Zes.toList.drop n=List.replicate (64 - n) (.int .u8 0):=by
 rw[Zvf];show(List.replicate 64 (Value.int .u8 0)).drop n=_;rw[List.drop_replicate]
theorem Z36 (h:key.size<=64):(byteCells key++Zes.toList.drop key.size).toArray=(Lib.byteCells (Ziw key)).toArray:=by
 unfold Ziw;rw[if_neg (by omega),Zpf];unfold Lib.byteCells;rw[List.map_append,List.map_replicate];rfl
theorem Z6y (h:64 < key.size):(Lib.byteCells (ofB [key])++Zes.toList.drop 32).toArray=(Lib.byteCells (Ziw key)).toArray:=by
 unfold Ziw;rw[if_pos h,Zpf];unfold Lib.byteCells;rw[List.map_append,List.map_replicate,Zar];rfl
theorem Z35 (key:ByteArray)(k:Nat)(h:k < 64):(Lib.byteCells (Ziw key)).toArray[k]?=some (.int .u8 (((Ziw key).getD k 0).toNat:Int)):=by
 have:k < (Ziw key).length:=by rw[Zdn];exact h
 simp[Lib.byteCells,List.getD,Ydi this]
theorem Zhf (h:Blk w L #[.string t] e)(ht:t.size < 1000000000):Zef w (some ⟨L,0,none⟩) [t]:=by
 intro i x hi;cases i with
 | zero=>
  obtain rfl:t=x:=by simpa using hi
  exact⟨ht,L,0,rfl,h.lt,by rw[h.cell];rfl⟩
 | succ i=>simp at hi
theorem Zef.below (h:Zef w p ts)(hb:Below w.heap.size w u):Zef u p ts:=by
 intro i t hi;obtain⟨h1,b,o,h2,h3,h4⟩:=h i t hi;exact⟨h1,b,o,h2,Ydh h3 hb.size,(hb.cell (p:=⟨b,o+i,none⟩) h3).trans h4⟩
theorem Zef.sl (h:Zef w p ts)(hl:ts.length < 1000000):Zs5 1 w (.slice p ts.length c) ts.length (ts.map .string):=by
 refine⟨p,c,rfl,hl,by simp,fun u hu=>?_,fun a ha j u hj=>?_,fun hp=>?_⟩
 ·obtain⟨t,_,rfl⟩:=List.mem_map.1 hu;rfl
 ·rw[Yd5]at hj;obtain⟨t,ht,rfl⟩:=Yd0.1 hj;obtain⟨_,b,o,h2,h3,h4⟩:=h j t ht;obtain rfl:a=⟨b,o,none⟩:=by rw[ha]at h2;exact Yen h2
  exact⟨h3,by rw[Addr.add_lit];exact h4⟩
 ·cases ts with
  | nil=>rfl
  | cons t ts=>
   obtain⟨_,b,o,h2,_⟩:=h 0 t rfl;rw[hp]at h2;cases h2
theorem Ycz {s:Nat}{v1 v2:Value}{x1 x2:Nat×List Value}(hB:Blk w b #[v1,v2] e)(h1:Zs5 s w v1 x1.1 x1.2)(h2:Zs5 s w v2 x2.1 x2.2): ∀ i x,[x1,x2][i]?=some x->b < w.heap.size/\ ∃ v,w.cell? ⟨b,0+i,none⟩=some v/\Zs5 s w v x.1 x.2:=by
 intro i x hi;refine⟨hB.lt,?_⟩;rw[Yd7];cases i with
 | zero=>obtain rfl:x1=x:=by simpa using hi
         exact⟨v1,by rw[hB.cell];rfl,h1⟩
 | succ i=>cases i with
  | zero=>obtain rfl:x2=x:=by simpa using hi
          exact⟨v2,by rw[hB.cell];rfl,h2⟩
  | succ i=>simp at hi
theorem Z2p {E m:Nat}{W:World}{nv:Value}{done:List Value}(h:Zh8 E 1 W nv done m m u)(hd:done=ts.map .string)(hm:m=ts.length)(h0:0 < m)(ht: ∀ t,t∈ts->t.size < 1000000000): ∃ p' c',nv= .slice p' ts.length c'/\Zef u p' ts:=by
 subst hd;subst hm;obtain⟨_,_,h | ⟨cap,vs,_,rfl,hB,_,htk⟩⟩:=h
 ·omega
 ·refine⟨_,_,rfl,fun i t hi=>⟨ht t (Yeq hi),_,_,rfl,hB.lt,?_⟩⟩;rw[hB.cell,Yd7,<- Yee]
  have:(List.take (List.map Value.string ts).length vs.toList)[i]?=some (.string t):=by rw[htk,Yd5,hi];rfl
  rw[List.getElem?_take]at this;split at this
  ·exact this
  ·cases this
structure Z99 (w:World) (b L:Nat) (key:ByteArray) (I:List UInt8) (u:World):Prop where
 pad:Blk u b (Lib.byteCells (Ziw key)).toArray 171
 inner:Blk u L (Lib.byteCells I).toArray 89
 res: ∃ vs,Blk u w.heap.size vs 89/\vs.size=32
 below:Below w.heap.size w u
theorem Z99.later {v:World}{I:List UInt8}(h:Z99 w b L key I u)(hb:Below u.heap.size u v):Z99 w b L key I v:=by
 obtain⟨vs,hv,hs⟩:=h.res;exact⟨h.pad.of (hb.block _ h.pad.lt),h.inner.of (hb.block _ h.inner.lt),⟨vs,hv.of (hb.block _ hv.lt),hs⟩,h.below.trans (hb.mono h.below.size)⟩
theorem Z5c {s:ByteArray}(h:Blk w L #[.string t,.string s] e)(ht:t.size < 1000000000)(hs:s.size < 1000000000):Zef w (some ⟨L,0,none⟩) [t,s]:=by
 intro i x hi;cases i with
 | zero=>
  obtain rfl:t=x:=by simpa using hi
  exact⟨ht,L,0,rfl,h.lt,by rw[h.cell];rfl⟩
 | succ i=>cases i with
  | zero=>
   obtain rfl:s=x:=by simpa using hi
   exact⟨hs,L,0,rfl,h.lt,by rw[h.cell];rfl⟩
  | succ i=>simp at hi
theorem Zkr {a:Nat->Addr}(Z:Zao a w)(hk:key.size < 1000000000)(hT:Zef w p ts)(hl:ts.length < 1000000):Calls prog 53 #[.string key,.slice p ts.length c] w fun e w'=>e= .returned (Zk0 (Zaj key ts))/\Below w.heap.size w w':=by
 have ZW:=Zaa Z;have HT:=Zaa hT;clear Z hT;obtain⟨n,hn⟩: ∃ n,Box (ts.length=n):=⟨_,⟨rfl⟩⟩;rw[hn.out]at hl⊢;have hB1:Blk ((w.alloc (.cells Zak 89)).alloc (.cells Zes 171)) (w.heap.size+1) Zes 171:=by
  have:=Blk.new (w.alloc (.cells Zak 89)) Zes 171
  simpa using this
 have hs64:Zes.size=64:=by rw[Zvf];simp
 go_in
 rcases Ye3 64 key.size with hk64 | hk64
 case' inl=>
  have g:((key.size:Int) > 64):=by omega
  go_wp2_with fail
  have hb2:Below w.heap.size w (((w.alloc (.cells Zak 89)).alloc (.cells Zes 171)).alloc (.cells #[.string key] 9)):=(((Ydb w.heap.size w).alloc lr _).alloc (by first | (simp;done) | (simp;omega) | omega) _).alloc (by first | (simp;done) | (simp;omega) | omega) _;have hT2:Blk (((w.alloc (.cells Zak 89)).alloc (.cells Zes 171)).alloc (.cells #[.string key] 9)) (w.heap.size+1+1) #[.string key] 9:=by
   have:=Blk.new ((w.alloc (.cells Zak 89)).alloc (.cells Zes 171)) #[.string key] 9
   simpa using this
  have CO:=Zyr (a:=a) (w:=((w.alloc (.cells Zak 89)).alloc (.cells Zes 171)).alloc (.cells #[.string key] 9)) (c:=1) (ZW.out.below hb2) (Zhf hT2 hk) (by simp);refine mq CO ?_;rintro w2 hbw;have hs2:=hbw.size;simp only[Ydm]at hs2;have HB2:=Zaa (hb2.trans (hbw.mono hb2.size));have P2:=(hB1.alloc (.cells #[.string key] 9)).of (hbw.block _ (by first | (simp;done) | (simp;omega) | omega));have R2:=(((Blk.new w Zak 89).alloc (.cells Zes 171)).alloc (.cells #[.string key] 9)).of (hbw.block _ (by first | (simp;done) | (simp;omega) | omega));clear CO hb2 hT2 hbw hB1;have hv1:=Zhe [key];have hv2:=Zeo (ofB [key]);have hv3:=Zk1 [key];have HL:=Z6y hk64;unfold Zk0;have hone:=Lib.byteCells_one (ofB [key]);have hlen:(Lib.byteCells (ofB [key])).length=32:=by rw[Lib.byteCells_length,Zar]
  have hS2:=Blk.new w2 Zak 89;have hS3:=Yfe _ _ _ (Lib.byteCells (ofB [key])).toArray _ _ hS2;have P3:=Blk.of (P2.alloc (.cells Zak 89)) (Ye8 (w2.alloc (.cells Zak 89)) w2.heap.size _ (Lib.byteCells (ofB [key])).toArray (by have:=P2.lt;omega));go_wp2_with (first
   | (refine Yfa rfl 89 (.tmp 6) (.tmp 13) rfl w2.heap.size (Lib.byteCells (ofB [key])).toArray rfl rfl 89 Zak hS2 hv3 (by first | exact hv1 | exact hv1.symm) hv2 ?_))
  simp only[Act.put];go_region_law (refine Zst rfl (.tmp 14) (.tmp 15) 74 74 rfl 5 (w.heap.size+1) 64 64 32 (.slice (some ⟨w2.heap.size,0,none⟩) 32 32) (Lib.byteCells (ofB [key])) Zes 171 underlying74 (by kernel_rfl) (by simp[Act.eval,Act.put]) (by simp[Act.eval,Act.put]) P3 (Src.ofSlice _ underlying74 ⟨w2.heap.size,0,none⟩ 32 32 (Lib.byteCells (ofB [key])) (by rw[hlen]) (fun j u hj=>by rw[Addr.add_lit,Yd7];exact((Blk.cell hS3 j).trans (by rw[Yd8];exact hj))) hone) (by omega) (by omega) (Lib.byteCells (Ziw key)).toArray HL ?_)
  obtain⟨W6,hW6⟩: ∃ W,((w2.alloc (.cells Zak 89)).setRow w2.heap.size (Lib.byteCells (ofB [key])).toArray).drew.setRow (w.heap.size+1) (Lib.byteCells (Ziw key)).toArray=W:=⟨_,rfl⟩;change Exit.then _ _ _ _ (((w2.alloc (.cells Zak 89)).setRow w2.heap.size (Lib.byteCells (ofB [key])).toArray).drew.setRow (w.heap.size+1) (Lib.byteCells (Ziw key)).toArray);have HP:Box (Blk W6 (w.heap.size+1) (Lib.byteCells (Ziw key)).toArray 171):=⟨by rw[<- hW6];exact Yfe _ _ Zes _ _ _ P3⟩;have HR:Box (Blk W6 w.heap.size Zak 89):=⟨by
   rw[<- hW6];exact Blk.of (Blk.of (R2.alloc (.cells Zak 89)) (Ye8 _ _ _ _ (by have:=R2.lt;omega))) (Ye8 _ _ _ _ (by omega))⟩
  have HBl:Box (Below w.heap.size w W6):=⟨by
   have h3:=HB2.out.alloc (by omega) (.cells Zak 89);rw[<- hW6];exact⟨h3.os,h3.tape,h3.output,by rw[Yfd];show _<=(World.setRow _ _ _).heap.size;rw[Yfd];exact h3.size,fun j hj=>(Ye8 _ _ j _ (by omega)).trans ((Ye8 _ _ j _ (by omega)).trans (h3.block j hj))⟩⟩
  rw[hW6];clear P2 R2 HB2 hs2 hv1 hv2 hv3 HL hone hlen hS2 hS3 P3 hW6;have hB4:=HP.out;go_wp2_with (refine Yfh rfl 171 (.tmp 5) rfl (w.heap.size+1) rfl 171 (Lib.byteCells (Ziw key)).toArray (0,0) _ hB4 underlying171 rfl (Zsg key) ?_)
  clear hB4
 case' inr=>
  have g: ¬ ((key.size:Int) > 64):=by omega
  have hcp:=Zx3 (P:=prog) _ 74 9 3 5 (w.heap.size+1) 64 64 key.size (.string key) _ Zes 171 underlying74 (by kernel_rfl) hB1 (Src.ofString _ underlying9 key) hk64 (by omega);rw[Z36 hk64]at hcp;have hB4:=Yfe _ _ _ (Lib.byteCells (Ziw key)).toArray _ _ hB1;go_wp2_with (first
   | (refine Zo8 _ rfl (.tmp 17) (.tmp 18) _ _ rfl _ _ rfl rfl hcp ?_)
   | (refine Yfh rfl 171 (.tmp 5) rfl (w.heap.size+1) rfl 171 (Lib.byteCells (Ziw key)).toArray (0,0) _ hB4 underlying171 rfl (Zsg key) ?_))
  obtain⟨W6,hW6⟩: ∃ W,(((w.alloc (Obj.cells Zak 89)).alloc (Obj.cells Zes 171)).setRow (w.heap.size+1) (Lib.byteCells (Ziw key)).toArray)=W:=⟨_,rfl⟩;have HP:Box (Blk W6 (w.heap.size+1) (Lib.byteCells (Ziw key)).toArray 171):=⟨by rw[<- hW6];exact hB4⟩;have HR:Box (Blk W6 w.heap.size Zak 89):=⟨by
   rw[<- hW6];exact Blk.of ((Blk.new w Zak 89).alloc (.cells Zes 171)) (Ye8 _ _ _ _ (by omega))⟩
  have HBl:Box (Below w.heap.size w W6):=⟨by
   have h3:=((Ydb w.heap.size w).alloc lr (.cells Zak 89)).alloc (by simp) (.cells Zes 171);rw[<- hW6];exact⟨h3.os,h3.tape,h3.output,by rw[Yfd];exact h3.size,fun j hj=>(Ye8 _ _ j _ (by omega)).trans (h3.block j hj)⟩⟩
  rw[hW6];clear hW6 hB4 hcp hB1
 all_goals
  have h6:=HP.out.lt;refine(Zqy _ (Ziw key) 54 W6 (Zdn key) (by decide) (by rw[Ydn,Lib.byteCells_length,Zdn]) (Z35 key)).mono ?_;rintro e w7 ⟨rfl,hb7⟩;go_wp2_with fail
  have hMs:(Zgo (Ziw key) 54).length=64:=by unfold Zgo;rw[Yeo,Zdn]
  have hM:Box ((⟨(Zgo (Ziw key) 54).toArray⟩:ByteArray).size < 1000000000):=⟨by simp[ByteArray.size,hMs]⟩;have EM:Box ((⟨(Zgo (Ziw key) 54).toArray⟩:ByteArray)=⟨(Zgo (Ziw key) 54).toArray⟩):=⟨rfl⟩;generalize hgM:(⟨(Zgo (Ziw key) 54).toArray⟩:ByteArray)=M at hM EM⊢;have HgM:=Zaa hgM;clear hgM hMs;have hb8:=((Ydb w7.heap.size w7).alloc lr (.cells #[.string M] 9)).alloc (by simp) (.cells #[.slice (some ⟨w7.heap.size,0,none⟩) 1 1,.slice p n c] 32);have B8:Blk ((w7.alloc (.cells #[.string M] 9)).alloc (.cells #[.slice (some ⟨w7.heap.size,0,none⟩) 1 1,.slice p n c] 32)) (w7.heap.size+1) #[.slice (some ⟨w7.heap.size,0,none⟩) 1 1,.slice p n c] 32:=by
   have:=Blk.new (w7.alloc (.cells #[.string M] 9)) #[.slice (some ⟨w7.heap.size,0,none⟩) 1 1,.slice p n c] 32
   simpa using this
  have T1:=(Zhf (((Blk.new w7 #[.string M] 9)).alloc (.cells #[.slice (some ⟨w7.heap.size,0,none⟩) 1 1,.slice p n c] 32)) hM.out).sl (c:=1) (by simp);have HB7:=Zaa (HBl.out.trans (hb7.mono (by omega)));have HT8:=Zaa ((HT.out.below HB7.out).below hb8);have T2:=HT8.out.sl (c:=c) (by rw[hn.out];exact hl);rw[hn.out]at T2;have CC:=Zz2 (xs:=[(1,[Value.string M]),(n,ts.map .string)]) (c:=2) (Ycz B8 T1 T2) (by simp) (by simp[Zf6];omega);refine CC.mono ?_;rintro e w9 ⟨nv,rfl,hC⟩;have hb9:=hC.1;obtain⟨p9,c9,rfl,HT9⟩:=Z2p (ts:=M::ts) hC (by simp[Zpu]) (by simp[Zf6,hn.out];omega) (by simp[Zf6];omega) (fun t ht=>by
   rcases Ydj.1 ht with rfl | ht
   ·exact hM.out
   ·obtain⟨i,hi⟩:=List.getElem?_of_mem ht;exact(HT.out i t hi).1)
  have HB9:=Zaa (HB7.out.trans ((hb8.trans (hb9.mono hb8.size)).mono HB7.out.size));have P9:=HP.out.of ((((hb8.trans (hb9.mono hb8.size)).block _ (by have:=hb7.size;omega))).trans (hb7.block _ h6));have R9:=HR.out.of ((((hb8.trans (hb9.mono hb8.size)).block _ (by have:=hb7.size;omega))).trans (hb7.block _ (by omega)));have HP9:=Zaa P9;have HR9:=Zaa R9;clear CC T1 T2 hC B8 hb8 hb9 hb7 P9 R9;have hl9:Box ((M::ts).length=n+1):=⟨by simp[hn.out]⟩;have CO9:=Zaa (Zyr (c:=c9) (ZW.out.below HB9.out) HT9 (by rw[hl9.out];omega));rw[hl9.out]at CO9⊢;have H9:=Zaa HT9;clear HT9;go_wp2_with fail
  refine mq CO9.out ?_;rintro w10 hb10;have P10:=(HP9.out.of (hb10.block _ HP9.out.lt)).alloc (.cells Zak 89);have R10:=(HR9.out.of (hb10.block _ HR9.out.lt)).alloc (.cells Zak 89);have HB10:=Zaa ((tr HB9 hb10).out.alloc (by have:=hb10.size;have:=HB9.out.size;omega) (.cells Zak 89));have hlt10:w.heap.size+1 < w10.heap.size:=by have:=hb10.size;have:=HP9.out.lt;omega
  clear CO9 hb10 HP9 HR9 HB9 H9 HT8 HB7 HBl HP HR;have hv1:=Zhe (M::ts);have hv2:=Zeo (ofB (M::ts));have hv3:=Zk1 (M::ts);have hvl:=Zar (M::ts);unfold Zk0;have EI:Box (ofB (M::ts)=ofB (M::ts)):=⟨rfl⟩;obtain⟨I,hI⟩: ∃ I,Box (ofB (M::ts)=I):=⟨_,⟨rfl⟩⟩;rw[hI.out]at hv1 hv2 hv3 hvl⊢;have hS10:=Blk.new w10 Zak 89;have S11:=Yfe _ _ _ (Lib.byteCells I).toArray _ _ hS10;have P11:=P10.of (Ye8 (w10.alloc (.cells Zak 89)) w10.heap.size _ (Lib.byteCells I).toArray (by omega));have HR11:=Zaa (R10.of (Ye8 (w10.alloc (.cells Zak 89)) w10.heap.size _ (Lib.byteCells I).toArray (by omega)));have HB11:Box (Below w.heap.size w ((w10.alloc (.cells Zak 89)).setRow w10.heap.size (Lib.byteCells I).toArray)):=⟨⟨HB10.out.os,HB10.out.tape,HB10.out.output,by rw[Yfd];exact HB10.out.size,fun j hj=>(Ye8 _ _ j _ (by omega)).trans (HB10.out.block j hj)⟩⟩;go_wp2_with (first
   | (refine Yfa rfl 89 (.tmp 7) (.tmp 26) rfl w10.heap.size (Lib.byteCells I).toArray rfl rfl 89 Zak hS10 hv3 (by first | exact hv1 | exact hv1.symm) hv2 ?_))
  simp only[Act.put];obtain⟨W,hW⟩: ∃ W,(w10.alloc (.cells Zak 89)).setRow w10.heap.size (Lib.byteCells I).toArray=W:=⟨_,rfl⟩;change Code.wp _ _ _ _ ((w10.alloc (.cells Zak 89)).setRow w10.heap.size (Lib.byteCells I).toArray);rw[hW]at P11 HR11 HB11 S11⊢;have hS0:Z99 w (w.heap.size+1) w10.heap.size key I W.drew:=⟨P11,S11,⟨_,HR11.out,rfl⟩,HB11.out.drew⟩;clear hW P10 R10 HB10 hS10 HR11 HB11 P11 S11;generalize w10.heap.size=L at*;refine Yfl (S:=Z99 w (w.heap.size+1) L key I) (by kernel_rfl) ?_;change wpAnyH _ _ _ _ _ _ _ _ (World.drew _);refine wpAnyH_take (i:=0) (oi:={dst:=some 27,op:= .load 171 (.tmp 5),type:=171,pos:= "sums.go:53",after:=#[],guard:=none}) (v:= .agg (Lib.byteCells (Ziw key)).toArray) rfl (by kernel_rfl) (by kernel_rfl) (by kernel_rfl) (fun _ _ _ h=>h) (Zfr rfl 171 (.tmp 5) rfl ⟨w.heap.size+1,0,none⟩ rfl fun u hS=>Yfk u (w.heap.size+1) 171 171 _ _ _ hS.pad underlying171 rfl (Zsg key)) hS0 ?_;simp only[Act.put];refine tk 2 (.slice (some ⟨L,0,none⟩) 32 32) hS0 ?_;simp only[Act.put];refine wpAnyH_take (i:=3) (oi:={dst:=some 30,op:= .convert 74 9 (.tmp 29),type:=9,pos:= "sums.go:53",after:=#[{on:=2,ground:=Ground.data}],guard:=none}) (v:= .string ⟨I.toArray⟩) rfl (by kernel_rfl) (by kernel_rfl) (by kernel_rfl) (fun _ _ _ h=>h) (Zm4 rfl 74 9 (.tmp 29) rfl _ rfl fun u hS=>Za6 hS.inner (fun j hj=>by simp[Lib.byteCells,List.getD,Ydi hj]) 32 hvl.symm) hS0 ?_;simp only[Act.put];refine Yfc (rs:=[1]) (by kernel_rfl) (by simp) (Ydr rfl (fun K' hK'=>?_) Ydu);go_simp;refine(Zqy _ (Ziw key) 92 W.drew (Zdn key) (by decide) (by rw[Ydn,Lib.byteCells_length,Zdn]) (Z35 key)).mono ?_;rintro e w12 ⟨rfl,hb12⟩;have hS1:=hS0.later hb12;refine hK'.out _ _ hS1 fun _=>?_;have hMs:(Zgo (Ziw key) 92).length=64:=by unfold Zgo;rw[Yeo,Zdn]
  have hM2:Box ((⟨(Zgo (Ziw key) 92).toArray⟩:ByteArray).size < 1000000000):=⟨by simp[ByteArray.size,hMs]⟩;generalize hgM:(⟨(Zgo (Ziw key) 92).toArray⟩:ByteArray)=M2 at hM2⊢;have HgM2:=Zaa hgM;clear hgM hMs hK' K' hb12;have hIs:Box ((⟨I.toArray⟩:ByteArray).size < 1000000000):=⟨by simp[ByteArray.size,hvl]⟩;generalize hgI:(⟨I.toArray⟩:ByteArray)=J at hIs⊢;have HgI:=Zaa hgI;clear hgI;refine Yfc (rs:=[4]) (by kernel_rfl) (by simp) (Ydr rfl (fun K' hK'=>?_) Ydu);go_simp;have hb13:=(Ydb w12.heap.size w12).alloc lr (.cells #[.string M2,.string J] 9);have hS2:=hS1.later hb13;refine hK'.out _ _ hS2 fun _=>?_;have T2:=Z5c (Blk.new w12 #[.string M2,.string J] 9) hM2.out hIs.out;clear hK' K' hb13;have CO:=Zyr (c:=2) (ZW.out.below hS2.below) T2 (by simp);refine Yfc (rs:=[5]) (by kernel_rfl) (by simp) (Ydr rfl (fun K' hK'=>?_) Ydu);go_simp;refine mq CO ?_;rintro w14 hb14;have hS3:=hS2.later hb14;refine hK'.out _ _ hS3 fun _=>?_;clear hK' K' hb14 CO T2;have hv4:=Zhe [M2,J];have hv5:=Zeo (ofB [M2,J]);have hv6:=Zk1 [M2,J];have HE:Box (ofB [M2,J]=Zaj key ts):=⟨by rw[<- HgM2.out,<- HgI.out,<- hI.out,<- HgM.out];rfl⟩;unfold Zk0;rw[HE.out]at hv4 hv5 hv6⊢;obtain⟨vs,hvs,hs32⟩:=hS3.res;refine Yfc (rs:=[6]) (by kernel_rfl) (by simp) (Ydr rfl (fun K' hK'=>?_) Ydu);refine Zgs rfl 89 (.tmp 4) (.tmp 32) rfl w.heap.size (Lib.byteCells (Zaj key ts)).toArray rfl rfl 89 vs hvs hv6 (by omega) hv5 ?_;have hR:=Yfe w14 _ vs (Lib.byteCells (Zaj key ts)).toArray _ _ hvs;have hBB:Below w.heap.size w (w14.setRow w.heap.size (Lib.byteCells (Zaj key ts)).toArray):=⟨hS3.below.os,hS3.below.tape,hS3.below.output,by rw[Yfd];exact hS3.below.size,fun j hj=>(Ye8 _ _ j _ (by omega)).trans (hS3.below.block j hj)⟩;have hS4:Z99 w (w.heap.size+1) L key I (w14.setRow w.heap.size (Lib.byteCells (Zaj key ts)).toArray):=⟨hS3.pad.of (Ye8 _ _ _ _ (by omega)),hS3.inner.of (Ye8 _ _ _ _ (by omega)),⟨_,hR,hv4⟩,hBB⟩;refine hK'.out _ _ hS4 fun _=>?_;clear hK' K';refine Yfi (by kernel_rfl) ?_ _;go_wp2
  refine Ye6 (results_cell_row (p:=4) (ty:=89) rfl _ _ w.heap.size 89 (Lib.byteCells (Zaj key ts)).toArray (0,0) _ rfl hR underlying89 rfl hv6) rfl ?_;exact⟨rfl,hBB⟩
end Go.P
namespace Go.W
theorem Zer {P:Program}(w:World){ops:Array Oper}{rest:List Oper}{o:Oper}{a:Act}{Q:Exit->Act->World->Prop}(hgd:o.guard=none)(x:Operand)(f t:TypeId)(ho:o.op= .convert f t x)(y:Value)(hx:a.eval x=y){v':Value}{w':World}
  (hr:(convert f t y).run P w= .ok v' w') (h:wpList P ops Q rest (a.put o.dst v') w'):wpList P ops Q (o::rest) a w:=by
 refine wpList_plain hgd fun _ hK=>?_;unfold Oper.wp execOp;simp only[ho,Ye2,Sem.run_pure,Yer,hx,hr];exact hK _ _ h
end Go.W
namespace Go.P
variable {a:Nat->Addr}{w:World}{t:ByteArray}
theorem Zki (l:List UInt8)(j:Nat)(h:j < l.length):(Lib.byteCells l).toArray[j]?=some (.int .u8 ((l.getD j 0).toNat:Int)):=by simp[Lib.byteCells,List.getD,Ydi h]
theorem Zep {l:List UInt8}(h:l.length=32):(prog.info? 89).map (·.size)=some (Lib.byteCells l).toArray.size:=by rw[Ydn,Lib.byteCells_length,h];kernel_rfl
theorem Z43 (Z:Zao a w)(ht:t.size < 1000000000):Calls prog 29 #[.string t] w fun e w'=>e= .returned (.string ⟨(ofB [t]).toArray⟩)/\Below w.heap.size w w':=by
 have ZW:=Zaa Z;clear Z;go_in
 go_wp2_with fail
 have hb1:=(Ydb w.heap.size w).alloc lr (.cells #[.string t] 9);refine(Zyr (c:=1) (ZW.out.below hb1) (Zhf (Blk.new w #[.string t] 9) ht) (by simp)).mono ?_;rintro e w2 ⟨rfl,hb2⟩;have HB:=Zaa ((hb1.trans (hb2.mono hb1.size)).alloc (by have:=hb2.size;simp at this;omega) (.cells Zak 89));have hlt:w.heap.size < w2.heap.size:=by have:=hb2.size;simp at this;omega
 have hv1:=Zhe [t];have hv2:=Zeo (ofB [t]);have hv3:=Zk1 [t];have hvl:=Zar [t];clear hb1 hb2;unfold Zk0;obtain⟨I,hI⟩: ∃ I,Box (ofB [t]=I):=⟨_,⟨rfl⟩⟩;rw[hI.out]at hv1 hv2 hv3 hvl⊢;have hS:=Blk.new w2 Zak 89;have hS2:=Yfe _ _ _ (Lib.byteCells I).toArray _ _ hS;have hcv:=Zaa (Za6 (xs:=I) hS2 (fun j hj=>Zki I j hj) 32 hvl.symm (cap:=32));go_wp2_with (first
  | (refine Yfa rfl 89 (.tmp 3) (.tmp 6) rfl w2.heap.size (Lib.byteCells I).toArray rfl rfl 89 Zak hS hv3 (by first | exact hv1 | exact hv1.symm) hv2 ?_)
  | (refine Zer _ rfl (.tmp 7) _ _ rfl _ rfl hcv.out ?_))
 go_ret
 exact⟨by rw[hI.out];try rfl,⟨HB.out.os,HB.out.tape,HB.out.output,by rw[Yfd];exact HB.out.size,fun j hj=>(Ye8 _ _ j _ (by omega)).trans (HB.out.block j hj)⟩⟩
theorem Zkg {tag:List UInt8}(Z:Zao a w)(hl:tag.length=32)(ht:t.size < 1000000000):Calls prog 58 #[Zk0 tag,.string t] w fun e w'=>e= .returned (Zk0 (Zaj ⟨tag.toArray⟩ [t]))/\Below w.heap.size w w':=by
 have ZW:=Zaa Z;clear Z;unfold Zk0;go_in
 have hT1: ∀ o,Blk ((w.alloc (.cells (Lib.byteCells tag).toArray 89)).alloc o) w.heap.size (Lib.byteCells tag).toArray 89:=fun o=>(Blk.new w _ _).alloc o;have hcv:=Zaa (fun o=>Za6 (xs:=tag) (hT1 o) (fun j hj=>Zki tag j hj) 32 hl.symm (cap:=32));have hR1:Blk ((w.alloc (.cells (Lib.byteCells tag).toArray 89)).alloc (.cells Zak 89)) (w.heap.size+1) Zak 89:=by
  have:=Blk.new (w.alloc (.cells (Lib.byteCells tag).toArray 89)) Zak 89
  simpa using this
 go_wp2_with (refine Zer _ rfl (.tmp 5) _ _ rfl _ rfl (hcv.out _) ?_)
 have hb1:=(((Ydb w.heap.size w).alloc lr (.cells (Lib.byteCells tag).toArray 89)).alloc (by simp) (.cells Zak 89)).alloc (by first | (simp;done) | (simp;omega)) (.cells #[.string t] 9);have hB2:Blk (((w.alloc (.cells (Lib.byteCells tag).toArray 89)).alloc (.cells Zak 89)).alloc (.cells #[.string t] 9)) (w.heap.size+1+1) #[.string t] 9:=by
  have:=Blk.new ((w.alloc (.cells (Lib.byteCells tag).toArray 89)).alloc (.cells Zak 89)) #[.string t] 9
  simpa using this
 refine(Zkr (key:=⟨tag.toArray⟩) (c:=1) (ZW.out.below hb1) (by simp[ByteArray.size,hl]) (Zhf hB2 ht) (by simp)).mono ?_;rintro e w2 ⟨rfl,hb2⟩;have HB:=Zaa (hb1.trans (hb2.mono hb1.size));have hR2:=(hR1.alloc (.cells #[.string t] 9)).of (hb2.block _ (by first | (simp;done) | (simp;omega)));have hv1:=Zhe [⟨(Zgo (Ziw ⟨tag.toArray⟩) 92).toArray⟩,⟨(ofB (⟨(Zgo (Ziw ⟨tag.toArray⟩) 54).toArray⟩::[t])).toArray⟩];have hvl:(Zaj ⟨tag.toArray⟩ [t]).length=32:=Zar _;clear hv1 hb1 hb2 hB2 hR1 hT1 hcv;unfold Zk0;obtain⟨I,hI⟩: ∃ I,Box (Zaj ⟨tag.toArray⟩ [t]=I):=⟨_,⟨rfl⟩⟩;rw[hI.out]at hvl⊢;have hv1:(Lib.byteCells I).toArray.size=32:=by rw[Ydn,Lib.byteCells_length,hvl]
 have hv3:=Zep hvl;go_wp2_with (refine Yfa rfl 89 (.tmp 4) (.tmp 9) rfl (w.heap.size+1) (Lib.byteCells I).toArray rfl rfl 89 Zak hR2 hv3 (by first | exact hv1 | exact hv1.symm) (Zeo I) ?_)
 refine Ye6 (results_cell_row (p:=4) (ty:=89) rfl _ _ (w.heap.size+1) 89 (Lib.byteCells I).toArray (0,0) _ rfl (Yfe w2 _ Zak _ _ _ hR2) underlying89 rfl hv3) rfl ?_;exact⟨by rw[hI.out];try rfl,⟨HB.out.os,HB.out.tape,HB.out.output,by rw[Yfd];exact HB.out.size,fun j hj=>(Ye8 _ _ j _ (by omega)).trans (HB.out.block j hj)⟩⟩
end Go.P
namespace Go.W
theorem Zu6 {n:Nat}{l t r:By}(h:Zfp n l= .ok (t,r)):t.length=n/\r.length<=l.length:=by
 unfold Zfp at h;split at h
 ·cases h
 ·injection h with h;injection h with h1 h2;subst h1;subst h2;simp;omega
end Go.W
namespace Go.P
theorem Z2w (V:Zav)(CL:Zbh){a:Nat->Addr}{w:World}{b:Nat}{l:By}(Z:Zao a w)(h:Dc w b l):
  Calls prog 114 #[.pointer (some ⟨b,0,none⟩)] w (Zev a b (Zlh (Zex Zad 4) w.heap.size) w (Zks l)):=by
 have hb:=h.1.lt;have hgb:=h.2.2;have K0:=Zaa ((Zah.refl b w).alloc (.cells #[.string ⟨#[]⟩,.slice none 0 0,.slice none 0 0,.slice none 0 0] 108));have L0:=Zaa (Blk.new w #[.string ⟨#[]⟩,.slice none 0 0,.slice none 0 0,.slice none 0 0] 108);have C:=Zaa (Zc5 (Z.keeps K0.out hgb) (h.alloc (.cells #[.string ⟨#[]⟩,.slice none 0 0,.slice none 0 0,.slice none 0 0] 108)));have ZZ:=Zaa Z;have VC:=Zaa (Yda V CL);clear Z h V CL;go_in
 go_wp2_with fail
 refine C.out.mono ?_;rintro e w1 ⟨hk1,⟨i,hy,hi,rfl⟩ | ⟨n,r1,v,hy,rfl,⟨rfl,hn⟩,hd1⟩⟩
 ·exact⟨rfl,K0.out.trans hk1,Or.inl ⟨i,De.then_error hy,hi,rfl⟩⟩
 have K1:=Zaa (K0.out.trans hk1);have Y:Box (Zks l=(if 4000 < n then fun _=> .error 4 else(Zfp n).then Zp1) r1):=⟨De.then_ok hy⟩;have L1:=Zaa (L0.out.of (hk1.block w.heap.size (by simp) (by omega)));have hs1:=L1.out.lt;have Z1:=Zaa (ZZ.out.keeps K1.out hgb);have HD1:=Zaa hd1;clear hy hk1 hd1 C L0 K0;by_cases hlt:4000 < n
 ·have Y4:Box (Zks l= .error 4):=⟨by rw[Y.out,if_pos hlt]⟩;have g:(4000:Int) < (n:Int):=by omega
  have z4:=Z1.out.c4;have CR:=Zaa (Zbp a b w1 (n:=4) (by decide));clear Y;go_wp2_with fail
  refine mq CR.out ?_;rintro w2 rfl;exact⟨rfl,K1.out,Or.inl ⟨4,Y4.out,by decide,rfl⟩⟩
 have g: ¬ (4000:Int) < (n:Int):=by omega
 have Y1:=Zaa (Y.out);rw[if_neg hlt]at Y1;have C2:=Zaa (Zk7 Z1.out HD1.out n hn);clear Y;go_wp2_with fail
 refine C2.out.mono ?_;rintro e w2 ⟨hk2,⟨i,hy,hi,rfl⟩ | ⟨t,r2,v,hy,rfl,rfl,hd2⟩⟩
 ·exact⟨rfl,K1.out.trans hk2,Or.inl ⟨i,Y1.out.trans (De.then_error hy),hi,rfl⟩⟩
 have K2:=Zaa (K1.out.trans hk2);have Y2:=Zaa (Y1.out.trans (De.then_ok hy));have L2:=Zaa (L1.out.of (hk2.block w.heap.size hs1 (by omega)));have hs2:=L2.out.lt;have htl:=(Zu6 hy).1;have Z2:=Zaa (ZZ.out.keeps K2.out hgb);have HD2:=Zaa hd2;have C3:=Zaa (Zz8 VC.out.1 VC.out.2 Z2.out Z2.out.size (l:=t) (by omega));clear hy hk2 hd2 C2 Y1 L1 HD1 Z1 K1;go_wp2_with fail
 refine C3.out.mono ?_;rintro e w3 ⟨hb3,⟨m,hy,hm,rfl⟩ | ⟨x,vs,F,hy,rfl,hQ,hN⟩⟩
 ·have Y3:Box (Zks l= .error m):=⟨Y2.out.trans (Zwm hy _)⟩;have CR:=Zaa (fun u=>Zbp a b u hm);have K3:=Zaa (K2.out.ofBelow hb3);rw[Zaf _ hm]at CR⊢;clear Y2 hy hb3 C3;go_wp2_with fail
  refine(CR.out _).mono ?_;rintro e w4 ⟨rfl,rfl⟩;exact⟨rfl,K3.out.alloc _,Or.inl ⟨m,Y3.out,hm,rfl⟩⟩
 ·have Y3:Box (Zks l= .ok ((ba t,x),r2)):=⟨Y2.out.trans (Zyk hy _)⟩;have K3:=Zaa (K2.out.ofBelow hb3);have L3:=Zaa (L2.out.of (hb3.block _ hs2));have HD3:=Zaa (HD2.out.of (hb3.block _ HD2.out.1.lt));have HQ:=Zaa (Yda hQ hN);obtain⟨p1,c1,p2,c2,p3,c3,rfl⟩:=Zbj.vals hQ;have z0:=fun o=>(L3.out.alloc o).four.1;have z1:=fun o=>(L3.out.alloc o).four.2.1;have z2:=fun o=>(L3.out.alloc o).four.2.2.1;have z3:=fun o=>(L3.out.alloc o).four.2.2.2.1;have z4:=fun o=>(L3.out.alloc o).four.2.2.2.2;have hs3:=Zaa L3.out.lt;have hts:Box ((ba t).size < 1000000000):=⟨by rw[Zcx];omega⟩;have hs23:=hb3.size;clear Y2 hy hb3 C3 hQ hN;go_wp2
  refine Ye6 (by simp[results,results114,go_sem,z0,z1,z2,z3];try rfl) rfl ?_;have n1:=HQ.out.2;have st: ∀ j,j≠w.heap.size->j < w3.heap.size-> ∀ o x0 x1 x2 x3,(((((w3.alloc o).setCell ⟨w.heap.size,0,none⟩ x0).setCell ⟨w.heap.size,1,none⟩ x1).setCell ⟨w.heap.size,2,none⟩ x2).setCell ⟨w.heap.size,3,none⟩ x3).heap[j]?=w3.heap[j]?:=fun j hj hl o x0 x1 x2 x3=>(Zch hj).trans (Ydf _ _ _ hl);have hs3:=hs3.out;exact⟨(K3.out.alloc _).r4 lr,Or.inr ⟨_,r2,_,Y3.out,rfl,⟨_,F,rfl,⟨_,rfl,hts.out,Zbj.stable (ty:=Zad) 4 _ _ _ _ _ HQ.out.1 fun j hj=>st j (by have:=n1.ge j hj;omega) (n1.lt j hj) _ _ _ _ _⟩,n1.later (by omega) (by simp)⟩,HD3.out.of (st b (by omega) HD3.out.1.lt _ _ _ _ _)⟩⟩
end Go.P
