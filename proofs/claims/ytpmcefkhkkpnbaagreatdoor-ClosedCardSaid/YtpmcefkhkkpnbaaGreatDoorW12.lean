import Derived.Test.YtpmcefkhkkpnbaaGreatDoorW10
import Derived.Test.YtpmcefkhkkpnbaaGreatDoorW11
import Derived.Deep.RegionHeld
set_option linter.all false
set_option maxRecDepth 100000
set_option maxHeartbeats 8000000
open Go.Proofs Go.RowKit Go.W Tryz
namespace Go.W
theorem tk {P:Program}{md:Region.Mode}{ops:Array Oper}{Q:Exit→Act→World→Prop}{S:World→Prop}(i:Nat)(v:Value){oi:Oper}{fuel:Nat}{listed:Array Bool}{a:Act}{w:World}(hS:S w)(h:wpAnyH P md ops Q S fuel (listed.setIfInBounds i true) (a.put oi.dst v) w)(hi:ops[i]?=some oi:=by rfl)(hs:Region.noSelect ops=true:=by kernel_rfl)(hf:Region.free md ops listed i=true:=by kernel_rfl)(hr:(Region.ready md ops listed).contains i=true:=by kernel_rfl)(hQ: ∀ c a w,Q (.panic c) (a.put oi.dst v) w→Q (.panic c) a w:=by exact fun _ _ _ h=>h)(hw:Region.wanted oi (yielded ops a.tmps)=true:=by rfl)(hy: ∀ u,S u→(execOp a.eval oi).run P u= .ok (.value v) u:=by intro _ _;go_simp):wpAnyH P md ops Q S (fuel+1) listed a w:=
 wpAnyH_take hi hs hf hr hQ (Or.inl ⟨hw,hy⟩) hS h
variable {P:Program}{ops:Array Oper}{o:Oper}{a:Act}{Q:Exit->Act->Bb->Prop}{w:Bb}{K:Act->Bb->Prop}{E:Prop}{S:Bb->Prop}{v:Value}
def Z2g (w:Bb)(dT sT ty elem:TypeId)(g IJ Ob m:Nat)(x:Value)(news:Bu)(cur:Ca)(t:TypeId)(hu:P.underlying dT=some (.slice elem))(hz:(P.info? elem).map (·.size)=some 1)(hg:w.heap[g]?=some (.cells cur t (0,0)))(hs:Src P 1 sT x m news w)(hm:m<=IJ)(Fj:m<=cur.size):
  (Builtin.copy_ #[dT,sT] ty #[sP (Qb g 0) IJ Ob,x]).run P w= .ok (goInt m) (w.setRow g (news++cur.toList.drop m).toArray):=by
 have hl:news.length=m:=fw (hs.newsLen)
 have hst:=run_storeCells_at P g 0 t news 0 cur w hg (by rw[hl];simpa using Fj) hs.one;rw[hl]at hst;simp only[Qs,Gx,List.take_zero,JU]at hst;have zF:Nat.min m IJ=m:=Nat.min_eq_left hm;cases hq:P.info? elem with
 | none=>simp[hq]at hz
 | some i=>
  have h1:i.size=1:=by simpa[hq]using hz
  simp[Builtin.copy_,J5 hu,hs.len,sizeOf,typeInfo,hq,zF,h1,hs.cells,hst,Result.andThen]
def Zr5 (w:Bb){rest:List Oper}(hgd:o.guard=none)(s x:Operand)(t u:TypeId)
  (ho:o.op= .call {callee:= .builtin .copy,args:=#[s,x],argTypes:=#[t,u]}) (v1 v2:Value) (hs:a.eval s=v1) (hx:a.eval x=v2) {v':Value} {w':Bb}
  (hr:(Builtin.copy_ #[t,u] o.type #[v1,v2]).run P w= .ok v' w') (h:wpList P ops Q rest (a.put o.dst v') w'):wpList P ops Q (o::rest) a w:=by
 refine wpList_plain hgd fun _ hK=>?_;unfold Oper.wp execOp;simp only[ho,resolve,invoke,builtin,Uz,Sem.run_pure,Vs,List.map_toArray,xp,List.map_nil,hs,hx,hr];exact hK _ _ h
def Zwc (hgd:o.guard=none)(d x:Operand)(dT sT:TypeId)(hop:o.op=Op.call {callee:=Callee.builtin Builtin.copy,args:=#[d,x],argTypes:=#[dT,sT]})
  (elem:TypeId) (g IJ Ob m:Nat) (xv:Value) (news:Bu) (cur:Ca) (t:TypeId) (hu:P.underlying dT=some (.slice elem)) (hz:(P.info? elem).map (·.size)=some 1) (hd:a.eval d= sP (Qb g 0) IJ Ob) (hx:a.eval x=xv) (hg:w.heap[g]?=some (.cells cur t (0,0))) (hs:Src P 1 sT xv m news w) (hm:m<=IJ) (Fj:m<=cur.size) (nv:Ca) (RH:(news++cur.toList.drop m).toArray=nv)
  (hK:K (a.put o.dst<|goInt m) (w.setRow g nv)):if Region.wanted o (yielded ops a.tmps)=true then Oper.wp P o a w K Q else E:=by
 have hw:Region.wanted o (yielded ops a.tmps)=true:=by simp[Region.wanted,hgd]
 rw[xj hw];have hrun:=Z2g (P:=P) w dT sT o.type elem g IJ Ob m xv news cur t hu hz hg hs hm Fj;rw[RH]at hrun;unfold Oper.wp;simp[execOp,hop,resolve,invoke,builtin,hd,hx,hrun,Result.andThen];exact hK
def wP (hgd:o.guard=none)(ty:TypeId)(x:Operand)(ho:o.op= .load ty x)(g:Addr)(hx:a.eval x= .pointer (some g))(h: ∀ u,S u->(loadVar ty g).run P u= .ok v u):YieldsIf P ops S o v a:=
 Or.inl ⟨by simp[Region.wanted,hgd],fun u hS=>by
  simp only[execOp,ho,hx,Instr.loadAt,Instr.sureAddr,Uz,Sem.run_pure,Vs,h u hS]⟩
def Zpf (hgd:o.guard=none)(f t:TypeId)(x:Operand)(ho:o.op= .convert f t x)(y:Value)(hx:a.eval x=y)(h: ∀ u,S u->(convert f t y).run P u= .ok v u):YieldsIf P ops S o v a:=
 Or.inl ⟨by simp[Region.wanted,hgd],fun u hS=>by
  simp only[execOp,ho,hx,Uz,Sem.run_pure,Vs,h u hS]⟩
def Zhl (hgd:o.guard=none)(ty:TypeId)(x y:Operand)(ho:o.op= .store ty x y)(g:Nat)(cells:Ca)(hx:a.eval x= zq g 0)(hy:a.eval y= .agg cells)(t:TypeId)(old:Ca)(hg:w.heap[g]?=some (.cells old t (0,0)))(hi:(P.info? ty).map (·.size)=some cells.size)(hold:old.size=cells.size)(h1:cells.all (·.oneCell')=true)(h:K (a.put o.dst undef) (w.setRow g cells)):if Region.wanted o (yielded ops a.tmps)=true then Oper.wp P o a w K Q else E:=by
 rw[xj (by simp[Region.wanted,hgd])];exact wp_store_row ty x y ho g cells hx hy t old hg hi hold h1 h
variable {key t:Ay}{u:Bb}{L c b:Nat}{e:TypeId}{p:Bp}{ts:List Ay}
def Og:Ca:=#[yS 0,yS 0,yS 0,yS 0,yS 0,yS 0,yS 0,yS 0,yS 0,yS 0,yS 0,yS 0,yS 0,yS 0,yS 0,yS 0,yS 0,yS 0,yS 0,yS 0,yS 0,yS 0,yS 0,yS 0,yS 0,yS 0,yS 0,yS 0,yS 0,yS 0,yS 0,yS 0,yS 0,yS 0,yS 0,yS 0,yS 0,yS 0,yS 0,yS 0,yS 0,yS 0,yS 0,yS 0,yS 0,yS 0,yS 0,yS 0,yS 0,yS 0,yS 0,yS 0,yS 0,yS 0,yS 0,yS 0,yS 0,yS 0,yS 0,yS 0,yS 0,yS 0,yS 0,yS 0]
def Zzg:Og=(List.replicate 64<|Value.int .u8 0).toArray:=zt
def Fz (key:Ay):List UInt8:=
 let l:=if 64<key.size then Ez [key]else key.data.toList
 l++List.replicate (64-l.length) 0
def Bt (key:Ay) (ts:List Ay):List UInt8:=Ez [⟨(MP (Fz key) 92).toArray⟩,⟨(Ez<|⟨(MP (Fz key) 54).toArray⟩::ts).toArray⟩]
def KZ (ts:List Ay):(Ez ts).length=32:=Zql _ _
def bO (key:Ay):(Fz key).length=64:=by
 unfold Fz;by_cases h:64<key.size
 .simp[h,KZ]
 .simp[h];omega
def jm (ts:List Ay):(Lib.byteCells<|Ez ts).toArray.size=32:=by rw[GN,xl,KZ]
def ZV (l:List UInt8):(Lib.byteCells l).toArray.all (·.oneCell')=true:=by
 rw[List.all_toArray,SI];exact Lib.byteCells_one _
def vK (ts:List Ay):(prog.info? 115).map (·.size)=some (Lib.byteCells<|Ez ts).toArray.size:=by rw[jm];kernel_rfl
def Zvy (key:Ay):(prog.info? 193).map (·.size)=some (Lib.byteCells<|Fz key).toArray.size:=by rw[GN,xl,bO];kernel_rfl
def Zsc (n:Nat):Og.toList.drop n=List.replicate (64-n) (yS 0):=by
 rw[Zzg];show(List.replicate 64<|Value.int .u8 0).drop n=_;rw[List.drop_replicate]
def Z94 (h:key.size<=64):(byteCells key++Og.toList.drop key.size).toArray=(Lib.byteCells<|Fz key).toArray:=by
 unfold Fz;rw[xd zx,Zsc];unfold Lib.byteCells;rw[wb,List.map_replicate];rfl
def Yc6 (h:64<key.size):(Lib.byteCells (Ez [key])++Og.toList.drop 32).toArray=(Lib.byteCells<|Fz key).toArray:=by
 unfold Fz;rw[xj h,Zsc];unfold Lib.byteCells;rw[wb,List.map_replicate,KZ];rfl
def Z93 (key:Ay)(k:Nat)(h:k<64):(Lib.byteCells<|Fz key).toArray[k]?=some (yS (((Fz key).getD k 0).toNat:Int)):=by
 have:k<(Fz key).length:=by rw[bO];exact h
 simp[Lib.byteCells,List.getD,A8 this]
def jh (h:AO w L #[um t] e)(ht:t.size<1000000000):IV w (Qb L 0) [t]:=by
 intro i x hi;cases i with
 | zero=>
  obtain rfl:t=x:=by simpa using hi
  exact⟨ht,L,0,rfl,h.lt,by rw[h.cell];rfl⟩
 | succ i=>simp at hi
def IV.be (h:IV w p ts)(hb:Bl w u):IV u p ts:=by
 intro i t hi;obtain⟨h1,b,o,h2,h3,h4⟩:=h i t hi;exact⟨h1,b,o,h2,BK h3 hb.size,(hb.cell (p:=(zm b (o+i))) h3).trans h4⟩
def IV.sl (h:IV w p ts)(hl:ts.length<1000000):P8 1 w (sP p ts.length c) ts.length (ts.map .string):=by
 refine⟨p,c,rfl,hl,zw,fun u hu=>?_,fun a ha j u hj=>?_,fun hp=>?_⟩
 .obtain⟨t,_,rfl⟩:=List.mem_map.1 hu;rfl
 .rw[FK]at hj;obtain⟨t,ht,rfl⟩:=QP.1 hj;obtain⟨_,b,o,h2,h3,h4⟩:=h j t ht;obtain rfl:a=(zm b o):=by rw[ha]at h2;exact Gw h2
  exact⟨h3,by rw[Addr.add_lit];exact h4⟩
 .cases ts with
  | nil=>rfl
  | cons t ts=>
   obtain⟨_,b,o,h2,_⟩:=h 0 t rfl;rw[hp]at h2;cases h2
def Ykf {s:Nat}{v1 v2:Value}{x1 x2:Nat×Bu}(hB:AO w b #[v1,v2] e)(h1:P8 s w v1 x1.1 x1.2)(h2:P8 s w v2 x2.1 x2.2): ∀ i x,[x1,x2][i]?=some x->b<w.heap.size/\ ∃ v,w.cell? (zm b (0+i))=some v/\P8 s w v x.1 x.2:=by
 intro i x hi;refine⟨hB.lt,?_⟩;rw[Gx];cases i with
 | zero=>obtain rfl:x1=x:=by simpa using hi
         exact⟨v1,by rw[hB.cell];rfl,h1⟩
 | succ i=>cases i with
  | zero=>obtain rfl:x2=x:=by simpa using hi
          exact⟨v2,by rw[hB.cell];rfl,h2⟩
  | succ i=>simp at hi
def Z77 {E m:Nat}{W:Bb}{nv:Value}{done:Bu}(h:QD E 1 W nv done m m u)(hd:done=ts.map .string)(hm:m=ts.length)(h0:0<m)(ht: ∀ t,t∈ts->t.size<1000000000): ∃ p' c',nv= sP p' ts.length c'/\IV u p' ts:=by
 subst hd;subst hm;obtain⟨_,_,h | ⟨cap,vs,_,rfl,hB,_,Kv⟩⟩:=h
 .omega
 .refine⟨_,_,rfl,fun i t hi=>⟨ht t<|Ej hi,_,_,rfl,hB.lt,?_⟩⟩;rw[hB.cell,Gx,<- Qq]
  have:(List.take (List.map Value.string ts).length vs.toList)[i]?=some (um t):=by rw[Kv,FK,hi];rfl
  rw[List.getElem?_take]at this;split at this
  .exact this
  .cases this
structure kW (w:Bb) (b L:Nat) (key:Ay) (I:List UInt8) (u:Bb):Prop where
 pad:AO u b (Lib.byteCells<|Fz key).toArray 193
 inner:AO u L (Lib.byteCells I).toArray 115
 res: ∃ vs,AO u w.heap.size vs 115/\vs.size=32
 be:Bl w u
def kW.la {v:Bb}{I:List UInt8}(h:kW w b L key I u)(hb:Bl u v):kW w b L key I v:=by
 obtain⟨vs,hv,hs⟩:=h.res;exact⟨h.pad.of<|hb.block _ h.pad.lt,h.inner.of<|hb.block _ h.inner.lt,⟨vs,hv.of<|hb.block _ hv.lt,hs⟩,h.be.trans<|hb.mono h.be.size⟩
def Ya2 {s:Ay}(h:AO w L #[um t,um s] e)(ht:t.size<1000000000)(hs:s.size<1000000000):IV w (Qb L 0) [t,s]:=by
 intro i x hi;cases i with
 | zero=>
  obtain rfl:t=x:=by simpa using hi
  exact⟨ht,L,0,rfl,h.lt,by rw[h.cell];rfl⟩
 | succ i=>cases i with
  | zero=>
   obtain rfl:s=x:=by simpa using hi
   exact⟨hs,L,0,rfl,h.lt,by rw[h.cell];rfl⟩
  | succ i=>simp at hi
def Zq5 {a:Nat->Addr}(Z:AZ a w)(hk:key.size<1000000000)(hT:IV w p ts)(hl:ts.length<1000000):Calls prog 39 #[um key,sP p ts.length c] w fun e w'=>e=uY (Ip<|Bt key ts)/\Bl w w':=by
 have ZW:=AC Z;have HT:=AC hT;clear Z hT;obtain⟨n,hn⟩:=cK (ts.length);rw[hn.o]at hl⊢;have Na:AO ((w.alloc<|.cells Bj 115).alloc<|.cells Og 193) (w.heap.size+1) Og 193:=by
  have:=AO.new (w.alloc<|.cells Bj 115) Og 193
  simpa using this
 have hs64:Og.size=64:=by rw[Zzg];simp
 go_in
 rcases Qp 64 key.size with L9 | L9
 case' inl=>
  have g:((key.size:Int) > 64):=zx
  go_wp2_with fail
  have hb2:Bl w (((w.alloc<|.cells Bj 115).alloc<|.cells Og 193).alloc<|.cells #[um key] 9):=((zv w _).alloc (by first | (simp;done) | (simp;omega) | omega) _).alloc (by first | (simp;done) | (simp;omega) | omega) _;have Pv:AO (((w.alloc<|.cells Bj 115).alloc<|.cells Og 193).alloc<|.cells #[um key] 9) (w.heap.size+1+1) #[um key] 9:=by
   have:=AO.new ((w.alloc<|.cells Bj 115).alloc<|.cells Og 193) #[um key] 9
   simpa using this
  have CO:=wY (a:=a) (w:=((w.alloc<|.cells Bj 115).alloc<|.cells Og 193).alloc<|.cells #[um key] 9) (c:=1) (ZW.o.be hb2) (jh Pv hk) zw;apply mq CO;rintro w2 Af;have hs2:=Af.size;simp only[EV]at hs2;have Ey:=AC<|hb2.trans<|Af.mono hb2.size;have P2:=(Na.alloc<|.cells #[um key] 9).of<|Af.block _ (by first | (simp;done) | (simp;omega) | omega);have R2:=(((AO.new w Bj 115).alloc<|.cells Og 193).alloc<|.cells #[um key] 9).of<|Af.block _ (by first | (simp;done) | (simp;omega) | omega);clear CO hb2 Pv Af Na;have Et:=jm [key];have hv2:=ZV<|Ez [key];have hv3:=vK [key];have HL:=Yc6 L9;unfold Ip;have Bw:=Lib.byteCells_one<|Ez [key];have hlen:(Lib.byteCells<|Ez [key]).length=32:=by rw[xl,KZ]
  have Kw:=AO.new w2 Bj 115;have Oy:=GM _ _ _ (Lib.byteCells<|Ez [key]).toArray _ _ Kw;have P3:=AO.of (P2.alloc<|.cells Bj 115)<|Db (w2.alloc<|.cells Bj 115) w2.heap.size _ (Lib.byteCells<|Ez [key]).toArray (fw (P2.lt));go_wp2_with (first
   | (refine Ij rfl 115 (.tmp 6) (.tmp 13) rfl w2.heap.size (Lib.byteCells<|Ez [key]).toArray rfl rfl 115 Bj Kw hv3 (by first | exact Et | exact Et.symm) hv2 ?_))
  simp only[Act.put];go_region_law (refine Zwc rfl (.tmp 14) (.tmp 15) 149 149 rfl 5 (w.heap.size+1) 64 64 32 (sP (Qb w2.heap.size 0) 32 32) (Lib.byteCells<|Ez [key]) Og 193 underlying149 zt (by simp[Act.eval,Act.put]) (by simp[Act.eval,Act.put]) P3 (Src.ofSlice _ underlying149 (zm w2.heap.size 0) 32 32 (Lib.byteCells<|Ez [key]) (by rw[hlen]) (fun j u hj=>by rw[Addr.add_lit,Gx];exact((AO.cell Oy j).trans (by rw[Tu];exact hj))) Bw) zx zx (Lib.byteCells<|Fz key).toArray HL ?_)
  obtain⟨W6,hW6⟩: ∃ W,((w2.alloc<|.cells Bj 115).setRow w2.heap.size (Lib.byteCells<|Ez [key]).toArray).drew.setRow (w.heap.size+1) (Lib.byteCells<|Fz key).toArray=W:=⟨_,rfl⟩;change Exit.then _ _ _ _ (((w2.alloc<|.cells Bj 115).setRow w2.heap.size (Lib.byteCells<|Ez [key]).toArray).drew.setRow (w.heap.size+1) (Lib.byteCells<|Fz key).toArray);have HP:AF (AO W6 (w.heap.size+1) (Lib.byteCells<|Fz key).toArray 193):=⟨by rw[<- hW6];exact GM _ _ Og _ _ _ P3⟩;have HR:AF (AO W6 w.heap.size Bj 115):=⟨by
   rw[<- hW6];exact AO.of (AO.of (R2.alloc<|.cells Bj 115)<|Db _ _ _ _ (fw (R2.lt)))<|Db _ _ _ _ zx⟩
  have HBl:AF (Bl w W6):=⟨by
   have h3:=Ey.o.alloc zx<|.cells Bj 115;rw[<- hW6];exact⟨h3.os,h3.tape,h3.output,by rw[Ef];show _<=(World.setRow _ _ _).heap.size;rw[Ef];exact h3.size,fun j hj=>(Db _ _ j _ zx).trans ((Db _ _ j _ zx).trans<|h3.block j hj)⟩⟩
  rw[hW6];clear P2 R2 Ey hs2 Et hv2 hv3 HL Bw hlen Kw Oy P3 hW6;have O0:=HP.o;go_wp2_with (refine QN rfl 193 (.tmp 5) rfl (w.heap.size+1) rfl 193 (Lib.byteCells<|Fz key).toArray (0,0) _ O0 underlying193 rfl (Zvy key) ?_)
  clear O0
 case' inr=>
  have g: ¬ ((key.size:Int) > 64):=zx
  have OU:=Z2g (P:=prog) _ 149 9 3 5 (w.heap.size+1) 64 64 key.size (um key) _ Og 193 underlying149 zt Na (Src.ofString _ underlying9 key) L9 zx;rw[Z94 L9]at OU;have O0:=GM _ _ _ (Lib.byteCells<|Fz key).toArray _ _ Na;go_wp2_with (first
   | (refine Zr5 _ rfl (.tmp 17) (.tmp 18) _ _ rfl _ _ rfl rfl OU ?_)
   | (refine QN rfl 193 (.tmp 5) rfl (w.heap.size+1) rfl 193 (Lib.byteCells<|Fz key).toArray (0,0) _ O0 underlying193 rfl (Zvy key) ?_))
  obtain⟨W6,hW6⟩: ∃ W,(((w.alloc<|Obj.cells Bj 115).alloc<|Obj.cells Og 193).setRow (w.heap.size+1) (Lib.byteCells<|Fz key).toArray)=W:=⟨_,rfl⟩;have HP:AF (AO W6 (w.heap.size+1) (Lib.byteCells<|Fz key).toArray 193):=⟨by rw[<- hW6];exact O0⟩;have HR:AF (AO W6 w.heap.size Bj 115):=⟨by
   rw[<- hW6];exact AO.of ((AO.new w Bj 115).alloc<|.cells Og 193)<|Db _ _ _ _ zx⟩
  have HBl:AF (Bl w W6):=⟨by
   have h3:=(zv w<|.cells Bj 115).alloc zw<|.cells Og 193;rw[<- hW6];exact⟨h3.os,h3.tape,h3.output,by rw[Ef];exact h3.size,fun j hj=>(Db _ _ j _ zx).trans (h3.block j hj)⟩⟩
  rw[hW6];clear hW6 O0 OU Na
 all_goals
  have h6:=HP.o.lt;apply(Ztx _ (Fz key) 54 W6 (bO key) zu (by rw[GN,xl,bO])<|Z93 key).mono;rintro e w7 ⟨rfl,G6⟩;go_wp2_with fail
  have om:(MP (Fz key) 54).length=64:=by unfold MP;rw[Dj,bO]
  have hM:AF ((⟨(MP (Fz key) 54).toArray⟩:Ay).size<1000000000):=⟨by simp[ByteArray.size,om]⟩;have EM:AF ((⟨(MP (Fz key) 54).toArray⟩:Ay)=⟨(MP (Fz key) 54).toArray⟩):=⟨rfl⟩;generalize nY:(⟨(MP (Fz key) 54).toArray⟩:Ay)=M at hM EM⊢;have HgM:=AC nY;clear nY om;have GV:=(zv w7<|.cells #[um M] 9).alloc zw<|.cells #[sP (Qb w7.heap.size 0) 1 1,sP p n c] 29;have B8:AO ((w7.alloc<|.cells #[um M] 9).alloc<|.cells #[sP (Qb w7.heap.size 0) 1 1,sP p n c] 29) (w7.heap.size+1) #[sP (Qb w7.heap.size 0) 1 1,sP p n c] 29:=by
   have:=AO.new (w7.alloc<|.cells #[um M] 9) #[sP (Qb w7.heap.size 0) 1 1,sP p n c] 29
   simpa using this
  have T1:=(jh (((AO.new w7 #[um M] 9)).alloc<|.cells #[sP (Qb w7.heap.size 0) 1 1,sP p n c] 29) hM.o).sl (c:=1) zw;have Zw:=AC<|HBl.o.trans<|G6.mono zx;have HT8:=AC<|(HT.o.be Zw.o).be GV;have T2:=HT8.o.sl (c:=c) (by rw[hn.o];exact hl);rw[hn.o]at T2;have CC:=Z4w (xs:=[(1,[Value.string M]),(n,ts.map .string)]) (c:=2) (Ykf B8 T1 T2) zw (by simp[Dv];omega);apply CC.mono;rintro e w9 ⟨nv,rfl,hC⟩;have WJ:=hC.1;obtain⟨p9,c9,rfl,HT9⟩:=Z77 (ts:=M::ts) hC (by simp[Xj]) (by simp[Dv,hn.o];omega) (by simp[Dv];omega) (fun t ht=>by
   rcases Ak.1 ht with rfl | ht
   .exact hM.o
   .obtain⟨i,hi⟩:=List.getElem?_of_mem ht;exact(HT.o i t hi).1)
  have xY:=AC<|Zw.o.trans<|(GV.trans<|WJ.mono GV.size).mono Zw.o.size;have P9:=HP.o.of<|(((GV.trans<|WJ.mono GV.size).block _ (fw (G6.size)))).trans<|G6.block _ h6;have R9:=HR.o.of<|(((GV.trans<|WJ.mono GV.size).block _ (fw (G6.size)))).trans<|G6.block _ zx;have xV:=AC P9;have HR9:=AC R9;clear CC T1 T2 hC B8 GV WJ G6 P9 R9;have hl9:AF ((M::ts).length=n+1):=⟨by simp[hn.o]⟩;have CO9:=AC<|wY (c:=c9) (ZW.o.be xY.o) HT9 (by rw[hl9.o];omega);rw[hl9.o]at CO9⊢;have H9:=AC HT9;clear HT9;go_wp2_with fail
  apply mq CO9.o;rintro Qx MF;have P10:=(xV.o.of<|MF.block _ xV.o.lt).alloc<|.cells Bj 115;have R10:=(HR9.o.of<|MF.block _ HR9.o.lt).alloc<|.cells Bj 115;have U7:=AC<|(tr xY MF).o.alloc (jE (MF.size) (xY.o.size))<|.cells Bj 115;have hlt10:w.heap.size+1<Qx.heap.size:=jE (MF.size) (xV.o.lt)
  clear CO9 MF xV HR9 xY H9 HT8 Zw HBl HP HR;have Et:=jm<|M::ts;have hv2:=ZV<|Ez<|M::ts;have hv3:=vK<|M::ts;have JE:=KZ<|M::ts;unfold Ip;have EI:AF (Ez (M::ts)=Ez (M::ts)):=⟨rfl⟩;obtain⟨I,hI⟩:=cK (Ez (M::ts));rw[hI.o]at Et hv2 hv3 JE⊢;have eO:=AO.new Qx Bj 115;have S11:=GM _ _ _ (Lib.byteCells I).toArray _ _ eO;have P11:=P10.of<|Db (Qx.alloc<|.cells Bj 115) Qx.heap.size _ (Lib.byteCells I).toArray zx;have iF:=AC<|R10.of<|Db (Qx.alloc<|.cells Bj 115) Qx.heap.size _ (Lib.byteCells I).toArray zx;have iL:AF (Bl w<|(Qx.alloc<|.cells Bj 115).setRow Qx.heap.size (Lib.byteCells I).toArray):=⟨⟨U7.o.os,U7.o.tape,U7.o.output,by rw[Ef];exact U7.o.size,fun j hj=>(Db _ _ j _ zx).trans (U7.o.block j hj)⟩⟩;go_wp2_with (first
   | (refine Ij rfl 115 (.tmp 7) (.tmp 26) rfl Qx.heap.size (Lib.byteCells I).toArray rfl rfl 115 Bj eO hv3 (by first | exact Et | exact Et.symm) hv2 ?_))
  simp only[Act.put];obtain⟨W,hW⟩:=fu ((Qx.alloc<|.cells Bj 115).setRow Qx.heap.size (Lib.byteCells I).toArray);change Code.wp _ _ _ _ ((Qx.alloc<|.cells Bj 115).setRow Qx.heap.size (Lib.byteCells I).toArray);rw[hW]at P11 iF iL S11⊢;have AY:kW w (w.heap.size+1) Qx.heap.size key I W.drew:=⟨P11,S11,⟨_,iF.o,rfl⟩,iL.o.drew⟩;clear hW P10 R10 U7 eO iF iL P11 S11;generalize Qx.heap.size=L at*;refine Zh (S:=kW w (w.heap.size+1) L key I) zt ?_;change wpAnyH _ _ _ _ _ _ _ _ (World.drew _);refine wpAnyH_take (i:=0) (oi:={dst:=some 27,op:= .load 193<|.tmp 5,type:=193,pos:= "sums.go:53",after:=#[],guard:=none}) (v:= .agg (Lib.byteCells<|Fz key).toArray) rfl zt zt zt (fun _ _ _ h=>h) (wP rfl 193 (.tmp 5) rfl (zm (w.heap.size+1) 0) rfl fun u hS=>Vo u (w.heap.size+1) 193 193 _ _ _ hS.pad underlying193 rfl (Zvy key)) AY ?_;simp only[Act.put];refine tk 2 (sP (Qb L 0) 32 32) AY ?_;simp only[Act.put];refine wpAnyH_take (i:=3) (oi:={dst:=some 30,op:= .convert 149 9<|.tmp 29,type:=9,pos:= "sums.go:53",after:=#[{on:=2,ground:=Ground.data}],guard:=none}) (v:= .string ⟨I.toArray⟩) rfl zt zt zt (fun _ _ _ h=>h) (Zpf rfl 149 9 (.tmp 29) rfl _ rfl fun u hS=>wU hS.inner (fun j hj=>by simp[Lib.byteCells,List.getD,A8 hj]) 32 JE.symm) AY ?_;simp only[Act.put];refine yr 1 fun K' hK'=>?_;go_simp;apply(Ztx _ (Fz key) 92 W.drew (bO key) zu (by rw[GN,xl,bO])<|Z93 key).mono;rintro e xh ⟨rfl,ME⟩;have hS1:=AY.la ME;refine hK'.o _ _ hS1 fun _=>?_;have om:(MP (Fz key) 92).length=64:=by unfold MP;rw[Dj,bO]
  have hM2:AF ((⟨(MP (Fz key) 92).toArray⟩:Ay).size<1000000000):=⟨by simp[ByteArray.size,om]⟩;generalize nY:(⟨(MP (Fz key) 92).toArray⟩:Ay)=M2 at hM2⊢;have HgM2:=AC nY;clear nY om hK' K' ME;have hIs:AF ((⟨I.toArray⟩:Ay).size<1000000000):=⟨by simp[ByteArray.size,JE]⟩;generalize hgI:(⟨I.toArray⟩:Ay)=J at hIs⊢;have HgI:=AC hgI;clear hgI;refine yr 4 fun K' hK'=>?_;go_simp;have oK:=zv xh<|.cells #[um M2,um J] 9;have Kw:=hS1.la oK;refine hK'.o _ _ Kw fun _=>?_;have T2:=Ya2 (AO.new xh #[um M2,um J] 9) hM2.o hIs.o;clear hK' K' oK;have CO:=wY (c:=2) (ZW.o.be Kw.be) T2 zw;refine yr 5 fun K' hK'=>?_;go_simp;apply mq CO;rintro xg oJ;have Oy:=Kw.la oJ;refine hK'.o _ _ Oy fun _=>?_;clear hK' K' oJ CO T2;have hv4:=jm [M2,J];have mV:=ZV<|Ez [M2,J];have mQ:=vK [M2,J];have HE:AF (Ez [M2,J]=Bt key ts):=⟨by rw[<- HgM2.o,<- HgI.o,<- hI.o,<- HgM.o];rfl⟩;unfold Ip;rw[HE.o]at hv4 mV mQ⊢;obtain⟨vs,UI,hs32⟩:=Oy.res;refine yr 6 fun K' hK'=>?_;refine Zhl rfl 115 (.tmp 4) (.tmp 32) rfl w.heap.size (Lib.byteCells<|Bt key ts).toArray rfl rfl 115 vs UI mQ zx mV ?_;have hR:=GM xg _ vs (Lib.byteCells<|Bt key ts).toArray _ _ UI;have hBB:Bl w (xg.setRow w.heap.size (Lib.byteCells<|Bt key ts).toArray):=⟨Oy.be.os,Oy.be.tape,Oy.be.output,by rw[Ef];exact Oy.be.size,fun j hj=>(Db _ _ j _ zx).trans (Oy.be.block j hj)⟩;have hS4:kW w (w.heap.size+1) L key I (xg.setRow w.heap.size (Lib.byteCells<|Bt key ts).toArray):=⟨Oy.pad.of<|Db _ _ _ _ zx,Oy.inner.of<|Db _ _ _ _ zx,⟨_,hR,hv4⟩,hBB⟩;refine hK'.o _ _ hS4 fun _=>?_;clear hK' K';refine Uy zt ?_ _;go_wp2
  refine Bg (results_cell_row (p:=4) (ty:=115) rfl _ _ w.heap.size 115 (Lib.byteCells<|Bt key ts).toArray (0,0) _ rfl hR underlying115 rfl mQ) rfl ?_;exact⟨rfl,hBB⟩
def Zhe {P:Program}(w:Bb){ops:Array Oper}{rest:List Oper}{o:Oper}{a:Act}{Q:Exit->Act->Bb->Prop}(hgd:o.guard=none)(x:Operand)(f t:TypeId)(ho:o.op= .convert f t x)(y:Value)(hx:a.eval x=y){v':Value}{w':Bb}
  (hr:(convert f t y).run P w= .ok v' w') (h:wpList P ops Q rest (a.put o.dst v') w'):wpList P ops Q (o::rest) a w:=by
 refine wpList_plain hgd fun _ hK=>?_;unfold Oper.wp execOp;simp only[ho,Uz,Sem.run_pure,Vs,hx,hr];exact hK _ _ h
variable {a:Nat->Addr}
def Zp7 (l:List UInt8)(j:Nat)(h:j<l.length):(Lib.byteCells l).toArray[j]?=some (yS ((l.getD j 0).toNat:Int)):=by simp[Lib.byteCells,List.getD,A8 h]
def ZT {l:List UInt8}(h:l.length=32):(prog.info? 115).map (·.size)=some (Lib.byteCells l).toArray.size:=by rw[GN,xl,h];kernel_rfl
def Ygu (Z:AZ a w)(ht:t.size<1000000000):Calls prog 96 #[um t] w fun e w'=>e=uY (.string ⟨(Ez [t]).toArray⟩)/\Bl w w':=by
 have ZW:=AC Z;clear Z;go_in
 go_wp2_with fail
 have hb1:=zv w<|.cells #[um t] 9;apply(wY (c:=1) (ZW.o.be hb1) (jh (AO.new w #[um t] 9) ht) zw).mono;rintro e w2 ⟨rfl,hb2⟩;have HB:=AC<|(hb1.trans<|hb2.mono hb1.size).alloc (by have:=hb2.size;simp at this;omega)<|.cells Bj 115;have hlt:w.heap.size<w2.heap.size:=by have:=hb2.size;simp at this;omega
 have Et:=jm [t];have hv2:=ZV<|Ez [t];have hv3:=vK [t];have JE:=KZ [t];clear hb1 hb2;unfold Ip;obtain⟨I,hI⟩:=cK (Ez [t]);rw[hI.o]at Et hv2 hv3 JE⊢;have hS:=AO.new w2 Bj 115;have Kw:=GM _ _ _ (Lib.byteCells I).toArray _ _ hS;have hcv:=AC<|wU (xs:=I) Kw (fun j hj=>Zp7 I j hj) 32 JE.symm (cap:=32);go_wp2_with (first
  | (refine Ij rfl 115 (.tmp 3) (.tmp 6) rfl w2.heap.size (Lib.byteCells I).toArray rfl rfl 115 Bj hS hv3 (by first | exact Et | exact Et.symm) hv2 ?_)
  | (refine Zhe _ rfl (.tmp 7) _ _ rfl _ rfl hcv.o ?_))
 go_ret
 exact⟨by rw[hI.o];try rfl,⟨HB.o.os,HB.o.tape,HB.o.output,by rw[Ef];exact HB.o.size,fun j hj=>(Db _ _ j _ zx).trans (HB.o.block j hj)⟩⟩
def Zp3 {tag:List UInt8}(Z:AZ a w)(hl:tag.length=32)(ht:t.size<1000000000):Calls prog 91 #[Ip tag,um t] w fun e w'=>e=uY (Ip<|Bt ⟨tag.toArray⟩ [t])/\Bl w w':=by
 have ZW:=AC Z;clear Z;unfold Ip;go_in
 have Im: ∀ o,AO ((w.alloc<|.cells (Lib.byteCells tag).toArray 115).alloc o) w.heap.size (Lib.byteCells tag).toArray 115:=fun o=>(AO.new w _ _).alloc o;have hcv:=AC fun o=>wU (xs:=tag) (Im o) (fun j hj=>Zp7 tag j hj) 32 hl.symm (cap:=32);have aO:AO ((w.alloc<|.cells (Lib.byteCells tag).toArray 115).alloc<|.cells Bj 115) (w.heap.size+1) Bj 115:=by
  have:=AO.new (w.alloc<|.cells (Lib.byteCells tag).toArray 115) Bj 115
  simpa using this
 go_wp2_with (refine Zhe _ rfl (.tmp 5) _ _ rfl _ rfl (hcv.o _) ?_)
 have hb1:=((zv w<|.cells (Lib.byteCells tag).toArray 115).alloc zw<|.cells Bj 115).alloc (by first | (simp;done) | (simp;omega))<|.cells #[um t] 9;have Io:AO (((w.alloc<|.cells (Lib.byteCells tag).toArray 115).alloc<|.cells Bj 115).alloc<|.cells #[um t] 9) (w.heap.size+1+1) #[um t] 9:=by
  have:=AO.new ((w.alloc<|.cells (Lib.byteCells tag).toArray 115).alloc<|.cells Bj 115) #[um t] 9
  simpa using this
 apply(Zq5 (key:=⟨tag.toArray⟩) (c:=1) (ZW.o.be hb1) (by simp[ByteArray.size,hl]) (jh Io ht) zw).mono;rintro e w2 ⟨rfl,hb2⟩;have HB:=AC<|hb1.trans<|hb2.mono hb1.size;have aN:=(aO.alloc<|.cells #[um t] 9).of<|hb2.block _ (by first | (simp;done) | (simp;omega));have Et:=jm [⟨(MP (Fz ⟨tag.toArray⟩) 92).toArray⟩,⟨(Ez<|⟨(MP (Fz ⟨tag.toArray⟩) 54).toArray⟩::[t]).toArray⟩];have JE:(Bt ⟨tag.toArray⟩ [t]).length=32:=KZ _;clear Et hb1 hb2 Io aO Im hcv;unfold Ip;obtain⟨I,hI⟩:=cK (Bt ⟨tag.toArray⟩ [t]);rw[hI.o]at JE⊢;have Et:(Lib.byteCells I).toArray.size=32:=by rw[GN,xl,JE]
 have hv3:=ZT JE;go_wp2_with (refine Ij rfl 115 (.tmp 4) (.tmp 9) rfl (w.heap.size+1) (Lib.byteCells I).toArray rfl rfl 115 Bj aN hv3 (by first | exact Et | exact Et.symm) (ZV I) ?_)
 refine Bg (results_cell_row (p:=4) (ty:=115) rfl _ _ (w.heap.size+1) 115 (Lib.byteCells I).toArray (0,0) _ rfl (GM w2 _ Bj _ _ _ aN) underlying115 rfl hv3) rfl ?_;exact⟨by rw[hI.o];try rfl,⟨HB.o.os,HB.o.tape,HB.o.output,by rw[Ef];exact HB.o.size,fun j hj=>(Db _ _ j _ zx).trans (HB.o.block j hj)⟩⟩
end Go.W
