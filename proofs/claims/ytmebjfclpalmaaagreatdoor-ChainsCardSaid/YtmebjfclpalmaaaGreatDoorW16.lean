import Derived.Test.YtmebjfclpalmaaaGreatDoorW07
import Derived.Test.YtmebjfclpalmaaaGreatDoorW15
set_option maxRecDepth 100000
set_option maxHeartbeats 8000000
set_option linter.unusedSimpArgs false
open Go.Proofs Go.RowKit Go.W Tryz
namespace Go.W
variable {P:Program}{w:World}{e:TypeId}{ops:Array Oper}{o:Oper}{a:Act}{F:List Nat}{v:Value}
theorem Zdz {α:Type}{t:TypeId}{s bytes:Nat}(E:Zdw P t e s bytes){K:Act->World->Prop}{K2:Exit->Act->World->Prop}{K3:Prop}(hgd:o.guard=none)(sl x:Operand)
  (ho:o.op= .call {callee:= .builtin .append,args:=#[sl,x],argTypes:=#[t,t]}) {Q:Zgj α} (hQ:Zc3 Q) (hone: ∀ w vs x F,Q w vs x F-> ∀ u,u∈vs->u.oneCell'=true) (B:Nat) (v:Value) (xs:List α) (F:List Nat) (hs:a.eval sl=v) (hrow:Zag e s Q w v xs F)
  (b:Nat) (cs:Array Value) (et:TypeId) (fr:Nat×Nat) (y:α) (G:List Nat) (hx:a.eval x= .slice (some ⟨b,0,none⟩) 1 1) (hblk:w.heap[b]?=some (.cells cs et fr)) (hcs:cs.size=s) (hq:Q w cs.toList y G)
  (hn:xs.length+1 < 1000000000) (hB:B<=w.heap.size) (nF:Za7 B w F) (nG:Za7 B w G) (hd: ∀ k,k∈F->k∉G)
  (h: ∀ g cap w1 F',Zs0 e s Q B w w1 xs F G y g cap F'->K (a.put o.dst (.slice (some ⟨g,0,none⟩) (xs.length+1) cap)) w1):if Region.wanted o (yielded ops a.tmps)=true then Oper.wp P o a w K K2 else K3:=by
 obtain⟨zs,hown,hz,rfl,rfl,hl⟩:=hrow;refine Z4z E hgd sl x ho 0 v zs.length _ hs hown b cs et fr hx hblk hcs (hone w _ _ _ hq) (by simpa using hl) (Yej _) fun g cap w1 ha=>?_
 have:=Z2e (cs:=cs) (y:=y) (G:=G) hQ hz hcs hq (by simpa using hn) nF nG hd hB ha
 have h2:=h g cap w1 _ this;simpa using h2
theorem Zhh {rest:List Oper}{Q:Exit->Act->World->Prop}(hgd:o.guard=none)(ty:TypeId)(x y:Operand)(ho:o.op= .store ty x y)(g off:Nat)(cells cur nv:Array Value)(hx:a.eval x= .pointer (some ⟨g,off,none⟩))(hy:a.eval y= .agg cells)(t:TypeId)(hg:w.heap[g]?=some (.cells cur t (0,0)))(hi:(P.info? ty).map (·.size)=some cells.size)(hfit:off+cells.size<=cur.size)(h1:cells.all (·.oneCell')=true)(hnv:(cur.toList.take off++cells.toList++cur.toList.drop (off+cells.size)).toArray=nv)(h:wpList P ops Q rest (a.put o.dst undef) (w.setRow g nv)):wpList P ops Q (o::rest) a w:=by
 refine wpList_plain hgd fun K hK=>?_;have hst:=run_storeCells_at P g off t cells.toList 0 cur w hg (by simpa using hfit) (fun v hv=>(Array.all_eq_true_iff_forall_mem.1 h1) v (by simpa using hv));simp only[Yey,Yep]at hst;rw[hnv]at hst;have hrun:(storeVar ty ⟨g,off,none⟩ (.agg cells)).run P w= .ok () (w.setRow g nv):=by
  cases hq:P.info? ty with
  | none=>simp[hq]at hi
  | some i=>
   have hs:cells.size=i.size:=by simp[hq]at hi;omega
   simp[storeVar,sizeOf,typeInfo,hq,Value.cells,hs,hst]
 unfold Oper.wp execOp;simp only[ho,hx,hy,Instr.storeAt,Instr.sureAddr,Ye2,Sem.run_pure,Yer,hrun];exact hK _ _ h
def Zgk:Zgj ByteArray:=fun _ vs x F=>F=[]/\Z8l vs x
theorem Zgk.stable:Zc3 Zgk:=fun _ _ _ _ _ h _=>h
theorem Zgk.one {vs:List Value}{x:ByteArray}(h:Zgk w vs x F): ∀ u,u∈vs->u.oneCell'=true:=by
 obtain⟨_,p1,n1,c1,p2,n2,c2,p3,n3,c3,rfl,_⟩:=h;intro u hu;simp at hu;rcases hu with rfl | rfl | rfl | rfl <;> rfl
theorem Zag.texts {ty:Tys}{d:Nat}{xs:List (ByteArray×Bk)}(h:Zag e 4 (Zex ty d) w v xs F):Zag e 4 Zgk w v (xs.map (·.1)) v.ownBlock.toList/\ ∀ k,k∈v.ownBlock.toList->k∈F:=by
 obtain⟨zs,ho,hz,rfl,rfl,hl⟩:=h;refine⟨⟨zs.map (fun z=>(z.1,z.2.1.1,[])),?_,?_,?_,?_,?_⟩,fun k hk=>Yei _ hk⟩
 ·rw[Yeo,List.map_map];exact ho
 ·intro z hzm;obtain⟨y,hy,rfl⟩:=List.mem_map.1 hzm;refine⟨(hz y hy).1,rfl,?_⟩;obtain⟨p,c,p',c',p2,c2,hv⟩:=Zex.vals (hz y hy).2;obtain⟨vb,_,hs,_⟩:=(hz y hy).2;exact⟨p,_,c,p',_,c',p2,_,c2,hv,hs⟩
 ·rw[List.map_map,List.map_map];rfl
 ·have:(zs.map (fun z=>(z.1,z.2.1.1,([]:List Nat)))).map (·.2.2)=zs.map (fun _=>[]):=by rw[List.map_map];rfl
  rw[this];simp
 ·rw[Yeo];exact hl
theorem Zag.links {ts:List ByteArray}(h:Zag e 4 Zgk w v ts F)(hF: ∀ k,k∈F->k < w.heap.size): ∃ p c,v= .slice p ts.length c/\Zan 4 (Zgv w.heap.size w) p ts:=by
 obtain⟨p,c,hv,_,hr⟩:Zlk 4 (Zgv w.heap.size w) v ts:=h.rowOf hF fun b o vs x G hc hb hG hq=>by
  obtain⟨_,p1,n1,c1,p2,n2,c2,p3,n3,c3,rfl,hx⟩:=hq;exact⟨hb,hx,p1,n1,c1,p2,n2,c2,p3,n3,c3,hc 0 (by omega),hc 1 (by omega),hc 2 (by omega),hc 3 (by omega)⟩
 exact⟨p,c,hv,hr⟩
end Go.W
namespace Go.P
variable {a:Nat->Addr}{N:Nat}{w:World}
theorem Zao.belowN {u:World}(h:Zao a w)(hb:Below N w u)(hN:23<=N):Zao a u:=by
 obtain⟨w0,h0,h1⟩:=h;exact⟨w0,h0,fun g o hg=>⟨Ydh (h1 g o hg).1 hb.size,(hb.cell (p:=⟨g,o,none⟩) (Ydh hg hN)).trans (h1 g o hg).2⟩⟩
theorem Zqk (S:Bool)(v:Value){z l:List Value}(hz:z.length=32)(hl:l.length=32):((Zap S v z).toList.take 2++l.toArray.toList++(Zap S v z).toList.drop (2+l.toArray.size)).toArray=Zap S v l:=by
 simp[Zap,hz,hl]
def Zxv (n:Nat) (x:Bk):Int:=if n=8 then 4 else Zh6 x
theorem Z8s (V:Zav){B D C:Nat}{S:Bool}{v:Value}{tag:List UInt8}{ts:List ByteArray}{F:List Nat}{vs:List Value}{x:Bk}(Z:Zao a w)(hB:B<=N)(hg:23<=N)(hNC:N<=C)(hC:Blk w C (Zap S v (Lib.byteCells tag)) 91)(ht:tag.length=32)(hR:Zag 108 4 Zgk w v ts F)(hN:Za7 N w F)(hCF:C∉F)(hS:Zbd B w D vs x)(h8:ts.length<=8):
  Calls prog 39 #[.pointer (some ⟨C,0,none⟩),.agg vs.toArray] w fun e w'=>e= .returned (Zcm a (Zxv ts.length x))/\Below N w w'/\(Zxv ts.length x=0-> ∃ v' F',Blk w' C (Zap S v' (Lib.byteCells (Zaj ⟨tag.toArray⟩ [Zcd x]))) 91/\Zag 108 4 Zgk w' v' (ts++[Zcd x]) F'/\Za7 N w' F'/\C∉F'):=by
 have hsz:N<=w.heap.size:=Ydc hNC (Nat.le_of_lt hC.lt);have hCl:=hC.lt;obtain⟨p,c,rfl⟩:=Zag.form hR;have c1:w.cell? ⟨C,1,none⟩=some (.slice p ts.length c):=hC.cell 1;have B0:=fun o=>(Ydb w.heap.size w).alloc lr o;have CE:=Zaa (fun o=>Zlo V (Z.below (B0 o)) (by simp;omega) (Zbd.carry hS (Za4 (B0 o) (Ydc hB hsz))));have ZZ:=Zaa Z;have HC:=Zaa (Yda hC (Yda hR (Yda hN hCF)));have z4:=fun o=>Zab Z.c4 (B0 o);obtain⟨q1,k1,q2,k2,q3,k3,rfl,_⟩:=hS;clear Z V hC hR hN hCF;obtain⟨n,hn⟩: ∃ n,Box (ts.length=n):=⟨_,⟨rfl⟩⟩;rw[hn.out]at c1 h8⊢;go_in
 by_cases hn8:n=8
 ·have g:((n:Int)==8)=true:=by rw[Yfb];omega
  have E4:Box (Zxv n x=4):=⟨if_pos hn8⟩;clear hn8 CE;go_wp2
  go_ret
  exact⟨by rw[E4.out];rfl,(B0 _).mono hsz,fun h=>absurd (E4.out.symm.trans h) (by decide)⟩
 ·have g:((n:Int)==8)=false:=by rw[Ye4];omega
  have E4:Box (Zxv n x=Zh6 x):=⟨if_neg hn8⟩;clear hn8 z4;go_wp2_with fail
  refine(CE.out _).mono ?_;rintro e w2 ⟨rfl,hb2⟩;have B2:=Zaa ((B0 _).trans (hb2.mono (by simp)));by_cases he:Zh6 x=0
  ·have LX:=Zaa ((Blk.new w #[.slice q1 x.facts.length k1,.slice q2 x.rules.length k2,.slice q3 x.checks.length k3] 45).of (hb2.block _ (by simp)));obtain⟨y0,y1,y2,sy⟩:=LX.out.three;have C2:=HC.out.1.of (B2.out.block _ hCl);rw[hn.out]at C2;have c2:w2.cell? ⟨C,1,none⟩=some (.slice p n c):=C2.cell 1;have s2:=C2.soft;have hC2:=C2.lt;have hX2:=LX.out.lt;have hts:=Zc7 x;obtain⟨tx,htx⟩: ∃ tx,Box (Zcd x=tx):=⟨_,⟨rfl⟩⟩;rw[htx.out]at hts⊢;have R2:Box (Zag 108 4 Zgk w2 (.slice p n c) ts F):=⟨by
    have:=Zag.stable Zgk.stable _ w2 _ _ _ HC.out.2.1 (fun k hk=>B2.out.block k (HC.out.2.2.1.lt k hk))
    rw[hn.out]at this;exact this⟩
   have N2:Box (Za7 N w2 F):=⟨HC.out.2.2.1.later lr B2.out.size⟩;have HC2:=Zaa C2;rw[he,Za0];clear CE hb2 c1 C2;go_wp2
   go_region_law (refine Zdz Ztt rfl (.tmp 26) (.tmp 30) rfl Zgk.stable (fun _ _ _ _ h=>Zgk.one h) N (.slice p n c) ts F rfl (Zag.stable Zgk.stable _ _ _ _ _ R2.out fun j hj=>Ydf _ _ _ (N2.out.lt j hj)) w2.heap.size #[.string tx,.slice q1 x.facts.length k1,.slice q2 x.rules.length k2,.slice q3 x.checks.length k3] 108 (0,0) tx [] rfl (Zaw _ _) rfl ⟨rfl,q1,_,k1,q2,_,k2,q3,_,k3,rfl,by omega⟩ (by rw[hn.out];omega) (by have:=B2.out.size;simp;omega) (N2.out.later lr (by simp)) (Za7.nil _ _) (fun _ _ h=>by cases h) ?_;intro g5 cap5 w5 F5 happ;have c5:w5.cell? ⟨C,1,none⟩=some (.slice p n c):=(Yde (a:=⟨C,1,none⟩) ((happ.same C (by simp;omega) HC.out.2.2.2).trans (Ydf _ _ _ hC2))).trans c2;have s5: ∀ j,w5.frozen? ⟨C,j,none⟩=false:=fun j=>(Yez (a:=⟨C,j,none⟩) ((happ.same C (by simp;omega) HC.out.2.2.2).trans (Ydf _ _ _ hC2))).trans (s2 j))
   all_goals
    have hl5:w2.heap.size+1<=w5.heap.size:=by have:=happ.size;simpa using this
    have C5:Blk w5 C (Zap S (.slice p n c) (Lib.byteCells tag)) 91:=HC2.out.of ((happ.same C (by simp;omega) HC.out.2.2.2).trans (Ydf _ _ _ hC2));have HNC:Box (C∉F5):=⟨fun h=>by
     rcases happ.sub C h with h | h | h
     ·exact HC.out.2.2.2 h
     ·cases h
     ·simp at h;omega⟩
    have C6:Box (Blk (w5.setCell ⟨C,1,none⟩ (.slice (some ⟨g5,0,none⟩) (ts.length+1) cap5)) C (Zap S (.slice (some ⟨g5,0,none⟩) (ts.length+1) cap5) (Lib.byteCells tag)) 91):=⟨C5.set 1 _⟩;have R6:Box (Zag 108 4 Zgk (w5.setCell ⟨C,1,none⟩ (.slice (some ⟨g5,0,none⟩) (ts.length+1) cap5)) (.slice (some ⟨g5,0,none⟩) (ts.length+1) cap5) (ts++[tx]) F5):=⟨Zag.stable Zgk.stable _ _ _ _ _ happ.row fun j hj=>Ydg _ _ _ _ (fun e=>HNC.out (by rw[show C=j from e.symm];exact hj))⟩;have N6:Box (Za7 N (w5.setCell ⟨C,1,none⟩ (.slice (some ⟨g5,0,none⟩) (ts.length+1) cap5)) F5):=⟨happ.new.later lr (by simp)⟩;have B6:Box (Below N w (w5.setCell ⟨C,1,none⟩ (.slice (some ⟨g5,0,none⟩) (ts.length+1) cap5))):=⟨Below.setCell ⟨happ.os.trans B2.out.os,happ.tape.trans B2.out.tape,happ.output.trans B2.out.output,by have:=B2.out.size;omega,fun j hj=>(happ.same j (by have:=B2.out.size;simp;omega) (fun h=>by have:=N2.out.ge j h;omega)).trans ((Ydf _ _ _ (by have:=B2.out.size;omega)).trans (B2.out.block j (by omega)))⟩ (p:=⟨C,1,none⟩) hNC _⟩;clear happ c5 s5 C5 hl5;generalize w5.setCell ⟨C,1,none⟩ (.slice (some ⟨g5,0,none⟩) (ts.length+1) cap5)=W6 at*;generalize (.slice (some ⟨g5,0,none⟩) (ts.length+1) cap5:Value)=v6 at*;have C6o:=C6.out;have hrg:W6.rangeAt C 2 (Lib.byteCells tag):=fun j u hj=>by
     rw[Blk.cell C6o,Zap,Yd8,Nat.add_comm 2 j];exact hj
    have hlt6:(Lib.byteCells tag).length=32:=by rw[Lib.byteCells_length,ht]
    have CBd:=Zaa (Zkg (t:=tx) (ZZ.out.belowN B6.out hg) ht (by omega));unfold Zk0 at CBd;go_wp2_with (refine wpList_load_mid rfl 89 (.tmp 37) rfl C 2 rfl (Lib.byteCells tag) _ hrg underlying89 rfl (by rw[hlt6];kernel_rfl) ?_)
    refine mq CBd.out ?_;rintro w7 hb7;have C7:=C6.out.of (hb7.block _ (Blk.lt C6o));have hTl:(Zaj ⟨tag.toArray⟩ [tx]).length=32:=Zar _;have hlT:(Lib.byteCells (Zaj ⟨tag.toArray⟩ [tx])).length=32:=by rw[Lib.byteCells_length,hTl]
    have hnv:=Zqk S v6 hlt6 hlT;have hinf:(prog.info? 89).map (·.size)=some (Lib.byteCells (Zaj ⟨tag.toArray⟩ [tx])).toArray.size:=Zep hTl;have R7:=Zaa (Yda (hb7.mono (Ydc hsz B6.out.size)) (fun j (hj:j∈F5)=>hb7.block j (N6.out.lt j hj)));have hs7:=Zaa hb7.size;clear C6o hrg hb7 CBd;go_wp2_with (refine Zhh rfl 89 (.tmp 42) (.tmp 40) rfl C 2 (Lib.byteCells (Zaj ⟨tag.toArray⟩ [tx])).toArray (Zap S v6 (Lib.byteCells tag)) _ rfl rfl 91 C7 hinf (by rw[Zbt _ _ hlt6,Ydn,hlT];decide) (Zeo _) hnv ?_)
    go_ret
    refine⟨by rw[E4.out,he];rfl,((B6.out.trans R7.out.1).setRowAt _ hNC),fun _=>⟨v6,F5,?_,?_,N6.out.later lr (by rw[Yfd];exact hs7.out),HNC.out⟩⟩
    ·rw[htx.out];exact Yfe _ _ _ _ _ _ C7
    ·rw[htx.out];exact Zag.stable Zgk.stable _ _ _ _ _ R6.out fun j hj=>(Ye8 w7 C j _ (fun e=>HNC.out (by rw[<- e];exact hj))).trans (R7.out.2 j hj)
  ·rw[Zaf _ he];clear CE hb2;go_wp2
   go_ret
   exact⟨by rw[E4.out,Zaf _ he];rfl,B2.out.mono hsz,fun h=>absurd (E4.out.symm.trans h) he⟩
end Go.P
namespace Go.P
variable {w:World}{p:Nat}{fs:List (ByteArray×Nat)}{vs:List T}{F:List Nat}
theorem Z3m (h:Zd3 w p fs vs F)(x:ByteArray×Nat)(hn:Zjf x fs):
  Calls prog 240 #[.pointer (some ⟨p,0,none⟩),.agg (Zey x).toArray] w fun e w'=>e= .returned (.bool false)/\Below w.heap.size w w':=by
 obtain⟨k,r,fv,vv,Ff,Fv,hw⟩:=h;have hk: ∀ o,Zew (w.alloc o).drew k fs:=fun o=>hw.know.of (Ydf _ _ _ hw.know.lt);have hk2: ∀ o o',Zew ((w.alloc o).alloc o').drew k fs:=fun o o'=>(hk o).of (Ydf _ _ _ (hk o).lt);have hlk:=fun o=>Zod (hk o) hn;have hlk2:=fun o o'=>Zod (hk2 o o') hn;have B0:=fun o=>(Ydb w.heap.size w).alloc lr o;have B1:=fun o o'=>(B0 o).alloc (by simp) o';have p1:=fun o=>(hw.blk.alloc o).four.2.1;have p2:=fun o o'=>((hw.blk.alloc o).alloc o').four.2.1;unfold Zey at*;clear hk hk2 hw;go_in
 go_wp2
 go_region
 all_goals
  go_wp2
  go_ret
  exact⟨rfl,(B1 _ _).drew⟩
theorem Z54:Zdw prog 315 321 8 72:=by
 obtain⟨i0,hi,hz0,hz1,hz2⟩:=info_parts (by kernel_rfl:(prog.info? 321).map (fun i=>(i.zero,i.size,i.bytes))=some (some (.agg #[.string ⟨#[]⟩,.int .i64 0,.int .i64 0,.int .i64 0,.int .i64 0,.int .i64 0,.int .i64 0,.int .i64 0]),8,72));exact⟨i0,_,underlying315,hi,hz0,hz1,hz2,rfl,by decide,by decide⟩
theorem Zyi (h:Zd3 w p fs vs F)(x:ByteArray×Nat)(hn:Zjf x fs)(hl:fs.length < 60):
  Calls prog 214 #[.pointer (some ⟨p,0,none⟩),.agg (Zey x).toArray] w fun e w'=>e= .returned (.bool true)/\ ∃ F',Zd3 w' p (fs++[x]) vs F'/\Off F w w'/\ ∀ i,i∈F'->i∈F\/w.heap.size<=i:=by
 have CK:=Zaa (fun o=>Z3m (h.of (w':=w.alloc o) (by simp) fun j hj=>Ydf _ _ _ (h.lt j hj)) x hn);obtain⟨k,r,fv,vv,Ff,Fv,hw⟩:=h;obtain⟨pv,cv,rfl⟩:=hw.facts.form;have H:=Zaa hw;have UP:=Zaa (fun u (hu:Zew u k fs)=>Zxk hu hn);have hl60:((fs.length:Int)==60)=false:=by rw[Ye4];omega
 unfold Zey at CK UP⊢;clear hw hn;go_in
 go_wp2_with fail
 refine(CK.out _).mono ?_;rintro e w2 ⟨rfl,hb2⟩;have HB:=Zaa (((Ydb w.heap.size w).alloc lr _).trans (hb2.mono (by simp)));have L2:=Zaa ((Blk.new w #[.string x.1,.int .i64 1,.int .i64 (x.2:Int),.int .i64 0,.int .i64 0,.int .i64 0,.int .i64 0,.int .i64 0] 321).of (hb2.block w.heap.size (by simp)));obtain⟨t0,t1,t2,t3,t4,t5,t6,t7,ts⟩:=L2.out.eight;have D2:=Zaa (H.out.below HB.out);obtain⟨p0,p1,p2,p3,ps⟩:=D2.out.blk.four;clear hb2 CK;obtain⟨ob,hmu,hnm⟩:=UP.out w2.drew D2.out.know;obtain⟨W5,hW5⟩: ∃ W5,Box ({w2.drew with heap:=w2.drew.heap.setIfInBounds k ob}=W5):=⟨_,⟨rfl⟩⟩;rw[hW5.out]at hmu hnm;go_wp2
 go_region
 have O5:Box (Off [k] w2.drew W5):=⟨hW5.out▸(Off.refl _ w2.drew).put k ob (by simp)⟩;have HNM:=Zaa hnm;obtain⟨⟨pk,pr,hpF,pvF⟩,⟨kr,kf,kv⟩,_,nf,_,_⟩:=D2.out.apart;have hwk:w.heap.size≠k:=fun e=>by have:=H.out.know.lt;omega
 have b5:W5.heap[p]?=w2.heap[p]?:=O5.out.block p D2.out.blk.lt (by simpa using pk);obtain⟨e0,e1,e2,e3,es⟩:=(D2.out.blk.of b5).four;have L5:=Zaa (L2.out.of (O5.out.block w.heap.size L2.out.lt (by simpa using hwk)));obtain⟨u0,u1,u2,u3,u4,u5,u6,u7,us⟩:=L5.out.eight;have hvl: ∀ j,j∈Ff->j < w2.heap.size:=fun j hj=>D2.out.new.lt j (by rw[D2.out.own];simp[hj]);have R5:=Zaa (Zag.stable Zkb.stable _ W5 _ _ _ D2.out.facts fun j hj=>O5.out.block j (hvl j hj) (fun e=>kf (by rw[<- Yeb.1 e];exact hj)));have N5:Box (Za7 0 W5 Ff):=⟨nf,fun _ _=>Yej _,fun j hj=>Ydh (hvl j hj) O5.out.size⟩;have hql:p < W5.heap.size:=Ydh D2.out.blk.lt O5.out.size;have hwl:=L5.out.lt;clear hnm hvl b5 t0 t1 t2 t3 t4 t5 t6 t7 ts p0 p1 p2 p3 ps hmu UP pk pr pvF kr kf kv nf;go_wp2
 go_region_law (refine Zdz Z54 rfl (.tmp 26) (.tmp 28) rfl Zkb.stable (fun _ _ _ _ h=>Zkb.one h) 0 (.slice pv fs.length cv) fs Ff rfl (Zag.stable Zkb.stable _ _ _ _ _ R5.out fun j hj=>Ydf _ _ _ (N5.out.lt j hj)) W5.heap.size #[.string x.1,.int .i64 1,.int .i64 (x.2:Int),.int .i64 0,.int .i64 0,.int .i64 0,.int .i64 0,.int .i64 0] 321 (0,0) x [] rfl (Zaw _ _) rfl ⟨rfl,rfl⟩ (by omega) (Yej _) (N5.out.later lr (by simp)) (Za7.nil _ _) (fun _ _ h=>by cases h) ?_;intro g6 cap6 w6 F6 happ;have b6:=(happ.same p (by simp;omega) hpF).trans (Ydf _ _ _ hql);have c6:=(Yde (a:=⟨p,0,none⟩) b6).trans e0;have s6:=fun j=>(Yez (a:=⟨p,j,none⟩) b6).trans (es j))
 all_goals
  obtain⟨F',hF1,hF2,hF3⟩:=D2.out.appF ⟨O5.out.os,O5.out.tape,O5.out.output,O5.out.size,O5.out.block⟩ HNM.out (((Off.refl _ W5).alloc _).drew) happ rfl;have FIN:=Zaa (Yda hF1 (Yda hF2 hF3));clear hF1 hF2 hF3 happ b6 c6 s6;go_wp2
  go_ret
  exact⟨rfl,F',FIN.out.1,(Off.of HB.out).trans FIN.out.2.1 (fun _ h=> .inl h),fun i hi=>(FIN.out.2.2 i hi).imp id (fun h=>Ydc HB.out.size h)⟩
end Go.P
namespace Go.P
variable {w:World}{q p m:Nat}{cs:Array Value}{gs:List Gt}{S F Fo:List Nat}{fs:List (ByteArray×Nat)}{vs:List T}{ov:Value}
theorem Zem (f:Nat)(hf:f < 8):bits BinOp.or IntKind.u64 0 (f:Int)=(f:Int):=by
 have h2:f=0\/f=1\/f=2\/f=3\/f=4\/f=5\/f=6\/f=7:=by omega
 rcases h2 with rfl | rfl | rfl | rfl | rfl | rfl | rfl | rfl <;> rfl
theorem Ctx.put {at_:List Pt}{xs:List (ByteArray×Nat)}(h:Ctx w q p m cs at_ gs S fs vs F xs ov Fo)(j:Nat)(hj:8<=j)(v:Value):Ctx (w.setCell ⟨q,j,none⟩ v) q p m (cs.setIfInBounds j v) at_ gs S fs vs F xs ov Fo:=by
 have hb:=h.bd;have sz:(w.setCell ⟨q,j,none⟩ v).heap.size=w.heap.size:=by simp[World.setCell]
 refine h.step (w':=w.setCell ⟨q,j,none⟩ v) (xs':=xs) (ov':=ov) (Fo':=Fo) ⟨?_,?_,by simpa using hb.sz,Zag.stable Zvg.stable _ _ _ _ _ hb.row fun k hk=>Ydg _ _ _ _ (fun e=>hb.qF (by rw[show q=k from e.symm];exact hk)),hb.map.of (Ydg _ _ _ _ (fun e=>hb.ne e.symm)),hb.ne,hb.new.later lr (by omega),hb.qF,hb.mF⟩ ((Off.refl _ w).set q j v (by simp)) (fun _ h=> .inl h) ⟨by simp,fun k hk=>by rw[Ydd,if_neg (by omega)]⟩
 ·have:=hb.blk.set j v
  rwa [Array.setIfInBounds_comm _ _ (by omega)]at this
 ·rw[Ydd,if_neg (by omega)];exact hb.c0
theorem Zzn {x x1:Pt}(h:Ctx w q p m cs [x,x1] gs S fs vs F [] ov Fo)(hl:gs.length<=1){n a1:Nat}{fx:ByteArray×Nat}(hn:fs[n]?=some fx)(hn60:n < 60)(hm0:(Zci [] x.1 x.2 fx).2=[])(c9:cs[9]?=some (.int .u64 (a1:Int)))(ha8:a1 < 8)(cb:cs[12+n*4+1]?=some (.int .u64 0))(hb: ∀ n,n∈Za5 a1->n < fs.length)(ha: ∀ n,n∈Za5 a1->(Zci [] x1.1 x1.2 (fs.getD n (⟨#[]⟩,0))).1=true-> ∀ y,y∈gs->Z5l (Zci [] x1.1 x1.2 (fs.getD n (⟨#[]⟩,0))).2 vs y):
  Calls prog 248 #[.pointer (some ⟨q,0,none⟩),.int .i64 0,.int .i64 (n:Int),.int .i64 0] w fun e w'=>e= .returned (.tuple #[])/\ ∃ ov' Fo',Ctx w' q p m (cs.setIfInBounds (12+n*4+1) (.int .u64 (Zdy fs x1.1 x1.2 (Za5 a1):Int))) [x,x1] gs S fs vs F [] ov' Fo'/\Off (q::m::Fo) w w'/\ ∀ i,i∈Fo'->i∈Fo\/w.heap.size<=i:=by
 obtain⟨pa,ca,c3,hA⟩:=h.rd.atoms;obtain⟨ga,g,c,rfl,hgaS,hgS,a0,a0',hsl⟩:=hA 0 x rfl;obtain⟨ga',g1,c1,e,_,hg1S,b0,b0',hsl1⟩:=hA 1 x1 rfl;injection e with e;injection e with e;subst e;obtain⟨gf,cf,p0,hpF,hfF,f0,f1,f2,f3,f4,f5,f6,f7⟩:=h.fact hn;have q0:=(h.cell 0 (by omega)).trans h.rd.c0;have q3:=(h.cell 3 (by omega)).trans c3;have q9:=(h.cell 9 (by omega)).trans c9;have qb:=(h.cell (12+n*4+1) (by omega)).trans cb;have hnl:(n:Int) < (fs.length:Int):=by have:=(Ydl.1 hn).1;omega
 have hn6:(n:Int) < 60:=by omega
 have CM:=Zaa (Zoe (w:=w.drew) (h.below (Ydb _ w).drew).bd (c:=c) (hsl.of (w':=w.drew) lr rfl) x.1 fx (by simp));rw[hm0]at CM;unfold Zey at CM;simp only[Ydp,Ydt,Yd7,Yex,Nat.one_mul]at q3 a0 a0' b0 b0' c3;obtain⟨fit,hfit⟩: ∃ fit,Box (Zdy fs x1.1 x1.2 (Za5 a1)=fit):=⟨_,⟨rfl⟩⟩;rw[hfit.out];have H:=Zaa h;clear h hA;go_in
 go_wp2
 go_region_held3 (fun u=>u.cell? ⟨q,0,none⟩=some (.pointer (some ⟨p,0,none⟩))/\u.cell? ⟨q,3,none⟩=some (.slice (some ⟨ga,0,none⟩) 2 ca)/\u.cell? ⟨ga,0,none⟩=some (.string x.1)/\u.cell? ⟨ga,1,none⟩=some (.slice (some ⟨g,0,none⟩) 1 c)/\u.cell? ⟨p,0,none⟩=some (.slice (some ⟨gf,0,none⟩) fs.length cf)/\u.cell? ⟨gf,n*8,none⟩=some (.string fx.1)/\u.cell? ⟨gf,n*8+1,none⟩=some (.int .i64 1)/\u.cell? ⟨gf,n*8+2,none⟩=some (.int .i64 (fx.2:Int))/\u.cell? ⟨gf,n*8+3,none⟩=some (.int .i64 0)/\u.cell? ⟨gf,n*8+4,none⟩=some (.int .i64 0)/\u.cell? ⟨gf,n*8+5,none⟩=some (.int .i64 0)/\u.cell? ⟨gf,n*8+6,none⟩=some (.int .i64 0)/\u.cell? ⟨gf,n*8+7,none⟩=some (.int .i64 0)) (first | exact⟨q0,q3,a0,a0',p0,f0,f1,f2,f3,f4,f5,f6,f7⟩ | exact S2) (first
  | (go_at_call 265;refine CM.out.mono ?_;rintro e w2 ⟨rfl,ov2,F2,hb2,ho2,hs2⟩;have C2:=(H.out.below (Ydb _ w).drew).step hb2 ho2 hs2 ⟨rfl,fun _ _=>rfl⟩;have bk: ∀ j,j < w.heap.size->j∉q::m::Fo-> ∀ o,w2.cell? ⟨j,o,none⟩=w.cell? ⟨j,o,none⟩:=(fun j hj hn o=>Yde (a:=⟨j,o,none⟩) (ho2.block j hj hn));have nS: ∀ j,j∈S->j∉q::m::Fo:=(fun j hj h=>(H.out.dB j h).2.1 hj);have nF: ∀ j,j∈F->j∉q::m::Fo:=(fun j hj h=>(H.out.dB j h).1 hj);have lS:=H.out.rd.lS;have lF:=H.out.wd.lt;have S2:=Yda ((C2.cell 0 (by omega)).trans C2.rd.c0) (Yda ((C2.cell 3 (by omega)).trans c3) (Yda ((bk ga (lS _ hgaS) (nS _ hgaS) _).trans a0) (Yda ((bk ga (lS _ hgaS) (nS _ hgaS) _).trans a0') (Yda ((bk p (lF _ hpF) (nF _ hpF) _).trans p0) (Yda ((bk gf (lF _ hfF) (nF _ hfF) _).trans f0) (Yda ((bk gf (lF _ hfF) (nF _ hfF) _).trans f1) (Yda ((bk gf (lF _ hfF) (nF _ hfF) _).trans f2) (Yda ((bk gf (lF _ hfF) (nF _ hfF) _).trans f3) (Yda ((bk gf (lF _ hfF) (nF _ hfF) _).trans f4) (Yda ((bk gf (lF _ hfF) (nF _ hfF) _).trans f5) (Yda ((bk gf (lF _ hfF) (nF _ hfF) _).trans f6) ((bk gf (lF _ hfF) (nF _ hfF) _).trans f7))))))))))))))
 have q0':=S2.1;have q3':=S2.2.1;have q9':=(C2.cell 9 (by omega)).trans c9;have qb':=(C2.cell (12+n*4+1) (by omega)).trans cb;have qs':=C2.bd.blk.soft;have b2:=(bk ga (lS _ hgaS) (nS _ hgaS) _).trans b0;have b2':=(bk ga (lS _ hgaS) (nS _ hgaS) _).trans b0';have sl2:=Zaa (hsl1.of (w':=w2) ho2.size (ho2.block g1 (lS _ hg1S) (nS _ hg1S)));have FF:=Zaa (Yda C2 (Yda ho2 hs2));clear S2 C2 hb2 ho2 hs2 bk nS nF lS lF q0 q3 q9 qb a0 a0' p0 f0 f1 f2 f3 f4 f5 f6 f7 CM b0 b0';go_wp2
 refine Ye7 2 ?_;rw[Ye5];go_wp2_with fail
 have hgq:ga≠q:=fun e=>(FF.out.1.dB q (by simp)).2.1 (e▸hgaS);have CF:=Zaa (Zho (FF.out.1.below (Ydb _ w2).drew) hl (c:=c1) (sl2.out.of (w':=w2.drew) lr rfl) hg1S x1.1 a1 ha8 hb ha);rw[hfit.out]at CF;have hfl:fit < 8:=hfit.out▸Ze2 _ _ _ fun k hk=>Zcp hk;have hor:=Zem _ hfl;go_region_with (go_at_call 245;refine CF.out.mono ?_;rintro e w3 ⟨rfl,ov3,F3,hc3,ho3,hs3⟩;have qb3:=(hc3.cell (12+n*4+1) (by omega)).trans cb;have qs3:=hc3.bd.blk.soft;have q33:=(hc3.cell 3 (by omega)).trans c3)
 all_goals
  have hcp:=hc3.put (12+n*4+1) (by omega) (.int .u64 (fit:Int));have hop:=ho3.set q (12+n*4+1) (.int .u64 (fit:Int)) (by simp);have q3p:(w3.setCell ⟨q,12+n*4+1,none⟩ (.int .u64 (fit:Int))).cell? ⟨q,3,none⟩=some (.slice (some ⟨ga,0,none⟩) 2 ca):=(World.cell?_setCell_other _ _ _ _ (by simp)).trans q33;have CX:=Zaa (Zif hcp.bd (by simp));have F4:=Zaa (Yda hcp (Yda hop hs3));clear hc3 ho3 hs3 qb3 qs3 q33 hcp hop CF;generalize w3.setCell ⟨q,12+n*4+1,none⟩ (.int .u64 (fit:Int))=W4 at*;go_wp2_with fail
  rw[Ye5];go_wp2_with fail
  refine CX.out.mono ?_;rintro e w5 ⟨rfl,ov5,hb5,ho5⟩;have FO:=Zaa (Yda (F4.out.1.step hb5 ho5 (fun _ h=> .inl h) ⟨rfl,fun _ _=>rfl⟩) (Yda ((Off.of (F:=q::m::Fo) (Ydb _ w).drew).trans (FF.out.2.1.trans ((Off.of (F:=q::m::F2) (Ydb _ w2).drew).trans (F4.out.2.1.trans ho5 fun i hi=>by
   simp only[Ydj]at hi⊢;rcases hi with h | h | h
   ·exact .inl (.inl h)
   ·exact .inl (.inr (.inl h))
   ·exact(F4.out.2.2 i h).imp (fun h=> .inr (.inr h)) id) fun _ h=> .inl h) fun i hi=>by
   simp only[Ydj]at hi⊢;rcases hi with h | h | h
   ·exact .inl (.inl h)
   ·exact .inl (.inr (.inl h))
   ·exact(FF.out.2.2 i h).imp (fun h=> .inr (.inr h)) id) fun _ h=> .inl h) (fun i hi=>by
   have hsz:w.heap.size<=w2.heap.size:=FF.out.2.1.size;rcases F4.out.2.2 i hi with h | h
   ·exact FF.out.2.2 i h
   ·have h:w2.heap.size<=i:=h;exact .inr (by omega): ∀ i,i∈F3->i∈Fo\/w.heap.size<=i)))
  clear hb5 ho5 CX FF F4;go_wp2
  go_end0
  exact⟨rfl,ov5,F3,FO.out.1,FO.out.2.1,FO.out.2.2⟩
end Go.P
