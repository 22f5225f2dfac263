import Derived.Test.YtmebjfclpalmaaaGreatDoorW01
import Derived.Lib.Builder
import Derived.Lib.AppendStr
import Derived.Lib.UnsafeStr
set_option maxRecDepth 100000
set_option maxHeartbeats 8000000
set_option linter.unusedSimpArgs false
open Go.Proofs Go.RowKit Go.W Tryz
namespace Go.W
structure Tk where
 at_:Nat
 text:ByteArray
 k:Int
 i:Int
 s:ByteArray
theorem Zbm (t:ByteArray):(Zac t).length=t.size:=by simp[Zac]
theorem Blk.eight {w:World}{L:Nat}{e:TypeId}{a b c d f g i j:Value}(h:Blk w L #[a,b,c,d,f,g,i,j] e):w.cell? ⟨L,0,none⟩=some a/\w.cell? ⟨L,1,none⟩=some b/\w.cell? ⟨L,2,none⟩=some c/\w.cell? ⟨L,3,none⟩=some d/\w.cell? ⟨L,4,none⟩=some f/\w.cell? ⟨L,5,none⟩=some g/\w.cell? ⟨L,6,none⟩=some i/\w.cell? ⟨L,7,none⟩=some j/\ ∀ j,w.frozen? ⟨L,j,none⟩=false:=⟨h.cell 0,h.cell 1,h.cell 2,h.cell 3,h.cell 4,h.cell 5,h.cell 6,h.cell 7,h.soft⟩
end Go.W
namespace Go.P
variable {w:World}{b p q:Nat}{t:ByteArray}{x:Tk}
def Rd (w:World) (b:Nat) (t:ByteArray) (p:Nat) (x:Tk):Prop:=Blk w b #[.string t,.int .i64 (p:Int),.int .i64 (x.at_:Int),.string x.text,.int .i64 x.k,.int .i64 x.i,.string x.s,.slice none 0 0] 181/\t.size<=8000/\p<=t.size/\23<=b
theorem Rd.dr (h:Rd w b t p x)(n:Nat):Rd (w.drewN n) b t p x:=h
theorem Rd.of {u:World}(h:Rd w b t p x)(k:Below w.heap.size w u):Rd u b t p x:=⟨h.1.of (k.block b h.1.lt),h.2⟩
theorem Rd.goes (h:Rd w b t p x)(hq:q<=t.size):Rd (w.setCell ⟨b,1,none⟩ (.int .i64 (q:Int))) b t q x:=⟨h.1.set 1 _,h.2.1,hq,h.2.2.2⟩
theorem Zwy (h:Rd w b t p x):Calls prog 164 #[.pointer (some ⟨b,0,none⟩)] w fun e w'=>e= .returned (.int .u8 ((Zac t).getD p 0:Nat))/\ ∃ m,w'=w.drewN m:=by
 obtain⟨hb,ht,hp,hg⟩:=h;obtain⟨c0,c1,-,-,-,-,-,-,sf⟩:=hb.eight;clear hb;by_cases hlt:p < t.size
 ·have g:((p:Int)==(t.size:Int))=false:=by rw[Ye4];omega
  have hx:=Zhm t p hlt;go_in
  go_wp2
  go_quiet (fail)
  go_wp2
  go_quiet (fail)
  go_wp2
  go_ret
  exact⟨by simp,by first | exact⟨_,rfl⟩ | exact⟨_,World.drewN_drewN ..⟩⟩
 ·obtain rfl:p=t.size:=by omega
  go_in
  go_wp2
  go_quiet (fail)
  go_wp2_with fail
  all_goals go_ret
  exact⟨by simp[List.getD,Zbm],_,rfl⟩
theorem Zku (h:Rd w b t p x):Calls prog 164 #[.pointer (some ⟨b,0,none⟩)] w fun e w'=>e= .returned (.int .u8 ((Zac t).getD p 0:Nat))/\Below w.heap.size w w':=
 (Zwy h).mono fun _ _ ⟨he,m,hm⟩=>⟨he,by rw[hm];exact Zb6 (Ydb _ w)⟩
def Yaj (K:Nat) (ok:Nat->Bool):Prop:=Zaq K/\ ∀ c w,Calls prog K #[.int .u8 ((c:Nat):Int)] w fun e w'=>e= .returned (.bool (ok c))/\w'=w
def Yar (b:Nat) (ok:Nat->Bool) (w:World) (t:ByteArray) (p:Nat) (x:Tk) (wr:World):Prop:= ∃ q,p<=q/\Rd wr b t q x/\Zah b w wr/\Zce (Zac t) ok q=Zce (Zac t) ok p
def Zoj (b:Nat) (w:World):Nat:=match w.cell? ⟨b,1,none⟩with
 | some (.int _ p)=>p.toNat
 | _=>0
theorem Zeb (h:Rd w b t p x):Zoj b w=p:=by
 unfold Zoj;rw[h.1.eight.2.1];rfl
theorem Z4v (ok:Nat->Bool)(h:q < t.size):(ok ((Zac t).getD q 0)=true->Zce (Zac t) ok (q+1)=Zce (Zac t) ok q)/\(ok ((Zac t).getD q 0)=false->Zce (Zac t) ok q=q):=by
 have hl:=Zbm t;unfold Zce;rw[hl,show t.size - q=(t.size - (q+1))+1 by omega];exact⟨fun g=>by rw[Zos,if_pos ⟨by omega,g⟩],fun g=>by rw[Zos,if_neg (fun z=>by rw[g]at z;cases z.2)]⟩
theorem Z7h (t:ByteArray)(ok:Nat->Bool):Zce (Zac t) ok t.size=t.size:=by
 unfold Zce;rw[Zbm,Nat.sub_self];rfl
theorem Zoq {K:Nat}{ok:Nat->Bool}(F:Yaj K ok)(h:Rd w b t p x):
  Calls prog 161 #[.pointer (some ⟨b,0,none⟩),.func (.func K) #[] #[]] w fun e w'=>e= .returned (.string (t.extract p (Zce (Zac t) ok p)))/\Zah b w w'/\Rd w' b t (Zce (Zac t) ok p) x:=by
 have hp:=h.2.2.1;go_in
 obtain⟨c0,c1,-,-,-,-,-,-,sf⟩:=h.1.eight;have H:=Zaa h;clear h;go_wp2
 go_loopw [13] (fun _ wr=>Yar b ok w t p x wr) (fun _ wr=>t.size - Zoj b wr)
 case atStart=>exact⟨p,Yec _,H.out,Zah.refl _ _,rfl⟩
 case round=>
  obtain⟨q,hq,hR,hK,hE⟩:=hrel;clear c0 c1 sf H;have h3:=hR.2.2.1;have ht:=hR.2.1;have hM:=Zeb hR;obtain⟨c0,c1,-,-,-,-,-,-,sf⟩:=hR.1.eight;have HR:=Zaa hR;have HK:=Zaa hK;have HE:=Zaa hE;clear hR hK hE;by_cases hlt:q < t.size
  ·have g:(q:Int) < (t.size:Int):=by omega
   have hx:=Zhm t q hlt;have C:=Zaa (F.2 ((Zac t).getD q 0));have hen:=F.1;unfold Zaq at hen;have S:=Zaa (Z4v ok hlt);clear F;generalize (Zac t).getD q 0=c at*;cases hok:ok c
   ·rw[hok]at C;have E:Box (Zce (Zac t) ok p=q):=⟨HE.out.symm.trans (S.out.2 hok)⟩;go_wp2
    go_quiet ((exact Calls.quiet_of_same (C.out _)))
    go_wp2
    go_quiet (fail)
    go_wp2
    go_ret
    rw[E.out];exact⟨by simp,(HK.out.dr _).dr _,HR.out⟩
   ·rw[hok]at C;go_wp2
    go_quiet ((exact Calls.quiet_of_same (C.out _)))
    go_wp2
    go_roundw
    case rel=>exact⟨q+1,by omega,by have:=(HR.out.dr nq).goes (q:=q+1) hlt;simpa using this,(HK.out.dr _).set _ _,(S.out.1 hok).trans HE.out⟩
    case measure=>
     have:=Zeb ((HR.out.dr nq).goes (q:=q+1) hlt)
     simp at this;rw[hM,this];omega
  ·obtain rfl:q=t.size:=by omega
   have E:Box (Zce (Zac t) ok p=t.size):=⟨HE.out.symm.trans (Z7h t ok)⟩;go_wp2
   go_quiet (fail)
   go_wp2
   go_quiet (fail)
   go_wp2
   go_ret
   rw[E.out];exact⟨by simp,(HK.out.dr _).dr _,HR.out⟩
end Go.P
namespace Go.P
variable {w:World}{xs:List (ByteArray×Nat)}
theorem Zhk.one {v:Value}(h:Zhk w v xs):v.oneCell'=true:=by
 rcases h with⟨rfl,_⟩ | ⟨m,rfl,_⟩ <;> rfl
theorem Zqr {mv:Value}(hm:Zhk w mv xs)(hv: ∀ m,mv= .map (some m)->m < w.heap.size)(p:Option Addr)(n k:Nat){g c:Nat}{s:ByteArray×Nat}(hg:Zdu w g s)(pn:ByteArray):
  Calls prog 216 #[.agg #[.string pn,.slice (some ⟨g,0,none⟩) 1 c],.agg #[mv,.slice p n k]] w fun e w'=>e= .returned (.agg (Zey (pn,(Zbn xs s).1)).toArray)/\Below w.heap.size w w':=by
 obtain⟨hgl,g0,g1,hsz⟩:=hg;have hone:=Zhk.one hm;obtain⟨Z,hZ⟩: ∃ Z:Array Value,Z=#[.string ⟨#[]⟩,.int .i64 0,.int .i64 0,.int .i64 0,.int .i64 0,.int .i64 0,.int .i64 0,.int .i64 0]:=⟨_,rfl⟩;obtain⟨f0,hf0⟩: ∃ f0:Array Value,f0=#[.string pn,.int .i64 1,.int .i64 0,.int .i64 0,.int .i64 0,.int .i64 0,.int .i64 0,.int .i64 0]:=⟨_,rfl⟩;obtain⟨W4,hW4⟩: ∃ W4,Box ((((w.alloc (.cells #[.string pn,.slice (some ⟨g,0,none⟩) 1 c] 324)).alloc (.cells #[mv,.slice p n k] 328)).alloc (.cells Z 321)).alloc (.cells f0 321)=W4):=⟨_,⟨rfl⟩⟩;have B4:Box (Below w.heap.size w W4):=⟨hW4.out▸((((Ydb _ w).alloc lr _).alloc (by simp) _).alloc (by simp;omega) _).alloc (by simp;omega) _⟩;have S4:Box (W4.heap.size=w.heap.size+4):=⟨by rw[<- hW4.out];simp⟩;have L1:Box (Blk W4 (w.heap.size+1) #[mv,.slice p n k] 328):=⟨hW4.out▸((Zpo w _ _ _).alloc _).alloc _⟩;have L2:Box (Blk W4 (w.heap.size+1+1) Z 321):=⟨hW4.out▸(Z2h w _ _ _ _).alloc _⟩;have L3:Box (Blk W4 (w.heap.size+1+1+1) f0 321):=⟨hW4.out▸by have:=Blk.new (((w.alloc (.cells #[.string pn,.slice (some ⟨g,0,none⟩) 1 c] 324)).alloc (.cells #[mv,.slice p n k] 328)).alloc (.cells Z 321)) f0 321;rwa [Ydm,Ydm,Ydm]at this⟩;subst hZ hf0;have g0':=(Yde (a:=⟨g,0,none⟩) (B4.out.block g hgl)).trans g0;have g1':=(Yde (a:=⟨g,1,none⟩) (B4.out.block g hgl)).trans g1;have B5:=fun o=>(Ydb W4.heap.size W4).alloc lr o;have CO:=Zaa (fun o=>Zvt (w:=W4.alloc o) (q:=w.heap.size+1) (o:=0) (v:=mv) (xs:=xs) (hm.of fun m h=>((B5 o).block m (by have:=hv m h;have:=S4.out;omega)).trans (B4.out.block m (hv m h))) ((L1.out.alloc o).cell 0) ((L1.out.alloc o).lt) (fun m h=>by have:=hv m h;have:=S4.out;simp;omega) s hsz);clear hm hv;go_in
 go_wp2_with fail
 rw[hW4.out];clear hW4;refine Ye7 2 ?_;rw[Ye5];go_wp2_with fail
 refine(CO.out _).mono ?_;rintro e w5 ⟨rfl,hb5⟩;have hz:=S4.out;have K2:=Zaa ((L2.out.alloc _).of (hb5.block (w.heap.size+1+1) (by simp;omega)));have K3:=Zaa ((L3.out.alloc _).of (hb5.block (w.heap.size+1+1+1) (by simp;omega)));obtain⟨y0,y1,y2,y3,y4,y5,y6,y7,sf⟩:=K3.out.eight;obtain⟨x0,x1,x2,x3,x4,x5,x6,x7,sx⟩:=K2.out.eight;have HB:=Zaa ((B4.out.trans ((B5 _).mono B4.out.size)).trans (hb5.mono (by simp;omega)));clear hb5 CO hz B5;go_wp2_with fail
 rw[Ye5];go_wp2
 refine Ye6 (by simp[results,results216,go_sem,x0,x1,x2,x3,x4,x5,x6,x7];try rfl) rfl ?_;have hle:w.heap.size<=w.heap.size+1+1:=by omega
 exact⟨rfl,(((((((((HB.out.setCell (p:=⟨w.heap.size+1+1+1,2,none⟩) (by show _<=w.heap.size+1+1+1;omega) _).setCell (p:=⟨w.heap.size+1+1,0,none⟩) hle _).setCell (p:=⟨w.heap.size+1+1,1,none⟩) hle _).setCell (p:=⟨w.heap.size+1+1,2,none⟩) hle _).setCell (p:=⟨w.heap.size+1+1,3,none⟩) hle _).setCell (p:=⟨w.heap.size+1+1,4,none⟩) hle _).setCell (p:=⟨w.heap.size+1+1,5,none⟩) hle _).setCell (p:=⟨w.heap.size+1+1,6,none⟩) hle _).setCell (p:=⟨w.heap.size+1+1,7,none⟩) hle _)⟩
end Go.P
namespace Go.W
def Zew (w:World) (r:Nat) (fs:List (ByteArray×Nat)):Prop:= ∃ es clock,w.heap[r]?=some (.map es clock)/\es.toList.map (·.key)=fs.map fun x=>Value.agg (Zey x).toArray
theorem Zip {P:Program}{kt:TypeId}{k:Value}{w:World}: ∀ (l:List MapEntry) (i:Nat),(∀ e,e∈l->(Op.equal kt k e.key).run P w= .ok false w)->(Instr.findAsking kt k l i).run P w= .ok none w
 | [],_,_=>rfl
 | e::l,i,h=>by
  unfold Instr.findAsking;simp only[Ye2,h e (by simp),Yer];exact Zip l (i+1) fun e he=>h e (by simp[he])
end Go.W
namespace Go.P
variable {w:World}{x:ByteArray×Nat}{fs:List (ByteArray×Nat)}{r:Nat}
theorem Zkk (x:ByteArray×Nat)(b:Bool)(w:World):(Instr.checkKey b 10000 321 (.agg (Zey x).toArray)).run prog w= .ok () w:=by kernel_rfl
def Zjf (x:ByteArray×Nat) (fs:List (ByteArray×Nat)):Prop:= ∀ y,y∈fs-> ∀ w,(Op.equal 321 (.agg (Zey x).toArray) (.agg (Zey y).toArray)).run prog w= .ok false w
theorem Zl9 (hn:Zjf x fs)(l:List MapEntry)(hl:l.map (·.key)=fs.map fun x=>Value.agg (Zey x).toArray):(Instr.findKey 321 (.agg (Zey x).toArray) l).run prog w= .ok none w:=by
 have hall: ∀ e,e∈l->(Op.equal 321 (.agg (Zey x).toArray) e.key).run prog w= .ok false w:=fun e he=>by
  have:e.key∈l.map (·.key):=List.mem_map.2 ⟨e,he,rfl⟩
  rw[hl]at this;obtain⟨y,hy,hk⟩:=List.mem_map.1 this;rw[<- hk];exact hn y hy w
 have hfa:=Zip l 0 hall;unfold Instr.findKey;simp only[Ye2,Yff underlying321,Yer];cases l with
 | nil=>rfl
 | cons e l=>exact hfa
theorem Zod (h:Zew w r fs)(hn:Zjf x fs):(Instr.lookup 313 (.map (some r)) (.agg (Zey x).toArray) true).run prog w= .ok (.tuple #[.agg #[],.bool false]) w:=by
 obtain⟨es,clock,hb,hm⟩:=h;have hz:(zeroValue 364).run prog w= .ok (.agg #[]) w:=by kernel_rfl
 have hck:=Zkk x es.isEmpty w;have hgo:=Yef (P:=prog) hb;have hfk:=Zl9 (w:=w) hn es.toList hm;simp[Instr.lookup,Yff underlying313,hgo,hfk,hz,hck]
theorem Zxk (h:Zew w r fs)(hn:Zjf x fs): ∃ o,(Instr.mapUpdate 313 (.map (some r)) (.agg (Zey x).toArray) (.agg #[])).run prog w= .ok () {w with heap:=w.heap.setIfInBounds r o}/\Zew {w with heap:=w.heap.setIfInBounds r o} r (fs++[x]):=by
 obtain⟨es,clock,hb,hm⟩:=h;have hck:=Zkk x false w;have hgo:=Yef (P:=prog) hb;have hfk:=Zl9 (w:=w) hn es.toList hm;have hso:=Go.MapKept.run_setObj_map (P:=prog) (.map (es.push {key:= .agg (Zey x).toArray,val:= .agg #[],born:=clock}) (clock+1)) hb;refine⟨.map (es.push {key:= .agg (Zey x).toArray,val:= .agg #[],born:=clock}) (clock+1),?_,es.push {key:= .agg (Zey x).toArray,val:= .agg #[],born:=clock},clock+1,(Go.MapKept.heap_set hb).1,?_⟩
 ·simp[Instr.mapUpdate,Yff underlying313,hgo,hck,hfk,hso]
 ·simp[hm]
end Go.P
namespace Go.P
variable {B b:Nat}{w u:World}{s:ByteArray}
theorem Zxa:(prog.info? 140).map (·.size)=some 2:=by kernel_rfl
theorem Zkp:(prog.info? 5).map (fun i=>(i.zero,i.size,i.bytes))=some (some (.int .u8 0),1,1):=by kernel_rfl
def Zvk (T:TypeId):Prop:=liesAt prog prog.depth T (2 / prog.cellsOf T) 0 140 1=true/\T≠5
def Bld (T B b:Nat) (s:ByteArray) (w:World):Prop:=Lib.IsBuilder T 5 B b (Lib.strCells s) w
structure Fr (B b:Nat) (w w':World):Prop where
 below:Below B w w'
 kept: ∀ k cs t fz,k≠b->t≠5->w.heap[k]?=some (.cells cs t fz)->w'.heap[k]?=some (.cells cs t fz)
theorem Fr.refl (B b:Nat)(w:World):Fr B b w w:=⟨Ydb _ _,fun _ _ _ _ _ _ h=>h⟩
theorem Fr.trans {v:World}(h:Fr B b w u)(k:Fr B b u v):Fr B b w v:=⟨h.below.trans k.below,fun i cs t fz hi ht q=>k.kept i cs t fz hi ht (h.kept i cs t fz hi ht q)⟩
theorem Fr.alloc (h:Fr B b w u)(hB:B<=u.heap.size)(o:Obj):Fr B b w (u.alloc o):=⟨h.below.alloc hB o,fun i cs t fz hi ht q=>by
 have q2:=h.kept i cs t fz hi ht q;exact(Ydf u o i (Ydo.1 q2).1).trans q2⟩
theorem Fr.drew (h:Fr B b w u):Fr B b w u.drew:=⟨h.below.drew,h.kept⟩
theorem Fr.size (h:Fr B b w u):w.heap.size<=u.heap.size:=h.below.size
theorem Fr.blk (h:Fr B b w u){L:Nat}{cs:Array Value}{t:TypeId}(q:Blk w L cs t)(hL:L≠b)(ht:t≠5):Blk u L cs t:=h.kept L cs t (0,0) hL ht q
theorem Z6t (args:Array Value)(w:World):(callFunc 151 args).run prog w=((Extern.AbiNoEscape.same args).run prog w).andThen fun v w=> .ok (.value v) w:=by
 rw[Ye9 func151 (by kernel_rfl) (by kernel_rfl) (by kernel_rfl) (e:=Extern.AbiNoEscape.same) (by kernel_rfl)]
theorem Zhn {T:Nat}(hT:Zvk T)(h:Bld T B b s w):
  Calls prog 104 #[.pointer (some ⟨b,0,none⟩)] w fun e w'=>e= .returned (.tuple #[])/\Lib.BuilderAt T 5 B b (.pointer (some ⟨b,0,none⟩)) (Lib.strCells s) w'/\Fr B b w w':=by
 obtain⟨j,hj,hjs⟩:=Yd0.1 Zxa;rcases h with h | h
 ·have c0:=h.cell0;have f0:=h.frozen0;have e1:=Lib.run_to_unsafe w ⟨b,0,none⟩ underlying138 underlying153 hj (by rw[hjs];decide) h.shape (Nat.zero_lt_succ 1);have e2:=Lib.run_from_unsafe w ⟨b,0,none⟩ underlying153 underlying138 hj h.shape hT.1;have e3:=Z6t #[.pointer (some ⟨b,0,none⟩)] w;rw[Lib.run_noEscape]at e3;simp only[Result.andThen]at e3;have R:=Zaa (Yda (h.used (.pointer (some ⟨b,0,none⟩))) (Fr.mk ((Ydb B w).setCell (p:=⟨b,0,none⟩) h.1 (.pointer (some ⟨b,0,none⟩))) fun k cs t fz hk ht q=>(Ydg w _ _ k hk).trans q));clear h;go_in
  go_wp2
  go_end0
  exact⟨rfl,R.out.1,R.out.2⟩
 ·have c0:=h.cell0;have e1:=Lib.run_neq_ptr_same (P:=prog) w ⟨b,0,none⟩ underlying138 hj;have R:=Zaa h;clear h;go_in
  go_wp2
  go_end0
  exact⟨rfl,R.out,Fr.refl B b _⟩
theorem Ziy (s t:ByteArray):Lib.strCells (s++t)=Lib.strCells s++Lib.strCells t:=by simp[Lib.strCells]
theorem Zxe (c:Nat)(hc:c < 256):Lib.strCells (b1 c)=[.int .u8 (c:Int)]:=by
 simp[Lib.strCells,b1,Nat.mod_eq_of_lt hc]
theorem Zfo {e:TypeId}{v:Value}{n:Nat}{xs:List Value}(h:w.ownsRow B e 1 v n xs): ∃ a c,v= .slice a n c:=by
 rcases h.2 with⟨hv,h0⟩ | ⟨g,cap,cur,hv,_⟩
 ·exact⟨none,0,by rw[hv,h0]⟩
 ·exact⟨_,_,hv⟩
theorem Zdt {T:Nat}(hT:Zvk T)(h:Bld T B b s w)(c:Nat)(hc:c < 256)(hs:s.size < 1000000000)(hB:B<=w.heap.size):
  Calls prog 60 #[.pointer (some ⟨b,0,none⟩),.int .u8 (c:Int)] w fun e w'=>e= .returned .nilIface/\Bld T B b (s++b1 c) w'/\Fr B b w w':=by
 obtain⟨i0,hi,hz0,hz1,hz2⟩:=info_parts Zkp;have C:=Zaa (Zhn hT h);have E:=Zaa (Ziy s (b1 c));have E1:=Zaa (Zxe c hc);have hTe:=hT.2;have hlen:(Lib.strCells s).length < 1000000000:=by rw[Lib.strCells_length];exact hs
 clear h hT;generalize Lib.strCells s=bs at*;go_in
 go_wp2_with fail
 refine C.out.mono ?_;rintro e w1 ⟨rfl,⟨hBb,v,hbk,hown,hne⟩,hb1⟩;obtain⟨va,vc,rfl⟩:=Zfo hown;obtain⟨c0,c1,sf⟩:=Blk.two (w:=w1) (L:=b) (e:=T) hbk;have hlt:b < w1.heap.size:=Blk.lt (w:=w1) (L:=b) (e:=T) hbk;have hsz:=hb1.size;go_wp2_with (at_builtin;refine wpList_append_own _ rfl _ _ 74 rfl B 5 i0 (.int .u8 0) 1 1 underlying74 hi hz0 hz1 hz2 rfl (by decide) _ _ _ rfl (hown.alloc _) ⟨w1.heap.size,0,none⟩ 1 1 [.int .u8 (c:Int)] rfl rfl ?c1 ?c2 ?c3 ?c4 ?c5 ?_)
 case c1=>
  intro j u hj;match j,hj with
  | 0,hj=>simp at hj;subst hj;simp[Addr.add]
 case c2=>intro u hu;simp at hu;subst hu;rfl
 case c3=>unfold maxLen;omega
 case c4=>omega
 case c5=>simp;omega
 intro v2 w2 hown2 hgrow _;obtain⟨va2,vc2,rfl⟩:=Zfo hown2;have hb2:w2.heap[b]?=some (.cells #[.pointer (some ⟨b,0,none⟩),.slice va bs.length vc] T (0,0)):=by
  rw[hgrow.block b (by simp;omega) (fun e=>hne e.symm),Lib.alloc_old w1 _ b hlt];exact hbk
 obtain⟨d0,d1,sf2⟩:=Blk.two (w:=w2) (L:=b) (e:=T) hb2;have R:=Zaa (Yda (Lib.BuilderAt.put (T:=T) (e:=5) hBb hb2 (bs':=bs++[.int .u8 (c:Int)]) (by simpa using hown2) hTe) (Fr.mk (((hb1.below.alloc (by omega) _).grown hgrow (by simp;omega) (fun k hk=>(hown.lt k hk).1)).setCell (p:=⟨b,1,none⟩) hBb (.slice va2 (bs.length+1) vc2)) fun k cs t fz hk ht q=>by
  have q1:=hb1.kept k cs t fz hk ht q;have kl:=(Ydo.1 q1).1;rw[Ydg _ _ _ _ hk,hgrow.block k (by simp;omega) (fun e=>Lib.ownBlock_ne hown q1 ht e.symm),Lib.alloc_old w1 _ k kl];exact q1))
 clear c0 c1 sf hown hown2 hgrow hb2 hbk hb1 hne C;go_wp2
 go_ret
 exact⟨rfl,Or.inr (by rw[E.out,E1.out];exact R.out.1),R.out.2⟩
theorem Zi2 {T:Nat}(hT:Zvk T)(h:Bld T B b s w)(t:ByteArray)(hs:s.size+t.size < 1000000000)(hB:B<=w.heap.size):
  Calls prog 59 #[.pointer (some ⟨b,0,none⟩),.string t] w fun e w'=>e= .returned (.tuple #[.int .i64 t.size,.nilIface])/\Bld T B b (s++t) w'/\Fr B b w w':=by
 obtain⟨i0,hi,hz0,hz1,hz2⟩:=info_parts Zkp;have C:=Zaa (Zhn hT h);have E:=Zaa (Ziy s t);have hTe:=hT.2;have hlen:(Lib.strCells s).length+t.size < 1000000000:=by rw[Lib.strCells_length];exact hs
 have EL:Box ((Lib.strCells s++Lib.strCells t).length=(Lib.strCells s).length+t.size):=⟨by rw[Yeg,Lib.strCells_length t]⟩;clear h hT;generalize Lib.strCells s=bs at*;go_in
 go_wp2_with fail
 refine C.out.mono ?_;rintro e w1 ⟨rfl,⟨hBb,v,hbk,hown,hne⟩,hb1⟩;obtain⟨va,vc,rfl⟩:=Zfo hown;obtain⟨c0,c1,sf⟩:=Blk.two (w:=w1) (L:=b) (e:=T) hbk;have hlt:b < w1.heap.size:=Blk.lt (w:=w1) (L:=b) (e:=T) hbk;have hsz:=hb1.size;go_wp2_with (at_builtin;refine Lib.wpList_append_own_string _ rfl _ _ 74 9 rfl B 5 i0 underlying74 underlying9 hi hz0 hz1 hz2 _ _ _ rfl hown t rfl ?c3 ?c4 ?c5 ?_)
 case c3=>unfold maxLen;omega
 case c4=>omega
 case c5=>omega
 intro v2 w2 hown2 hgrow _;obtain⟨va2,vc2,rfl⟩:=Zfo hown2;have hb2:w2.heap[b]?=some (.cells #[.pointer (some ⟨b,0,none⟩),.slice va bs.length vc] T (0,0)):=by
  rw[hgrow.block b hlt (fun e=>hne e.symm)];exact hbk
 obtain⟨d0,d1,sf2⟩:=Blk.two (w:=w2) (L:=b) (e:=T) hb2;have R:=Zaa (Yda (Lib.BuilderAt.put (T:=T) (e:=5) hBb hb2 (bs':=bs++Lib.strCells t) (by rw[EL.out];exact hown2) hTe) (Fr.mk ((hb1.below.grown hgrow (by omega) (fun k hk=>(hown.lt k hk).1)).setCell (p:=⟨b,1,none⟩) hBb (.slice va2 (bs.length+t.size) vc2)) fun k cs t fz hk ht q=>by
  have q1:=hb1.kept k cs t fz hk ht q;have kl:=(Ydo.1 q1).1;rw[Ydg _ _ _ _ hk,hgrow.block k kl (fun e=>Lib.ownBlock_ne hown q1 ht e.symm)];exact q1))
 clear c0 c1 sf hown hown2 hgrow hb2 hbk hb1 hne C;go_wp2
 go_ret2
 exact⟨rfl,Or.inr (by rw[E.out];exact R.out.1),R.out.2⟩
theorem Bld.form {T:Nat}(h:Bld T B b s w): ∃ p va vc,Blk w b #[p,.slice va s.size vc] T/\w.ownsRow B 5 1 (.slice va s.size vc) s.size (Lib.strCells s)/\B<=b:=by
 rcases h with⟨hBb,v,hbk,hown,hne⟩ | ⟨hBb,v,hbk,hown,hne⟩;all_goals
  rw[Lib.strCells_length]at hown;obtain⟨va,vc,rfl⟩:=Zfo hown;exact⟨_,va,vc,hbk,hown,hBb⟩
theorem Bld.drew {T:Nat}(h:Bld T B b s w):Bld T B b s w.drew:=h
theorem Bld.alloc {T:Nat}(h:Bld T B b s w)(o:Obj):Bld T B b s (w.alloc o):=by
 rcases h with⟨hBb,v,hbk,hown,hne⟩ | ⟨hBb,v,hbk,hown,hne⟩
 ·exact Or.inl ⟨hBb,v,Blk.alloc (w:=w) (L:=b) (e:=T) hbk o,hown.alloc o,hne⟩
 ·exact Or.inr ⟨hBb,v,Blk.alloc (w:=w) (L:=b) (e:=T) hbk o,hown.alloc o,hne⟩
theorem Z9i {T:Nat}(h:Bld T B b s w):
  Calls prog 74 #[.pointer (some ⟨b,0,none⟩)] w fun e w'=>e= .returned (.int .i64 (s.size:Int))/\w'=w:=by
 obtain⟨p,va,vc,hbk,_,_⟩:=h.form;obtain⟨c0,c1,sf⟩:=hbk.two;go_in
 go_wp2
 go_ret
 exact⟨rfl,rfl⟩
theorem Zno:prog.cellsOf 5=1:=by kernel_rfl
theorem Zrc {T:Nat}(h:Bld T B b s w)(hs:s.size < 1000000000)(hB:B<=w.heap.size):
  Calls prog 64 #[.pointer (some ⟨b,0,none⟩)] w fun e w'=>e= .returned (.string s)/\Below B w w':=by
 obtain⟨p,va,vc,hbk,hown,hBb⟩:=h.form;obtain⟨c0,c1,sf⟩:=hbk.two;by_cases h0:s.size=0
 ·obtain rfl:s=ByteArray.empty:=Zhg ((Yds ((Zd7 s).trans h0)).trans (by rw[Yd3];rfl));have hUS:=fun q u=>Lib.run_unsafeString_none (P:=prog) u 208 3 9 q;rcases hown.2 with⟨hv,_⟩ | ⟨g,cap,cur,hv,hBg,hg,hnc,hcm,hcs,_⟩
  ·injection hv with hv1 hv2 hv3;subst hv1 hv3;have hSD:=fun u=>Lib.run_unsafeSliceData_nil (P:=prog) u #[74] 208 0 0;clear h hown;go_in
   go_wp2
   go_region
   all_goals (go_wp2;go_ret;exact⟨rfl,(Ydb B w).drew⟩)
  ·injection hv with hv1 hv2 hv3;subst hv1 hv3;clear h hown;by_cases hc0:vc=0
   ·subst hc0;have hsh: ∀ u:World,u.heap=w.heap->u.shape? g=some (5,cur.size):=fun u hu=>by simp[World.shape?,hu,hg]
    have hblt:=hbk.lt;have c1':=fun o=>((Blk.alloc hbk o).two).2.1;have hSD:=Lib.run_unsafeSliceData_zero (P:=prog) w.drew #[74] 208 5 underlying208 ⟨g,0,none⟩ 0 _ (hsh w.drew rfl);go_in
    go_wp2
    go_region
    all_goals (go_wp2;go_ret;exact⟨rfl,((Ydb B w).alloc hB _).drew⟩)
   ·have hSD:=fun u=>Lib.run_unsafeSliceData_row (P:=prog) u #[74] 208 ⟨g,0,none⟩ 0 vc hc0;go_in
    go_wp2
    go_region
    all_goals (go_wp2;go_ret;exact⟨rfl,(Ydb B w).drew⟩)
 ·obtain⟨g,cap,cur,hv,hBg,hg,hnc,hcm,hcs,htk⟩: ∃ g cap cur,Value.slice va s.size vc= .slice (some ⟨g,0,none⟩) s.size cap/\B<=g/\w.heap[g]?=some (.cells cur 5 (0,0))/\s.size<=cap/\cap<=maxLen/\cur.size=cap*1/\cur.toList.take (s.size*1)=Lib.strCells s:=by
   rcases hown.2 with⟨_,hz⟩ | ⟨g,cap,cur,hv,r⟩
   ·exact absurd hz h0
   ·exact⟨g,cap,cur,hv,r⟩
  injection hv with hv1 hv2 hv3;subst hv1 hv3;have hne:s.data.toList≠[]:=fun q=>h0 (by show s.data.size=0;rw[<- Yep,q];rfl);have hSD:=fun u=>Lib.run_unsafeSliceData_row (P:=prog) u #[74] 208 ⟨g,0,none⟩ s.size vc (by omega);have hUS:(Builtin.unsafeString_ #[208,3] 9 #[.pointer (some ⟨g,0,none⟩),.int .i64 (s.size:Int)]).run prog w.drew= .ok (.string s) (w.drew.freeze ⟨g,0,none⟩ s.size):=
   Lib.run_unsafeString_row w.drew 208 3 9 5 underlying208 Zno g cur.size (by have hg':w.drew.heap[g]?=some (.cells cur 5 (0,0)):=hg;simp[World.shape?,hg']) s.data.toList hne (by rw[Yep];show s.size<=_;omega) (by rw[Yep];show s.size<=_;omega) (fun j x hx=>hown.cells (g:=g) rfl j (.int .u8 x.toNat) (by simp[Lib.strCells,hx]))
  clear h hown htk hg;go_in
  go_wp2
  go_region
  all_goals (go_wp2;go_ret;exact⟨rfl,Lib.below_freeze ((Ydb B w).drew) (p:=⟨g,0,none⟩) hBg _⟩)
end Go.P
namespace Go.W
variable {f n:Nat}
theorem Zsf (h:128<=n):Zq2 (f+1) n=b1 (n % 128+128)++Zq2 f (n / 128):=by rw[Zq2,if_pos h]
theorem Zlv (h:n < 128):Zq2 f n=b1 n:=by cases f with
 | zero=>rfl
 | succ f=>rw[Zq2,if_neg (by omega)]
theorem Zco (n:Nat):(b1 n).size=1:=rfl
theorem Zay (a b c:ByteArray):a++b++c=a++(b++c):=ByteArray.append_assoc
theorem Zae (a b:ByteArray):(a++b).size=a.size+b.size:=ByteArray.size_append
end Go.W
namespace Go.P
variable {B b:Nat}{s:ByteArray}{w:World}
theorem Ybt: ∀ X:Fin 256,bits .or .u8 ((X.val:Nat):Int) 128=((X.val % 128+128:Nat):Int):=by decide
theorem Yci (m:Nat):bits .or .u8 ((m:Int) % 256) 128=((m % 128+128:Nat):Int):=by
 have h:=Ybt ⟨m % 256,Nat.mod_lt _ (by omega)⟩;have e:(m % 256) % 128=m % 128:=by omega
 simp only[e]at h;rw[<- h];rfl
def Zf8 (T B b:Nat) (s:ByteArray) (w:World) (e:Ending) (w':World):Prop:=e= .returned (.tuple #[])/\Bld T B b s w'/\Fr B b w w'
def Yao (T B b:Nat) (s:ByteArray) (w:World) (nv:Value) (wr:World):Prop:= ∃ (f n:Nat) (s':ByteArray),n < 2 ^ (7*f+1)/\n < 18446744073709551616/\f<=10/\nv= .int .u64 (n:Int)/\s'++Zq2 f n=s/\Bld T B b s' wr/\Fr B b w wr
theorem Zea (hT:Zvk 142)(h:Bld 142 B b s w)(n:Nat)(hn:n < 18446744073709551616)(hs:s.size+(Zel n).size < 1000000000)(hB:B<=w.heap.size):
  Calls prog 105 #[.pointer (some ⟨b,0,none⟩),.int .u64 (n:Int)] w (Zf8 142 B b (s++Zel n) w):=by
 go_in
 go_wp2
 go_loopw [1] (fun nv wr=>Yao 142 B b (s++Zel n) w nv wr) (fun nv _=>(intOf nv).toNat)
 case atStart=>exact⟨10,n,s,by omega,hn,by omega,rfl,rfl,h,Fr.refl _ _ _⟩
 case round=>
  obtain⟨f,m,s1,hf,hm,hf10,rfl,hE,hb,hw⟩:=hrel;have hsz:s1.size+(Zq2 f m).size=s.size+(Zel n).size:=by rw[<- Zae,hE,Zae]
  by_cases hlt:128<=m
  ·obtain⟨f,rfl⟩: ∃ g,f=g+1:=⟨f - 1,by
    rcases Nat.eq_zero_or_pos f with rfl | h
    ·omega
    ·omega⟩
   rw[Zsf hlt,Zae,Zco]at hsz;rw[Zsf hlt]at hE;have C:=Zaa (Zdt hT hb (m % 128+128) (by omega) (by omega) (Ydc hB hw.size));have h1:(128:Int)<=(m:Int):=by omega
   go_wp2_with fail
   rw[Yci];refine C.out.mono ?_;rintro e w1 ⟨rfl,hb1,hw1⟩;have R:=Zaa (Yda hb1 (hw.trans hw1));clear hb hw hb1 hw1 C;go_wp2_with fail
   refine⟨⟨f,m / 128,s1++b1 (m % 128+128),?_,by omega,by omega,by simp,by rw[Zay,hE],R.out.1,R.out.2⟩,by simp[intOf];omega⟩;rw[show 7*(f+1)+1=7*f+1+7 by omega,Nat.pow_add]at hf;omega
  ·rw[Zlv (by omega)]at hsz hE;rw[Zco]at hsz;have C:=Zaa (Zdt hT hb m (by omega) (by omega) (Ydc hB hw.size));have h1: ¬ (128:Int)<=(m:Int):=by omega
   have h2:(m:Int) % 256=(m:Int):=by omega
   go_wp2_with fail
   refine C.out.mono ?_;rintro e w1 ⟨rfl,hb1,hw1⟩;have R:=Zaa (Yda hb1 (hw.trans hw1));clear hb hw hb1 hw1 C;go_wp2
   go_end0
   exact⟨rfl,hE▸R.out.1,R.out.2⟩
theorem Zq1 {n:Nat}(h:n < 128):Zel n=b1 n:=Zlv h
theorem Zsv (hT:Zvk 142)(h:Bld 142 B b s w)(t:ByteArray)(hs:s.size+(Zb4 t).size < 1000000000)(hB:B<=w.heap.size):
  Calls prog 106 #[.pointer (some ⟨b,0,none⟩),.string t] w (Zf8 142 B b (s++Zb4 t) w):=by
 have hs':s.size+(Zel t.size).size+t.size < 1000000000:=by rw[Zb4,Zae]at hs;omega
 have E:Box (s++Zel t.size++t=s++Zb4 t):=⟨by rw[Zb4,Zay]⟩;have C:=Zaa (Zea hT h t.size (by omega) (by omega) hB);have C2:=Zaa (fun u (hu:Bld 142 B b (s++Zel t.size) u) (hb:Fr B b w u)=>Zi2 hT hu t (by rw[Zae];omega) (Ydc hB hb.size));clear h hs;go_in
 go_wp2_with fail
 refine C.out.mono ?_;rintro e w1 ⟨rfl,hb1,hw1⟩;have CC:=Zaa (C2.out _ hb1 hw1);have W1:=Zaa hw1;clear hb1 hw1 C C2;go_wp2_with fail
 refine CC.out.mono ?_;rintro e w2 ⟨rfl,hb2,hw2⟩;go_wp2
 go_end0
 exact⟨rfl,E.out▸hb2,W1.out.trans hw2⟩
end Go.P
namespace Go.W
theorem Zvu {α:Type}(f:α->ByteArray): ∀ l r:List α,cat f (l++r)=cat f l++cat f r
 | [],r=>by simp[cat]
 | x::l,r=>by rw[Ydv,cat,cat,Zvu f l r,Zay]
theorem Zgc {α:Type}(f:α->ByteArray){l:List α}{q:Nat}(h:q < l.length):cat f (l.take (q+1))=cat f (l.take q)++f l[q]:=by
 rw[List.take_succ_eq_append_getElem h,Zvu];simp[cat]
theorem Zqj {α:Type}(f:α->ByteArray)(l:List α)(q:Nat):(cat f (l.take q)).size<=(cat f l).size:=by
 have h:=congrArg ByteArray.size (Zvu f (l.take q) (l.drop q));rw[List.take_append_drop,Zae]at h;omega
end Go.W
namespace Go.P
theorem Z7u (a:Nat)(h:a < 18446744073709551616):a ^^^ 18446744073709551615=18446744073709551615 - a:=by
 have e:=congrArg BitVec.toNat (BitVec.xor_allOnes (x:=BitVec.ofNat 64 a));rw[BitVec.toNat_xor,BitVec.toNat_not,BitVec.toNat_allOnes,BitVec.toNat_ofNat,Nat.mod_eq_of_lt h]at e;exact e
theorem Z6e (i:Int)(hi:Zlg i):bits .xor .u64 (IntKind.u64.wrap (IntKind.u64.wrap i*2)) (IntKind.u64.wrap (i / 9223372036854775808))=(Zjg i:Int):=by
 obtain⟨h1,h2⟩:=hi;simp only[IntKind.wrap_u64];unfold Zjg;by_cases h:i < 0
 ·rw[if_pos h];have e1:i % 18446744073709551616*2 % 18446744073709551616=((2*i+18446744073709551616).toNat:Int):=by omega
  have e2:i / 9223372036854775808 % 18446744073709551616=((18446744073709551615:Nat):Int):=by omega
  rw[e1,e2,u64_xor_nat _ _ (by omega) (by omega),Z7u _ (by omega)];omega
 ·rw[if_neg h];have e1:i % 18446744073709551616*2 % 18446744073709551616=((2*i).toNat:Int):=by omega
  have e2:i / 9223372036854775808 % 18446744073709551616=((0:Nat):Int):=by omega
  rw[e1,e2,u64_xor_nat _ _ (by omega) (by omega),Nat.xor_zero]
theorem Zfi:Zvk 142:=⟨by kernel_rfl,by decide⟩
def Zlj {α:Type} (T B b:Nat) (s:ByteArray) (f:α->ByteArray) (w:World) (l:List α) (iv:Value) (wr:World):Prop:= ∃ q:Nat,q<=l.length/\iv= .int .i64 q/\Bld T B b (s++cat f (l.take q)) wr/\Fr B b w wr
theorem Z0h (i:Int)(hi:Zlg i)(w:World):Calls prog 194 #[.int .i64 i] w fun e w'=>e= .returned (.int .u64 (Zjg i:Int))/\w'=w:=by
 go_in
 go_wp2
 go_ret
 exact⟨Z4l (Z6e i hi),rfl⟩
end Go.P
