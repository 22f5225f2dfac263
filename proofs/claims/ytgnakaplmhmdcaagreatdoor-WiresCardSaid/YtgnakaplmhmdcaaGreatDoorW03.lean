import Derived.Test.YtgnakaplmhmdcaaGreatDoorW02
import Derived.Lib.Builder
import Derived.Lib.AppendStr
import Derived.Lib.UnsafeStr
set_option maxRecDepth 100000
set_option maxHeartbeats 8000000
open Go.Proofs Go.RowKit Go.W
namespace Go.W
structure Tk where
 at_:Nat
 text:ByteArray
 k:Int
 i:Int
 s:ByteArray
theorem Zbn (t:ByteArray):(Zab t).length=t.size:=by simp[Zab]
theorem Blk.eight {w:World}{L:Nat}{e:TypeId}{a b c d f g i j:Value}(h:Blk w L #[a,b,c,d,f,g,i,j] e):w.cell? ⟨L,0,none⟩=some a/\w.cell? ⟨L,1,none⟩=some b/\w.cell? ⟨L,2,none⟩=some c/\w.cell? ⟨L,3,none⟩=some d/\w.cell? ⟨L,4,none⟩=some f/\w.cell? ⟨L,5,none⟩=some g/\w.cell? ⟨L,6,none⟩=some i/\w.cell? ⟨L,7,none⟩=some j/\ ∀ j,w.frozen? ⟨L,j,none⟩=false:=⟨h.cell 0,h.cell 1,h.cell 2,h.cell 3,h.cell 4,h.cell 5,h.cell 6,h.cell 7,h.soft⟩
end Go.W
namespace Go.P
variable {w:World}{b p q:Nat}{t:ByteArray}{x:Tk}
def Rd (w:World) (b:Nat) (t:ByteArray) (p:Nat) (x:Tk):Prop:=Blk w b #[.string t,.int .i64 (p:Int),.int .i64 (x.at_:Int),.string x.text,.int .i64 x.k,.int .i64 x.i,.string x.s,.slice none 0 0] 173/\t.size<=8000/\p<=t.size/\23<=b
theorem Rd.dr (h:Rd w b t p x)(n:Nat):Rd (w.drewN n) b t p x:=h
theorem Rd.of {u:World}(h:Rd w b t p x)(k:Below w.heap.size w u):Rd u b t p x:=⟨h.1.of (k.block b h.1.lt),h.2⟩
theorem Rd.goes (h:Rd w b t p x)(hq:q<=t.size):Rd (w.setCell ⟨b,1,none⟩ (.int .i64 (q:Int))) b t q x:=⟨h.1.set 1 _,h.2.1,hq,h.2.2.2⟩
theorem Zwy (h:Rd w b t p x):Calls Tryz.prog 175 #[.pointer (some ⟨b,0,none⟩)] w fun e w'=>e= .returned (.int .u8 ((Zab t).getD p 0:Nat))/\ ∃ m,w'=w.drewN m:=by
 obtain⟨hb,ht,hp,hg⟩:=h;obtain⟨c0,c1,-,-,-,-,-,-,sf⟩:=hb.eight;clear hb;by_cases hlt:p < t.size
 ·have g:((p:Int)==(t.size:Int))=false:=by rw[beq_eq_false_iff_ne];omega
  have hx:=Zhp t p hlt;go_enter Tryz.func175,Tryz.ntmps175
  go_wp2_with fail
  go_quiet (fail)
  go_wp2_with fail
  go_quiet (fail)
  go_wp2_with fail
  go_ret
  exact⟨by simp,by first | exact⟨_,rfl⟩ | exact⟨_,World.drewN_drewN ..⟩⟩
 ·obtain rfl:p=t.size:=by omega
  go_enter Tryz.func175,Tryz.ntmps175
  go_wp2_with fail
  go_quiet (fail)
  go_wp2_with fail
  all_goals go_ret
  exact⟨by simp[List.getD,Zbn],_,rfl⟩
theorem Zkf (h:Rd w b t p x):Calls Tryz.prog 175 #[.pointer (some ⟨b,0,none⟩)] w fun e w'=>e= .returned (.int .u8 ((Zab t).getD p 0:Nat))/\Below w.heap.size w w':=
 (Zwy h).mono fun _ _ ⟨he,m,hm⟩=>⟨he,by rw[hm];exact Zb2 (Yct _ w)⟩
def Yaq (K:Nat) (ok:Nat->Bool):Prop:=Zam K/\ ∀ c w,Calls Tryz.prog K #[.int .u8 ((c:Nat):Int)] w fun e w'=>e= .returned (.bool (ok c))/\w'=w
def Ya0 (b:Nat) (ok:Nat->Bool) (w:World) (t:ByteArray) (p:Nat) (x:Tk) (wr:World):Prop:= ∃ q,p<=q/\Rd wr b t q x/\Zaf b w wr/\Zbv (Zab t) ok q=Zbv (Zab t) ok p
def Zm6 (b:Nat) (w:World):Nat:=match w.cell? ⟨b,1,none⟩with
 | some (.int _ p)=>p.toNat
 | _=>0
theorem Zd3 (h:Rd w b t p x):Zm6 b w=p:=by
 unfold Zm6;rw[h.1.eight.2.1];rfl
theorem Z2c (ok:Nat->Bool)(h:q < t.size):(ok ((Zab t).getD q 0)=true->Zbv (Zab t) ok (q+1)=Zbv (Zab t) ok q)/\(ok ((Zab t).getD q 0)=false->Zbv (Zab t) ok q=q):=by
 have hl:=Zbn t;unfold Zbv;rw[hl,show t.size - q=(t.size - (q+1))+1 by omega];exact⟨fun g=>by rw[Zj3,if_pos ⟨by omega,g⟩],fun g=>by rw[Zj3,if_neg (fun z=>by rw[g]at z;cases z.2)]⟩
theorem Z5o (t:ByteArray)(ok:Nat->Bool):Zbv (Zab t) ok t.size=t.size:=by
 unfold Zbv;rw[Zbn,Nat.sub_self];rfl
theorem Zoo {K:Nat}{ok:Nat->Bool}(F:Yaq K ok)(h:Rd w b t p x):
  Calls Tryz.prog 172 #[.pointer (some ⟨b,0,none⟩),.func (.func K) #[] #[]] w fun e w'=>e= .returned (.string (t.extract p (Zbv (Zab t) ok p)))/\Zaf b w w'/\Rd w' b t (Zbv (Zab t) ok p) x:=by
 have hp:=h.2.2.1;go_enter Tryz.func172,Tryz.ntmps172
 obtain⟨c0,c1,-,-,-,-,-,-,sf⟩:=h.1.eight;have H:=Zaa h;clear h;go_wp2_with fail
 go_loopw [13] (fun _ wr=>Ya0 b ok w t p x wr) (fun _ wr=>t.size - Zm6 b wr)
 case atStart=>exact⟨p,Ydu _,H.out,Zaf.refl _ _,rfl⟩
 case round=>
  obtain⟨q,hq,hR,hK,hE⟩:=hrel;clear c0 c1 sf H;have h3:=hR.2.2.1;have ht:=hR.2.1;have hM:=Zd3 hR;obtain⟨c0,c1,-,-,-,-,-,-,sf⟩:=hR.1.eight;have HR:=Zaa hR;have HK:=Zaa hK;have HE:=Zaa hE;clear hR hK hE;by_cases hlt:q < t.size
  ·have g:(q:Int) < (t.size:Int):=by omega
   have hx:=Zhp t q hlt;have C:=Zaa (F.2 ((Zab t).getD q 0));have hen:=F.1;unfold Zam at hen;have S:=Zaa (Z2c ok hlt);clear F;generalize (Zab t).getD q 0=c at*;cases hok:ok c
   ·rw[hok]at C;have E:Box (Zbv (Zab t) ok p=q):=⟨HE.out.symm.trans (S.out.2 hok)⟩;go_wp2_with fail
    go_quiet ((exact Calls.quiet_of_same (C.out _)))
    go_wp2_with fail
    go_quiet (fail)
    go_wp2_with fail
    go_ret
    rw[E.out];exact⟨by simp,(HK.out.dr _).dr _,HR.out⟩
   ·rw[hok]at C;go_wp2_with fail
    go_quiet ((exact Calls.quiet_of_same (C.out _)))
    go_wp2_with fail
    go_roundw
    case rel=>exact⟨q+1,by omega,by have:=(HR.out.dr nq).goes (q:=q+1) hlt;simpa using this,(HK.out.dr _).set _ _,(S.out.1 hok).trans HE.out⟩
    case measure=>
     have:=Zd3 ((HR.out.dr nq).goes (q:=q+1) hlt)
     simp at this;rw[hM,this];omega
  ·obtain rfl:q=t.size:=by omega
   have E:Box (Zbv (Zab t) ok p=t.size):=⟨HE.out.symm.trans (Z5o t ok)⟩;go_wp2_with fail
   go_quiet (fail)
   go_wp2_with fail
   go_quiet (fail)
   go_wp2_with fail
   go_ret
   rw[E.out];exact⟨by simp,(HK.out.dr _).dr _,HR.out⟩
end Go.P
namespace Go.P
variable {w:World}{xs:List (ByteArray×Nat)}
theorem Zhh.one {v:Value}(h:Zhh w v xs):v.oneCell'=true:=by
 rcases h with⟨rfl,_⟩ | ⟨m,rfl,_⟩ <;> rfl
theorem Zqi {mv:Value}(hm:Zhh w mv xs)(hv: ∀ m,mv= .map (some m)->m < w.heap.size)(p:Option Addr)(n k:Nat){g c:Nat}{s:ByteArray×Nat}(hg:Zdl w g s)(pn:ByteArray):
  Calls Tryz.prog 221 #[.agg #[.string pn,.slice (some ⟨g,0,none⟩) 1 c],.agg #[mv,.slice p n k]] w fun e w'=>e= .returned (.agg (Zem (pn,(Zbm xs s).1)).toArray)/\Below w.heap.size w w':=by
 obtain⟨hgl,g0,g1,hsz⟩:=hg;have hone:=Zhh.one hm;obtain⟨Z,hZ⟩: ∃ Z:Array Value,Z=#[.string ⟨#[]⟩,.int .i64 0,.int .i64 0,.int .i64 0,.int .i64 0,.int .i64 0,.int .i64 0,.int .i64 0]:=⟨_,rfl⟩;obtain⟨f0,hf0⟩: ∃ f0:Array Value,f0=#[.string pn,.int .i64 1,.int .i64 0,.int .i64 0,.int .i64 0,.int .i64 0,.int .i64 0,.int .i64 0]:=⟨_,rfl⟩;obtain⟨W4,hW4⟩: ∃ W4,Box ((((w.alloc (.cells #[.string pn,.slice (some ⟨g,0,none⟩) 1 c] 321)).alloc (.cells #[mv,.slice p n k] 325)).alloc (.cells Z 318)).alloc (.cells f0 318)=W4):=⟨_,⟨rfl⟩⟩;have B4:Box (Below w.heap.size w W4):=⟨hW4.out▸((((Yct _ w).alloc lr _).alloc (by simp) _).alloc (by simp;omega) _).alloc (by simp;omega) _⟩;have S4:Box (W4.heap.size=w.heap.size+4):=⟨by rw[<- hW4.out];simp⟩;have L1:Box (Blk W4 (w.heap.size+1) #[mv,.slice p n k] 325):=⟨hW4.out▸((Zpo w _ _ _).alloc _).alloc _⟩;have L2:Box (Blk W4 (w.heap.size+1+1) Z 318):=⟨hW4.out▸(Z1v w _ _ _ _).alloc _⟩;have L3:Box (Blk W4 (w.heap.size+1+1+1) f0 318):=⟨hW4.out▸by have:=Blk.new (((w.alloc (.cells #[.string pn,.slice (some ⟨g,0,none⟩) 1 c] 321)).alloc (.cells #[mv,.slice p n k] 325)).alloc (.cells Z 318)) f0 318;rwa [Yc4,Yc4,Yc4]at this⟩;subst hZ hf0;have g0':=(Ycw (a:=⟨g,0,none⟩) (B4.out.block g hgl)).trans g0;have g1':=(Ycw (a:=⟨g,1,none⟩) (B4.out.block g hgl)).trans g1;have B5:=fun o=>(Yct W4.heap.size W4).alloc lr o;have CO:=Zaa (fun o=>Zv6 (w:=W4.alloc o) (q:=w.heap.size+1) (o:=0) (v:=mv) (xs:=xs) (hm.of fun m h=>((B5 o).block m (by have:=hv m h;have:=S4.out;omega)).trans (B4.out.block m (hv m h))) ((L1.out.alloc o).cell 0) ((L1.out.alloc o).lt) (fun m h=>by have:=hv m h;have:=S4.out;simp;omega) s hsz);clear hm hv;go_enter Tryz.func221,Tryz.ntmps221
 go_wp2_with fail
 rw[hW4.out];clear hW4;refine wp_loop_rounds 2 ?_;rw[rounds_succ];go_wp2_with fail
 refine(CO.out _).mono ?_;rintro e w5 ⟨rfl,hb5⟩;have hz:=S4.out;have K2:=Zaa ((L2.out.alloc _).of (hb5.block (w.heap.size+1+1) (by simp;omega)));have K3:=Zaa ((L3.out.alloc _).of (hb5.block (w.heap.size+1+1+1) (by simp;omega)));obtain⟨y0,y1,y2,y3,y4,y5,y6,y7,sf⟩:=K3.out.eight;obtain⟨x0,x1,x2,x3,x4,x5,x6,x7,sx⟩:=K2.out.eight;have HB:=Zaa ((B4.out.trans ((B5 _).mono B4.out.size)).trans (hb5.mono (by simp;omega)));clear hb5 CO hz B5;go_wp2_with fail
 rw[rounds_succ];go_wp2_with fail
 refine bodyPost_ret (by simp[results,Tryz.results221,go_sem,x0,x1,x2,x3,x4,x5,x6,x7];try rfl) rfl ?_;have hle:w.heap.size<=w.heap.size+1+1:=by omega
 exact⟨rfl,(((((((((HB.out.setCell (p:=⟨w.heap.size+1+1+1,2,none⟩) (by show _<=w.heap.size+1+1+1;omega) _).setCell (p:=⟨w.heap.size+1+1,0,none⟩) hle _).setCell (p:=⟨w.heap.size+1+1,1,none⟩) hle _).setCell (p:=⟨w.heap.size+1+1,2,none⟩) hle _).setCell (p:=⟨w.heap.size+1+1,3,none⟩) hle _).setCell (p:=⟨w.heap.size+1+1,4,none⟩) hle _).setCell (p:=⟨w.heap.size+1+1,5,none⟩) hle _).setCell (p:=⟨w.heap.size+1+1,6,none⟩) hle _).setCell (p:=⟨w.heap.size+1+1,7,none⟩) hle _)⟩
end Go.P
namespace Go.W
def Zep (w:World) (r:Nat) (fs:List (ByteArray×Nat)):Prop:= ∃ es clock,w.heap[r]?=some (.map es clock)/\es.toList.map (·.key)=fs.map fun x=>Value.agg (Zem x).toArray
theorem Zid {P:Program}{kt:TypeId}{k:Value}{w:World}: ∀ (l:List MapEntry) (i:Nat),(∀ e,e∈l->(Op.equal kt k e.key).run P w= .ok false w)->(Instr.findAsking kt k l i).run P w= .ok none w
 | [],_,_=>rfl
 | e::l,i,h=>by
  unfold Instr.findAsking;simp only[Yek,h e (by simp),Yd9];exact Zid l (i+1) fun e he=>h e (by simp[he])
end Go.W
namespace Go.P
variable {w:World}{x:ByteArray×Nat}{fs:List (ByteArray×Nat)}{r:Nat}
theorem Zkn (x:ByteArray×Nat)(b:Bool)(w:World):(Instr.checkKey b 10000 318 (.agg (Zem x).toArray)).run Tryz.prog w= .ok () w:=by kernel_rfl
def Zi8 (x:ByteArray×Nat) (fs:List (ByteArray×Nat)):Prop:= ∀ y,y∈fs-> ∀ w,(Op.equal 318 (.agg (Zem x).toArray) (.agg (Zem y).toArray)).run Tryz.prog w= .ok false w
theorem Zl2 (hn:Zi8 x fs)(l:List MapEntry)(hl:l.map (·.key)=fs.map fun x=>Value.agg (Zem x).toArray):(Instr.findKey 318 (.agg (Zem x).toArray) l).run Tryz.prog w= .ok none w:=by
 have hall: ∀ e,e∈l->(Op.equal 318 (.agg (Zem x).toArray) e.key).run Tryz.prog w= .ok false w:=fun e he=>by
  have:e.key∈l.map (·.key):=List.mem_map.2 ⟨e,he,rfl⟩
  rw[hl]at this;obtain⟨y,hy,hk⟩:=List.mem_map.1 this;rw[<- hk];exact hn y hy w
 have hfa:=Zid l 0 hall;unfold Instr.findKey;simp only[Yek,run_underlying Tryz.underlying318,Yd9];cases l with
 | nil=>rfl
 | cons e l=>exact hfa
theorem Zoh (h:Zep w r fs)(hn:Zi8 x fs):(Instr.lookup 310 (.map (some r)) (.agg (Zem x).toArray) true).run Tryz.prog w= .ok (.tuple #[.agg #[],.bool false]) w:=by
 obtain⟨es,clock,hb,hm⟩:=h;have hz:(zeroValue 357).run Tryz.prog w= .ok (.agg #[]) w:=by kernel_rfl
 have hck:=Zkn x es.isEmpty w;have hgo:=Ydx (P:=Tryz.prog) hb;have hfk:=Zl2 (w:=w) hn es.toList hm;simp[Instr.lookup,run_underlying Tryz.underlying310,hgo,hfk,hz,hck]
theorem Zwl (h:Zep w r fs)(hn:Zi8 x fs): ∃ o,(Instr.mapUpdate 310 (.map (some r)) (.agg (Zem x).toArray) (.agg #[])).run Tryz.prog w= .ok () {w with heap:=w.heap.setIfInBounds r o}/\Zep {w with heap:=w.heap.setIfInBounds r o} r (fs++[x]):=by
 obtain⟨es,clock,hb,hm⟩:=h;have hck:=Zkn x false w;have hgo:=Ydx (P:=Tryz.prog) hb;have hfk:=Zl2 (w:=w) hn es.toList hm;have hso:=Go.MapKept.run_setObj_map (P:=Tryz.prog) (.map (es.push {key:= .agg (Zem x).toArray,val:= .agg #[],born:=clock}) (clock+1)) hb;refine⟨.map (es.push {key:= .agg (Zem x).toArray,val:= .agg #[],born:=clock}) (clock+1),?_,es.push {key:= .agg (Zem x).toArray,val:= .agg #[],born:=clock},clock+1,(Go.MapKept.heap_set hb).1,?_⟩
 ·simp[Instr.mapUpdate,run_underlying Tryz.underlying310,hgo,hck,hfk,hso]
 ·simp[hm]
end Go.P
namespace Go.P
variable {B b:Nat}{w u:World}{s:ByteArray}
theorem Zwc:(Tryz.prog.info? 78).map (·.size)=some 2:=by kernel_rfl
theorem Zkr:(Tryz.prog.info? 5).map (fun i=>(i.zero,i.size,i.bytes))=some (some (.int .u8 0),1,1):=by kernel_rfl
def Zwz (T:TypeId):Prop:=liesAt Tryz.prog Tryz.prog.depth T (2 / Tryz.prog.cellsOf T) 0 78 1=true/\T≠5
def Bld (T B b:Nat) (s:ByteArray) (w:World):Prop:=Lib.IsBuilder T 5 B b (Lib.strCells s) w
structure Fr (B b:Nat) (w w':World):Prop where
 below:Below B w w'
 kept: ∀ k cs t fz,k≠b->t≠5->w.heap[k]?=some (.cells cs t fz)->w'.heap[k]?=some (.cells cs t fz)
theorem Fr.refl (B b:Nat)(w:World):Fr B b w w:=⟨Yct _ _,fun _ _ _ _ _ _ h=>h⟩
theorem Fr.trans {v:World}(h:Fr B b w u)(k:Fr B b u v):Fr B b w v:=⟨h.below.trans k.below,fun i cs t fz hi ht q=>k.kept i cs t fz hi ht (h.kept i cs t fz hi ht q)⟩
theorem Fr.alloc (h:Fr B b w u)(hB:B<=u.heap.size)(o:Obj):Fr B b w (u.alloc o):=⟨h.below.alloc hB o,fun i cs t fz hi ht q=>by
 have q2:=h.kept i cs t fz hi ht q;exact(Ycx u o i (Yc6.1 q2).1).trans q2⟩
theorem Fr.drew (h:Fr B b w u):Fr B b w u.drew:=⟨h.below.drew,h.kept⟩
theorem Fr.size (h:Fr B b w u):w.heap.size<=u.heap.size:=h.below.size
theorem Fr.blk (h:Fr B b w u){L:Nat}{cs:Array Value}{t:TypeId}(q:Blk w L cs t)(hL:L≠b)(ht:t≠5):Blk u L cs t:=h.kept L cs t (0,0) hL ht q
theorem Z50 (args:Array Value)(w:World):(callFunc 188 args).run Tryz.prog w=((Extern.AbiNoEscape.same args).run Tryz.prog w).andThen fun v w=> .ok (.value v) w:=by
 rw[run_callFunc_extern Tryz.func188 (by kernel_rfl) (by kernel_rfl) (by kernel_rfl) (e:=Extern.AbiNoEscape.same) (by kernel_rfl)]
theorem Zhe {T:Nat}(hT:Zwz T)(h:Bld T B b s w):
  Calls Tryz.prog 142 #[.pointer (some ⟨b,0,none⟩)] w fun e w'=>e= .returned (.tuple #[])/\Lib.BuilderAt T 5 B b (.pointer (some ⟨b,0,none⟩)) (Lib.strCells s) w'/\Fr B b w w':=by
 obtain⟨j,hj,hjs⟩:=Ydi.1 Zwc;rcases h with h | h
 ·have c0:=h.cell0;have f0:=h.frozen0;have e1:=Lib.run_to_unsafe w ⟨b,0,none⟩ Tryz.underlying75 Tryz.underlying147 hj (by rw[hjs];decide) h.shape (Nat.zero_lt_succ 1);have e2:=Lib.run_from_unsafe w ⟨b,0,none⟩ Tryz.underlying147 Tryz.underlying75 hj h.shape hT.1;have e3:=Z50 #[.pointer (some ⟨b,0,none⟩)] w;rw[Lib.run_noEscape]at e3;simp only[Result.andThen]at e3;have R:=Zaa (Ycs (h.used (.pointer (some ⟨b,0,none⟩))) (Fr.mk ((Yct B w).setCell (p:=⟨b,0,none⟩) h.1 (.pointer (some ⟨b,0,none⟩))) fun k cs t fz hk ht q=>(Ycy w _ _ k hk).trans q));clear h;go_enter Tryz.func142,Tryz.ntmps142
  go_wp2
  go_end0
  exact⟨rfl,R.out.1,R.out.2⟩
 ·have c0:=h.cell0;have e1:=Lib.run_neq_ptr_same (P:=Tryz.prog) w ⟨b,0,none⟩ Tryz.underlying75 hj;have R:=Zaa h;clear h;go_enter Tryz.func142,Tryz.ntmps142
  go_wp2
  go_end0
  exact⟨rfl,R.out,Fr.refl B b _⟩
theorem Zh5 (s t:ByteArray):Lib.strCells (s++t)=Lib.strCells s++Lib.strCells t:=by simp[Lib.strCells]
theorem Zxl (c:Nat)(hc:c < 256):Lib.strCells (b1 c)=[.int .u8 (c:Int)]:=by
 simp[Lib.strCells,b1,Nat.mod_eq_of_lt hc]
theorem Zff {e:TypeId}{v:Value}{n:Nat}{xs:List Value}(h:w.ownsRow B e 1 v n xs): ∃ a c,v= .slice a n c:=by
 rcases h.2 with⟨hv,h0⟩ | ⟨g,cap,cur,hv,_⟩
 ·exact⟨none,0,by rw[hv,h0]⟩
 ·exact⟨_,_,hv⟩
theorem Zdi {T:Nat}(hT:Zwz T)(h:Bld T B b s w)(c:Nat)(hc:c < 256)(hs:s.size < 1000000000)(hB:B<=w.heap.size):
  Calls Tryz.prog 89 #[.pointer (some ⟨b,0,none⟩),.int .u8 (c:Int)] w fun e w'=>e= .returned .nilIface/\Bld T B b (s++b1 c) w'/\Fr B b w w':=by
 obtain⟨i0,hi,hz0,hz1,hz2⟩:=info_parts Zkr;have C:=Zaa (Zhe hT h);have E:=Zaa (Zh5 s (b1 c));have E1:=Zaa (Zxl c hc);have hTe:=hT.2;have hlen:(Lib.strCells s).length < 1000000000:=by rw[Lib.strCells_length];exact hs
 clear h hT;generalize Lib.strCells s=bs at*;go_enter Tryz.func89,Tryz.ntmps89
 go_wp2_with fail
 refine C.out.mono ?_;rintro e w1 ⟨rfl,⟨hBb,v,hbk,hown,hne⟩,hb1⟩;obtain⟨va,vc,rfl⟩:=Zff hown;obtain⟨c0,c1,sf⟩:=Blk.two (w:=w1) (L:=b) (e:=T) hbk;have hlt:b < w1.heap.size:=Blk.lt (w:=w1) (L:=b) (e:=T) hbk;have hsz:=hb1.size;go_wp2_with (at_builtin;refine wpList_append_own _ rfl _ _ 76 rfl B 5 i0 (.int .u8 0) 1 1 Tryz.underlying76 hi hz0 hz1 hz2 rfl (by decide) _ _ _ rfl (hown.alloc _) ⟨w1.heap.size,0,none⟩ 1 1 [.int .u8 (c:Int)] rfl rfl ?c1 ?c2 ?c3 ?c4 ?c5 ?_)
 case c1=>
  intro j u hj;match j,hj with
  | 0,hj=>simp at hj;subst hj;simp[Addr.add]
 case c2=>intro u hu;simp at hu;subst hu;rfl
 case c3=>unfold maxLen;omega
 case c4=>omega
 case c5=>simp;omega
 intro v2 w2 hown2 hgrow _;obtain⟨va2,vc2,rfl⟩:=Zff hown2;have hb2:w2.heap[b]?=some (.cells #[.pointer (some ⟨b,0,none⟩),.slice va bs.length vc] T (0,0)):=by
  rw[hgrow.block b (by simp;omega) (fun e=>hne e.symm),Lib.alloc_old w1 _ b hlt];exact hbk
 obtain⟨d0,d1,sf2⟩:=Blk.two (w:=w2) (L:=b) (e:=T) hb2;have R:=Zaa (Ycs (Lib.BuilderAt.put (T:=T) (e:=5) hBb hb2 (bs':=bs++[.int .u8 (c:Int)]) (by simpa using hown2) hTe) (Fr.mk (((hb1.below.alloc (by omega) _).grown hgrow (by simp;omega) (fun k hk=>(hown.lt k hk).1)).setCell (p:=⟨b,1,none⟩) hBb (.slice va2 (bs.length+1) vc2)) fun k cs t fz hk ht q=>by
  have q1:=hb1.kept k cs t fz hk ht q;have kl:=(Yc6.1 q1).1;rw[Ycy _ _ _ _ hk,hgrow.block k (by simp;omega) (fun e=>Lib.ownBlock_ne hown q1 ht e.symm),Lib.alloc_old w1 _ k kl];exact q1))
 clear c0 c1 sf hown hown2 hgrow hb2 hbk hb1 hne C;go_wp2_with fail
 go_ret
 exact⟨rfl,Or.inr (by rw[E.out,E1.out];exact R.out.1),R.out.2⟩
theorem Zie {T:Nat}(hT:Zwz T)(h:Bld T B b s w)(t:ByteArray)(hs:s.size+t.size < 1000000000)(hB:B<=w.heap.size):
  Calls Tryz.prog 88 #[.pointer (some ⟨b,0,none⟩),.string t] w fun e w'=>e= .returned (.tuple #[.int .i64 t.size,.nilIface])/\Bld T B b (s++t) w'/\Fr B b w w':=by
 obtain⟨i0,hi,hz0,hz1,hz2⟩:=info_parts Zkr;have C:=Zaa (Zhe hT h);have E:=Zaa (Zh5 s t);have hTe:=hT.2;have hlen:(Lib.strCells s).length+t.size < 1000000000:=by rw[Lib.strCells_length];exact hs
 have EL:Box ((Lib.strCells s++Lib.strCells t).length=(Lib.strCells s).length+t.size):=⟨by rw[Ydy,Lib.strCells_length t]⟩;clear h hT;generalize Lib.strCells s=bs at*;go_enter Tryz.func88,Tryz.ntmps88
 go_wp2_with fail
 refine C.out.mono ?_;rintro e w1 ⟨rfl,⟨hBb,v,hbk,hown,hne⟩,hb1⟩;obtain⟨va,vc,rfl⟩:=Zff hown;obtain⟨c0,c1,sf⟩:=Blk.two (w:=w1) (L:=b) (e:=T) hbk;have hlt:b < w1.heap.size:=Blk.lt (w:=w1) (L:=b) (e:=T) hbk;have hsz:=hb1.size;go_wp2_with (at_builtin;refine Lib.wpList_append_own_string _ rfl _ _ 76 9 rfl B 5 i0 Tryz.underlying76 Tryz.underlying9 hi hz0 hz1 hz2 _ _ _ rfl hown t rfl ?c3 ?c4 ?c5 ?_)
 case c3=>unfold maxLen;omega
 case c4=>omega
 case c5=>omega
 intro v2 w2 hown2 hgrow _;obtain⟨va2,vc2,rfl⟩:=Zff hown2;have hb2:w2.heap[b]?=some (.cells #[.pointer (some ⟨b,0,none⟩),.slice va bs.length vc] T (0,0)):=by
  rw[hgrow.block b hlt (fun e=>hne e.symm)];exact hbk
 obtain⟨d0,d1,sf2⟩:=Blk.two (w:=w2) (L:=b) (e:=T) hb2;have R:=Zaa (Ycs (Lib.BuilderAt.put (T:=T) (e:=5) hBb hb2 (bs':=bs++Lib.strCells t) (by rw[EL.out];exact hown2) hTe) (Fr.mk ((hb1.below.grown hgrow (by omega) (fun k hk=>(hown.lt k hk).1)).setCell (p:=⟨b,1,none⟩) hBb (.slice va2 (bs.length+t.size) vc2)) fun k cs t fz hk ht q=>by
  have q1:=hb1.kept k cs t fz hk ht q;have kl:=(Yc6.1 q1).1;rw[Ycy _ _ _ _ hk,hgrow.block k kl (fun e=>Lib.ownBlock_ne hown q1 ht e.symm)];exact q1))
 clear c0 c1 sf hown hown2 hgrow hb2 hbk hb1 hne C;go_wp2_with fail
 go_ret2
 exact⟨rfl,Or.inr (by rw[E.out];exact R.out.1),R.out.2⟩
theorem Bld.form {T:Nat}(h:Bld T B b s w): ∃ p va vc,Blk w b #[p,.slice va s.size vc] T/\w.ownsRow B 5 1 (.slice va s.size vc) s.size (Lib.strCells s)/\B<=b:=by
 rcases h with⟨hBb,v,hbk,hown,hne⟩ | ⟨hBb,v,hbk,hown,hne⟩;all_goals
  rw[Lib.strCells_length]at hown;obtain⟨va,vc,rfl⟩:=Zff hown;exact⟨_,va,vc,hbk,hown,hBb⟩
theorem Bld.drew {T:Nat}(h:Bld T B b s w):Bld T B b s w.drew:=h
theorem Bld.alloc {T:Nat}(h:Bld T B b s w)(o:Obj):Bld T B b s (w.alloc o):=by
 rcases h with⟨hBb,v,hbk,hown,hne⟩ | ⟨hBb,v,hbk,hown,hne⟩
 ·exact Or.inl ⟨hBb,v,Blk.alloc (w:=w) (L:=b) (e:=T) hbk o,hown.alloc o,hne⟩
 ·exact Or.inr ⟨hBb,v,Blk.alloc (w:=w) (L:=b) (e:=T) hbk o,hown.alloc o,hne⟩
theorem Z8o {T:Nat}(h:Bld T B b s w):
  Calls Tryz.prog 28 #[.pointer (some ⟨b,0,none⟩)] w fun e w'=>e= .returned (.int .i64 (s.size:Int))/\w'=w:=by
 obtain⟨p,va,vc,hbk,_,_⟩:=h.form;obtain⟨c0,c1,sf⟩:=hbk.two;go_enter Tryz.func28,Tryz.ntmps28
 go_wp2
 go_ret
 exact⟨rfl,rfl⟩
theorem Zoz:Tryz.prog.cellsOf 5=1:=by kernel_rfl
theorem Zq7 {T:Nat}(h:Bld T B b s w)(hs:s.size < 1000000000)(hB:B<=w.heap.size):
  Calls Tryz.prog 29 #[.pointer (some ⟨b,0,none⟩)] w fun e w'=>e= .returned (.string s)/\Below B w w':=by
 obtain⟨p,va,vc,hbk,hown,hBb⟩:=h.form;obtain⟨c0,c1,sf⟩:=hbk.two;by_cases h0:s.size=0
 ·obtain rfl:s=ByteArray.empty:=Zgl ((Yda ((Zdy s).trans h0)).trans (by rw[Ydl];rfl));have hUS:=fun q u=>Lib.run_unsafeString_none (P:=Tryz.prog) u 142 3 9 q;rcases hown.2 with⟨hv,_⟩ | ⟨g,cap,cur,hv,hBg,hg,hnc,hcm,hcs,_⟩
  ·injection hv with hv1 hv2 hv3;subst hv1 hv3;have hSD:=fun u=>Lib.run_unsafeSliceData_nil (P:=Tryz.prog) u #[76] 142 0 0;clear h hown;go_enter Tryz.func29,Tryz.ntmps29
   go_wp2
   go_region
   all_goals (go_wp2;go_ret;exact⟨rfl,(Yct B w).drew⟩)
  ·injection hv with hv1 hv2 hv3;subst hv1 hv3;clear h hown;by_cases hc0:vc=0
   ·subst hc0;have hsh: ∀ u:World,u.heap=w.heap->u.shape? g=some (5,cur.size):=fun u hu=>by simp[World.shape?,hu,hg]
    have hblt:=hbk.lt;have c1':=fun o=>((Blk.alloc hbk o).two).2.1;have hSD:=Lib.run_unsafeSliceData_zero (P:=Tryz.prog) w.drew #[76] 142 5 Tryz.underlying142 ⟨g,0,none⟩ 0 _ (hsh w.drew rfl);go_enter Tryz.func29,Tryz.ntmps29
    go_wp2
    go_region
    all_goals (go_wp2;go_ret;exact⟨rfl,((Yct B w).alloc hB _).drew⟩)
   ·have hSD:=fun u=>Lib.run_unsafeSliceData_row (P:=Tryz.prog) u #[76] 142 ⟨g,0,none⟩ 0 vc hc0;go_enter Tryz.func29,Tryz.ntmps29
    go_wp2
    go_region
    all_goals (go_wp2;go_ret;exact⟨rfl,(Yct B w).drew⟩)
 ·obtain⟨g,cap,cur,hv,hBg,hg,hnc,hcm,hcs,htk⟩: ∃ g cap cur,Value.slice va s.size vc= .slice (some ⟨g,0,none⟩) s.size cap/\B<=g/\w.heap[g]?=some (.cells cur 5 (0,0))/\s.size<=cap/\cap<=maxLen/\cur.size=cap*1/\cur.toList.take (s.size*1)=Lib.strCells s:=by
   rcases hown.2 with⟨_,hz⟩ | ⟨g,cap,cur,hv,r⟩
   ·exact absurd hz h0
   ·exact⟨g,cap,cur,hv,r⟩
  injection hv with hv1 hv2 hv3;subst hv1 hv3;have hne:s.data.toList≠[]:=fun q=>h0 (by show s.data.size=0;rw[<- Yd7,q];rfl);have hSD:=fun u=>Lib.run_unsafeSliceData_row (P:=Tryz.prog) u #[76] 142 ⟨g,0,none⟩ s.size vc (by omega);have hUS:(Builtin.unsafeString_ #[142,3] 9 #[.pointer (some ⟨g,0,none⟩),.int .i64 (s.size:Int)]).run Tryz.prog w.drew= .ok (.string s) (w.drew.freeze ⟨g,0,none⟩ s.size):=
   Lib.run_unsafeString_row w.drew 142 3 9 5 Tryz.underlying142 Zoz g cur.size (by have hg':w.drew.heap[g]?=some (.cells cur 5 (0,0)):=hg;simp[World.shape?,hg']) s.data.toList hne (by rw[Yd7];show s.size<=_;omega) (by rw[Yd7];show s.size<=_;omega) (fun j x hx=>hown.cells (g:=g) rfl j (.int .u8 x.toNat) (by simp[Lib.strCells,hx]))
  clear h hown htk hg;go_enter Tryz.func29,Tryz.ntmps29
  go_wp2
  go_region
  all_goals (go_wp2;go_ret;exact⟨rfl,Lib.below_freeze ((Yct B w).drew) (p:=⟨g,0,none⟩) hBg _⟩)
end Go.P
namespace Go.W
variable {f n:Nat}
theorem Zye (h:128<=n):Zqx (f+1) n=b1 (n % 128+128)++Zqx f (n / 128):=by rw[Zqx,if_pos h]
theorem Zzv (h:n < 128):Zqx f n=b1 n:=by cases f with
 | zero=>rfl
 | succ f=>rw[Zqx,if_neg (by omega)]
theorem Zch (n:Nat):(b1 n).size=1:=rfl
theorem Za2 (a b c:ByteArray):a++b++c=a++(b++c):=ByteArray.append_assoc
theorem Zae (a b:ByteArray):(a++b).size=a.size+b.size:=ByteArray.size_append
end Go.W
namespace Go.P
variable {B b:Nat}{s:ByteArray}{w:World}
theorem Ybe: ∀ X:Fin 256,bits .or .u8 ((X.val:Nat):Int) 128=((X.val % 128+128:Nat):Int):=by decide
theorem Ybu (m:Nat):bits .or .u8 ((m:Int) % 256) 128=((m % 128+128:Nat):Int):=by
 have h:=Ybe ⟨m % 256,Nat.mod_lt _ (by omega)⟩;have e:(m % 256) % 128=m % 128:=by omega
 simp only[e]at h;rw[<- h];rfl
def Zfw (T B b:Nat) (s:ByteArray) (w:World) (e:Ending) (w':World):Prop:=e= .returned (.tuple #[])/\Bld T B b s w'/\Fr B b w w'
def Yac (T B b:Nat) (s:ByteArray) (w:World) (nv:Value) (wr:World):Prop:= ∃ (f n:Nat) (s':ByteArray),n < 2 ^ (7*f+1)/\n < 18446744073709551616/\f<=10/\nv= .int .u64 (n:Int)/\s'++Zqx f n=s/\Bld T B b s' wr/\Fr B b w wr
theorem Zd2 (hT:Zwz 80)(h:Bld 80 B b s w)(n:Nat)(hn:n < 18446744073709551616)(hs:s.size+(Zfi n).size < 1000000000)(hB:B<=w.heap.size):
  Calls Tryz.prog 113 #[.pointer (some ⟨b,0,none⟩),.int .u64 (n:Int)] w (Zfw 80 B b (s++Zfi n) w):=by
 go_enter Tryz.func113,Tryz.ntmps113
 go_wp2_with fail
 go_loopw [1] (fun nv wr=>Yac 80 B b (s++Zfi n) w nv wr) (fun nv _=>(intOf nv).toNat)
 case atStart=>exact⟨10,n,s,by omega,hn,by omega,rfl,rfl,h,Fr.refl _ _ _⟩
 case round=>
  obtain⟨f,m,s1,hf,hm,hf10,rfl,hE,hb,hw⟩:=hrel;have hsz:s1.size+(Zqx f m).size=s.size+(Zfi n).size:=by rw[<- Zae,hE,Zae]
  by_cases hlt:128<=m
  ·obtain⟨f,rfl⟩: ∃ g,f=g+1:=⟨f - 1,by
    rcases Nat.eq_zero_or_pos f with rfl | h
    ·omega
    ·omega⟩
   rw[Zye hlt,Zae,Zch]at hsz;rw[Zye hlt]at hE;have C:=Zaa (Zdi hT hb (m % 128+128) (by omega) (by omega) (Ycu hB hw.size));have h1:(128:Int)<=(m:Int):=by omega
   go_wp2_with fail
   rw[Ybu];refine C.out.mono ?_;rintro e w1 ⟨rfl,hb1,hw1⟩;have R:=Zaa (Ycs hb1 (hw.trans hw1));clear hb hw hb1 hw1 C;go_wp2_with fail
   refine⟨⟨f,m / 128,s1++b1 (m % 128+128),?_,by omega,by omega,by simp,by rw[Za2,hE],R.out.1,R.out.2⟩,by simp[intOf];omega⟩;rw[show 7*(f+1)+1=7*f+1+7 by omega,Nat.pow_add]at hf;omega
  ·rw[Zzv (by omega)]at hsz hE;rw[Zch]at hsz;have C:=Zaa (Zdi hT hb m (by omega) (by omega) (Ycu hB hw.size));have h1: ¬ (128:Int)<=(m:Int):=by omega
   have h2:(m:Int) % 256=(m:Int):=by omega
   go_wp2_with fail
   refine C.out.mono ?_;rintro e w1 ⟨rfl,hb1,hw1⟩;have R:=Zaa (Ycs hb1 (hw.trans hw1));clear hb hw hb1 hw1 C;go_wp2_with fail
   go_end0
   exact⟨rfl,hE▸R.out.1,R.out.2⟩
theorem Zry (hT:Zwz 80)(h:Bld 80 B b s w)(t:ByteArray)(hs:s.size+(Zdk t).size < 1000000000)(hB:B<=w.heap.size):
  Calls Tryz.prog 114 #[.pointer (some ⟨b,0,none⟩),.string t] w (Zfw 80 B b (s++Zdk t) w):=by
 have hs':s.size+(Zfi t.size).size+t.size < 1000000000:=by rw[Zdk,Zae]at hs;omega
 have E:Box (s++Zfi t.size++t=s++Zdk t):=⟨by rw[Zdk,Za2]⟩;have C:=Zaa (Zd2 hT h t.size (by omega) (by omega) hB);have C2:=Zaa (fun u (hu:Bld 80 B b (s++Zfi t.size) u) (hb:Fr B b w u)=>Zie hT hu t (by rw[Zae];omega) (Ycu hB hb.size));clear h hs;go_enter Tryz.func114,Tryz.ntmps114
 go_wp2_with fail
 refine C.out.mono ?_;rintro e w1 ⟨rfl,hb1,hw1⟩;have CC:=Zaa (C2.out _ hb1 hw1);have W1:=Zaa hw1;clear hb1 hw1 C C2;go_wp2_with fail
 refine CC.out.mono ?_;rintro e w2 ⟨rfl,hb2,hw2⟩;go_wp2_with fail
 go_end0
 exact⟨rfl,E.out▸hb2,W1.out.trans hw2⟩
end Go.P
namespace Go.W
theorem Zwb {α:Type}(f:α->ByteArray): ∀ l r:List α,cat f (l++r)=cat f l++cat f r
 | [],r=>by simp[cat]
 | x::l,r=>by rw[Ydd,cat,cat,Zwb f l r,Za2]
theorem Zix {α:Type}(f:α->ByteArray){l:List α}{q:Nat}(h:q < l.length):cat f (l.take (q+1))=cat f (l.take q)++f l[q]:=by
 rw[List.take_succ_eq_append_getElem h,Zwb];simp[cat]
theorem Zqr {α:Type}(f:α->ByteArray)(l:List α)(q:Nat):(cat f (l.take q)).size<=(cat f l).size:=by
 have h:=congrArg ByteArray.size (Zwb f (l.take q) (l.drop q));rw[List.take_append_drop,Zae]at h;omega
end Go.W
namespace Go.P
theorem Z6p (a:Nat)(h:a < 18446744073709551616):a ^^^ 18446744073709551615=18446744073709551615 - a:=by
 have e:=congrArg BitVec.toNat (BitVec.xor_allOnes (x:=BitVec.ofNat 64 a));rw[BitVec.toNat_xor,BitVec.toNat_not,BitVec.toNat_allOnes,BitVec.toNat_ofNat,Nat.mod_eq_of_lt h]at e;exact e
theorem Z5e (i:Int)(hi:Zk2 i):bits .xor .u64 (IntKind.u64.wrap (IntKind.u64.wrap i*2)) (IntKind.u64.wrap (i / 9223372036854775808))=(Zi9 i:Int):=by
 obtain⟨h1,h2⟩:=hi;simp only[IntKind.wrap_u64];unfold Zi9;by_cases h:i < 0
 ·rw[if_pos h];have e1:i % 18446744073709551616*2 % 18446744073709551616=((2*i+18446744073709551616).toNat:Int):=by omega
  have e2:i / 9223372036854775808 % 18446744073709551616=((18446744073709551615:Nat):Int):=by omega
  rw[e1,e2,u64_xor_nat _ _ (by omega) (by omega),Z6p _ (by omega)];omega
 ·rw[if_neg h];have e1:i % 18446744073709551616*2 % 18446744073709551616=((2*i).toNat:Int):=by omega
  have e2:i / 9223372036854775808 % 18446744073709551616=((0:Nat):Int):=by omega
  rw[e1,e2,u64_xor_nat _ _ (by omega) (by omega),Nat.xor_zero]
theorem Zfc:Zwz 80:=⟨by kernel_rfl,by decide⟩
def Zli {α:Type} (T B b:Nat) (s:ByteArray) (f:α->ByteArray) (w:World) (l:List α) (iv:Value) (wr:World):Prop:= ∃ q:Nat,q<=l.length/\iv= .int .i64 q/\Bld T B b (s++cat f (l.take q)) wr/\Fr B b w wr
theorem Zzs (i:Int)(hi:Zk2 i)(w:World):Calls Tryz.prog 159 #[.int .i64 i] w fun e w'=>e= .returned (.int .u64 (Zi9 i:Int))/\w'=w:=by
 go_enter Tryz.func159,Tryz.ntmps159
 go_wp2_with fail
 go_ret
 exact⟨Z28 (Z5e i hi),rfl⟩
end Go.P
