import Derived.Test.YtghnjdpgbldlkaaGreatDoorW01
import Derived.Lib.Builder
import Derived.Lib.AppendStr
import Derived.Lib.UnsafeStr
set_option linter.defProp false
set_option maxRecDepth 100000
set_option maxHeartbeats 8000000
set_option linter.unusedSimpArgs false
open Go.Proofs Go.RowKit Go.W Tryz
namespace Go.W
def wy (c:Nat):Bool:=decide (c=32) || decide (c=9) || decide (c=10) || decide (c=13)
def Iy (c:Nat):Nat:=if Dr c then c-48 else c-87
def H8 (s:ByteArray):Bool:=s.toList==[116,114,117,101] || s.toList==[102,97,108,115,101]
def TZ (s:ByteArray):Bool:=s.toList==[99,104,101,99,107] || s.toList==[97,108,108,111,119] || s.toList==[100,101,110,121] || s.toList==[105,102] || s.toList==[111,114] || s.toList==[116,114,117,101] || s.toList==[102,97,108,115,101] || s.toList==[104,101,120]
end Go.W
namespace Go.P
def Zyn (c:Nat)(w:World):Calls prog 160 #[.int .u8 (c:Int)] w fun e w'=>e= .returned (.bool<|wy c)/\w'=w:=by
 go_in
 go_wp2
 all_goals (go_ret;exact⟨KQ (by rw[Bool.eq_iff_iff];simp[wy];omega),rfl⟩)
def Zn8 (c:Nat)(w:World):Calls prog 163 #[.int .u8 (c:Int)] w fun e w'=>e= .returned (.bool<|decide<|c≠10)/\w'=w:=by
 go_in
 go_wp2
 all_goals (go_ret;exact⟨KQ (by rw[Bool.eq_iff_iff];simp;omega),rfl⟩)
def Zwc (c:Nat)(w:World):Calls prog 202 #[.int .u8 (c:Int)] w fun e w'=>e= .returned (.bool<|G7 c)/\w'=w:=by
 go_in
 go_wp2
 all_goals (go_ret;exact⟨KQ (by rw[Bool.eq_iff_iff];simp[G7,Dr];omega),rfl⟩)
def Znm (c:Nat)(h:G7 c=true)(w:World):Calls prog 203 #[.int .u8 (c:Int)] w fun e w'=>e= .returned (.int .u8 (Iy c:Nat))/\w'=w:=by
 have C:=AA<|wM c;have hc:Iy c<16:=by
  simp[G7,Dr]at h;unfold Iy Dr;split <;> simp_all <;> omega
 cases hd:Dr c;all_goals
  rw[hd]at C;go_in
  go_wp2_with (first | (go_at_call 114;refine(C.out _).mono ?_;rintro e w' ⟨rfl,rfl⟩))
  go_ret
  refine⟨?_,rfl⟩;have hh:Iy c=c-(if Dr c then 48 else 87):=by unfold Iy;split <;> rfl
  rw[hd]at hh;simp only[G7,hd]at h;simp[Dr]at h hd hh;simp[hh];omega
def Zr7 (s:ByteArray)(w:World):Calls prog 175 #[.string s] w fun e w'=>e= .returned (.bool<|H8 s)/\w'=w:=by
 go_in
 go_wp2
 all_goals go_ret
 all_goals exact⟨KQ (by simp_all [H8]),rfl⟩
def Z2n (s:ByteArray)(w:World):Calls prog 173 #[.string s] w fun e w'=>e= .returned (.bool<|TZ s)/\w'=w:=by
 go_in
 go_wp2
 all_goals go_ret
 all_goals exact⟨KQ (by simp_all [TZ]),rfl⟩
def Zu9 (b:Bool)(w:World):Calls prog 244 #[.bool b] w fun e w'=>e= .returned (.agg #[.int .i64 6,.int .i64 (if b then 1 else 0),.string ⟨#[]⟩,.slice none 0 0])/\Bl w w':=by
 cases b;all_goals
  go_in
  go_wp2_with fail
  all_goals refine CQ (by simp[results,results244,go_sem];try rfl) rfl ?_
  all_goals exact⟨rfl,(AQ _ w).alloc lr _⟩
end Go.P
namespace Go.W
structure Tk where
 at_:Nat
 text:ByteArray
 k:Int
 i:Int
 s:ByteArray
def UB (t:ByteArray):(Ab t).length=t.size:=by simp[Ab]
def AJ.eight {w:World}{L:Nat}{e:TypeId}{a b c d f g i j:Value}(h:AJ w L #[a,b,c,d,f,g,i,j] e):w.cell? ⟨L,0,none⟩=some a/\w.cell? ⟨L,1,none⟩=some b/\w.cell? ⟨L,2,none⟩=some c/\w.cell? ⟨L,3,none⟩=some d/\w.cell? ⟨L,4,none⟩=some f/\w.cell? ⟨L,5,none⟩=some g/\w.cell? ⟨L,6,none⟩=some i/\w.cell? ⟨L,7,none⟩=some j/\ ∀ j,w.frozen? ⟨L,j,none⟩=false:=⟨h.cell 0,h.cell 1,h.cell 2,h.cell 3,h.cell 4,h.cell 5,h.cell 6,h.cell 7,h.soft⟩
end Go.W
namespace Go.P
variable {w:World}{b p q:Nat}{t:ByteArray}{x:Tk}
def Rd (w:World) (b:Nat) (t:ByteArray) (p:Nat) (x:Tk):Prop:=AJ w b #[.string t,.int .i64 (p:Int),.int .i64 (x.at_:Int),.string x.text,.int .i64 x.k,.int .i64 x.i,.string x.s,.slice none 0 0] 155/\t.size<=8000/\p<=t.size/\23<=b
def Rd.dr (h:Rd w b t p x)(n:Nat):Rd (w.drewN n) b t p x:=h
def Rd.of {u:World}(h:Rd w b t p x)(k:Bl w u):Rd u b t p x:=⟨h.1.of<|k.block b h.1.lt,h.2⟩
def Rd.goes (h:Rd w b t p x)(hq:q<=t.size):Rd (w.setCell ⟨b,1,none⟩<|.int .i64 (q:Int)) b t q x:=⟨h.1.set 1 _,h.2.1,hq,h.2.2.2⟩
def uB (h:Rd w b t p x):Calls prog 165 #[.pointer<|Qb b 0] w fun e w'=>e= .returned (.int .u8 ((Ab t).getD p 0:Nat))/\ ∃ m,w'=w.drewN m:=by
 obtain⟨hb,ht,hp,hg⟩:=h;obtain⟨c0,c1,-,-,-,-,-,-,sf⟩:=hb.eight;clear hb;by_cases hlt:p<t.size
 ·have g:((p:Int)==(t.size:Int))=false:=by rw[BK];omega
  have hx:=V5 t p hlt;go_in
  go_wp2
  go_quiet (fail)
  go_wp2
  go_quiet (fail)
  go_wp2
  go_ret
  exact⟨zw,by first | exact⟨_,rfl⟩ | exact⟨_,World.drewN_drewN ..⟩⟩
 ·obtain rfl:p=t.size:=zx
  go_in
  go_wp2
  go_quiet (fail)
  go_wp2_with fail
  all_goals go_ret
  exact⟨by simp[List.getD,UB],_,rfl⟩
def iY (h:Rd w b t p x):Calls prog 165 #[.pointer<|Qb b 0] w fun e w'=>e= .returned (.int .u8 ((Ab t).getD p 0:Nat))/\Bl w w':=
 (uB h).mono fun _ _ ⟨he,m,hm⟩=>⟨he,by rw[hm];exact KR<|AQ _ w⟩
def jd (K:Nat) (ok:Nat->Bool):Prop:=Bj K/\ ∀ c w,Calls prog K #[.int .u8 ((c:Nat):Int)] w fun e w'=>e= .returned (.bool<|ok c)/\w'=w
def Ydv (b:Nat) (ok:Nat->Bool) (w:World) (t:ByteArray) (p:Nat) (x:Tk) (wr:World):Prop:= ∃ q,p<=q/\Rd wr b t q x/\Ac b w wr/\Cm (Ab t) ok q=Cm (Ab t) ok p
def iV (b:Nat) (w:World):Nat:=match w.cell? ⟨b,1,none⟩with
 | some (.int _ p)=>p.toNat
 | _=>0
def Xe (h:Rd w b t p x):iV b w=p:=by
 unfold iV;rw[h.1.eight.2.1];rfl
def Z7d (ok:Nat->Bool)(h:q<t.size):(ok ((Ab t).getD q 0)=true->Cm (Ab t) ok (q+1)=Cm (Ab t) ok q)/\(ok ((Ab t).getD q 0)=false->Cm (Ab t) ok q=q):=by
 have hl:=UB t;unfold Cm;rw[hl,show t.size-q=(t.size-(q+1))+1 by omega];exact⟨fun g=>by rw[OY,if_pos ⟨zx,g⟩],fun g=>by rw[OY,if_neg (fun z=>by rw[g]at z;cases z.2)]⟩
def Z94 (t:ByteArray)(ok:Nat->Bool):Cm (Ab t) ok t.size=t.size:=by
 unfold Cm;rw[UB,Nat.sub_self];rfl
def iT {K:Nat}{ok:Nat->Bool}(F:jd K ok)(h:Rd w b t p x):
  Calls prog 162 #[.pointer<|Qb b 0,.func (.func K) #[] #[]] w fun e w'=>e= .returned (.string<|t.extract p<|Cm (Ab t) ok p)/\Ac b w w'/\Rd w' b t (Cm (Ab t) ok p) x:=by
 have hp:=h.2.2.1;go_in
 obtain⟨c0,c1,-,-,-,-,-,-,sf⟩:=h.1.eight;have H:=AA h;clear h;go_wp2
 go_loopw [13] (fun _ wr=>Ydv b ok w t p x wr) (fun _ wr=>t.size-iV b wr)
 case atStart=>exact⟨p,JB _,H.out,Ac.refl _ _,rfl⟩
 case round=>
  obtain⟨q,hq,hR,hK,hE⟩:=hrel;clear c0 c1 sf H;have h3:=hR.2.2.1;have ht:=hR.2.1;have hM:=Xe hR;obtain⟨c0,c1,-,-,-,-,-,-,sf⟩:=hR.1.eight;have HR:=AA hR;have HK:=AA hK;have HE:=AA hE;clear hR hK hE;by_cases hlt:q<t.size
  ·have g:(q:Int)<(t.size:Int):=zx
   have hx:=V5 t q hlt;have C:=AA<|F.2<|(Ab t).getD q 0;have hen:=F.1;unfold Bj at hen;have S:=AA<|Z7d ok hlt;clear F;generalize (Ab t).getD q 0=c at*;cases Az:ok c
   ·rw[Az]at C;have E:AC (Cm (Ab t) ok p=q):=⟨HE.out.symm.trans<|S.out.2 Az⟩;go_wp2
    go_quiet ((exact Calls.quiet_of_same<|C.out _))
    go_wp2
    go_quiet (fail)
    go_wp2
    go_ret
    rw[E.out];exact⟨zw,(HK.out.dr _).dr _,HR.out⟩
   ·rw[Az]at C;go_wp2
    go_quiet ((exact Calls.quiet_of_same<|C.out _))
    go_wp2
    go_roundw
    case rel=>exact⟨q+1,zx,by have:=(HR.out.dr nq).goes (q:=q+1) hlt;simpa using this,(HK.out.dr _).set _ _,(S.out.1 Az).trans HE.out⟩
    case measure=>
     have:=Xe<|(HR.out.dr nq).goes (q:=q+1) hlt
     simp at this;rw[hM,this];omega
  ·obtain rfl:q=t.size:=zx
   have E:AC (Cm (Ab t) ok p=t.size):=⟨HE.out.symm.trans<|Z94 t ok⟩;go_wp2
   go_quiet (fail)
   go_wp2
   go_quiet (fail)
   go_wp2
   go_ret
   rw[E.out];exact⟨zw,(HK.out.dr _).dr _,HR.out⟩
end Go.P
namespace Go.P
variable {w:World}{xs:List (ByteArray×Nat)}
def V6.one {v:Value}(h:V6 w v xs):v.oneCell'=true:=by
 rcases h with⟨rfl,_⟩ | ⟨m,rfl,_⟩ <;> rfl
def Zr1 {mv:Value}(hm:V6 w mv xs)(hv: ∀ m,mv= .map (some m)->m<w.heap.size)(p:Option Addr)(n k:Nat){g c:Nat}{s:ByteArray×Nat}(hg:JL w g s)(pn:ByteArray):
  Calls prog 225 #[.agg #[.string pn,.slice (Qb g 0) 1 c],.agg #[mv,.slice p n k]] w fun e w'=>e= .returned (.agg (He (pn,(GK xs s).1)).toArray)/\Bl w w':=by
 obtain⟨Kq,g0,g1,hsz⟩:=hg;have C9:=V6.one hm;obtain⟨Z,hZ⟩: ∃ Z:Array Value,Z=#[.string ⟨#[]⟩,.int .i64 0,.int .i64 0,.int .i64 0,.int .i64 0,.int .i64 0,.int .i64 0,.int .i64 0]:=⟨_,rfl⟩;obtain⟨f0,qw⟩: ∃ f0:Array Value,f0=#[.string pn,.int .i64 1,.int .i64 0,.int .i64 0,.int .i64 0,.int .i64 0,.int .i64 0,.int .i64 0]:=⟨_,rfl⟩;obtain⟨W4,hW4⟩: ∃ W4,AC ((((w.alloc<|.cells #[.string pn,.slice (Qb g 0) 1 c] 323).alloc<|.cells #[mv,.slice p n k] 327).alloc<|.cells Z 320).alloc (.cells f0 320)=W4):=⟨_,⟨rfl⟩⟩;have B4:AC (Bl w W4):=⟨hW4.out▸((((AQ _ w).alloc lr _).alloc zw _).alloc (by simp;omega) _).alloc (by simp;omega) _⟩;have S4:AC (W4.heap.size=w.heap.size+4):=⟨by rw[<- hW4.out];simp⟩;have L1:AC (AJ W4 (w.heap.size+1) #[mv,.slice p n k] 327):=⟨hW4.out▸((Jd w _ _ _).alloc _).alloc _⟩;have L2:AC (AJ W4 (w.heap.size+1+1) Z 320):=⟨hW4.out▸(UC w _ _ _ _).alloc _⟩;have L3:AC (AJ W4 (w.heap.size+1+1+1) f0 320):=⟨hW4.out▸by have:=AJ.new (((w.alloc<|.cells #[.string pn,.slice (Qb g 0) 1 c] 323).alloc<|.cells #[mv,.slice p n k] 327).alloc<|.cells Z 320) f0 320;rwa [EH,EH,EH]at this⟩;subst hZ qw;have g0':=(Am (a:=⟨g,0,none⟩)<|B4.out.block g Kq).trans g0;have sO:=(Am (a:=⟨g,1,none⟩)<|B4.out.block g Kq).trans g1;have B5:=fun o=>(AQ W4.heap.size W4).alloc lr o;have CO:=AA fun o=>uG (w:=W4.alloc o) (q:=w.heap.size+1) (o:=0) (v:=mv) (xs:=xs) (hm.of fun m h=>((B5 o).block m (by have:=hv m h;have:=S4.out;omega)).trans (B4.out.block m<|hv m h)) ((L1.out.alloc o).cell 0) ((L1.out.alloc o).lt) (fun m h=>by have:=hv m h;have:=S4.out;simp;omega) s hsz;clear hm hv;go_in
 go_wp2_with fail
 rw[hW4.out];clear hW4;refine Dt 2 ?_;rw[A8];go_wp2_with fail
 refine(CO.out _).mono ?_;rintro e w5 ⟨rfl,Bf⟩;have hz:=S4.out;have K2:=AA<|(L2.out.alloc _).of<|Bf.block (w.heap.size+1+1) (by simp;omega);have K3:=AA<|(L3.out.alloc _).of<|Bf.block (w.heap.size+1+1+1) (by simp;omega);obtain⟨y0,y1,y2,y3,y4,y5,y6,y7,sf⟩:=K3.out.eight;obtain⟨x0,x1,x2,x3,x4,x5,x6,x7,sx⟩:=K2.out.eight;have HB:=AA<|(B4.out.trans<|(B5 _).mono B4.out.size).trans<|Bf.mono (by simp;omega);clear Bf CO hz B5;go_wp2_with fail
 rw[A8];go_wp2
 refine CQ (by simp[results,results225,go_sem,x0,x1,x2,x3,x4,x5,x6,x7];try rfl) rfl ?_;have hle:w.heap.size<=w.heap.size+1+1:=zx
 exact⟨rfl,(((((((((HB.out.setCell (p:=⟨w.heap.size+1+1+1,2,none⟩) (by show _<=w.heap.size+1+1+1;omega) _).setCell (p:=⟨w.heap.size+1+1,0,none⟩) hle _).setCell (p:=⟨w.heap.size+1+1,1,none⟩) hle _).setCell (p:=⟨w.heap.size+1+1,2,none⟩) hle _).setCell (p:=⟨w.heap.size+1+1,3,none⟩) hle _).setCell (p:=⟨w.heap.size+1+1,4,none⟩) hle _).setCell (p:=⟨w.heap.size+1+1,5,none⟩) hle _).setCell (p:=⟨w.heap.size+1+1,6,none⟩) hle _).setCell (p:=⟨w.heap.size+1+1,7,none⟩) hle _)⟩
end Go.P
namespace Go.W
def Qq (w:World) (r:Nat) (fs:List (ByteArray×Nat)):Prop:= ∃ es clock,w.heap[r]?=some (.map es clock)/\es.toList.map (·.key)=fs.map fun x=>Value.agg (He x).toArray
def Zi7 {P:Program}{kt:TypeId}{k:Value}{w:World}: ∀ (l:List MapEntry) (i:Nat),(∀ e,e∈l->(Op.equal kt k e.key).run P w= .ok false w)->(Instr.findAsking kt k l i).run P w= .ok none w
 | [],_,_=>rfl
 | e::l,i,h=>by
  unfold Instr.findAsking;simp only[QM,h e zw,Rw];exact Zi7 l (i+1) fun e he=>h e (by simp[he])
end Go.W
namespace Go.P
variable {w:World}{x:ByteArray×Nat}{fs:List (ByteArray×Nat)}{r:Nat}
def Zli (x:ByteArray×Nat)(b:Bool)(w:World):(Instr.checkKey b 10000 320<|.agg (He x).toArray).run prog w= .ok () w:=zt
def OU (x:ByteArray×Nat) (fs:List (ByteArray×Nat)):Prop:= ∀ y,y∈fs-> ∀ w,(Op.equal 320 (.agg (He x).toArray)<|.agg (He y).toArray).run prog w= .ok false w
def Znj (hn:OU x fs)(l:List MapEntry)(hl:l.map (·.key)=fs.map fun x=>Value.agg (He x).toArray):(Instr.findKey 320 (.agg (He x).toArray) l).run prog w= .ok none w:=by
 have hall: ∀ e,e∈l->(Op.equal 320 (.agg (He x).toArray) e.key).run prog w= .ok false w:=fun e he=>by
  have:e.key∈l.map (·.key):=List.mem_map.2 ⟨e,he,rfl⟩
  rw[hl]at this;obtain⟨y,hy,hk⟩:=List.mem_map.1 this;rw[<- hk];exact hn y hy w
 have kZ:=Zi7 l 0 hall;unfold Instr.findKey;simp only[QM,Jo underlying320,Rw];cases l with
 | nil=>rfl
 | cons e l=>exact kZ
def Zpw (h:Qq w r fs)(hn:OU x fs):(Instr.lookup 312 (.map<|some r) (.agg (He x).toArray) true).run prog w= .ok (.tuple #[.agg #[],.bool false]) w:=by
 obtain⟨es,clock,hb,hm⟩:=h;have hz:(zeroValue 366).run prog w= .ok (.agg #[]) w:=zt
 have FW:=Zli x es.isEmpty w;have hgo:=WL (P:=prog) hb;have Fq:=Znj (w:=w) hn es.toList hm;simp[Instr.lookup,Jo underlying312,hgo,Fq,hz,FW]
def Zzr (h:Qq w r fs)(hn:OU x fs): ∃ o,(Instr.mapUpdate 312 (.map<|some r) (.agg (He x).toArray)<|.agg #[]).run prog w= .ok () {w with heap:=w.heap.setIfInBounds r o}/\Qq {w with heap:=w.heap.setIfInBounds r o} r (fs++[x]):=by
 obtain⟨es,clock,hb,hm⟩:=h;have FW:=Zli x false w;have hgo:=WL (P:=prog) hb;have Fq:=Znj (w:=w) hn es.toList hm;have VO:=Go.MapKept.run_setObj_map (P:=prog) (.map (es.push {key:= .agg (He x).toArray,val:= .agg #[],born:=clock})<|clock+1) hb;refine⟨.map (es.push {key:= .agg (He x).toArray,val:= .agg #[],born:=clock})<|clock+1,?_,es.push {key:= .agg (He x).toArray,val:= .agg #[],born:=clock},clock+1,(Go.MapKept.heap_set hb).1,?_⟩
 ·simp[Instr.mapUpdate,Jo underlying312,hgo,FW,Fq,VO]
 ·simp[hm]
end Go.P
namespace Go.P
variable {B b:Nat}{w u:World}{s:ByteArray}
def Zzg:(prog.info? 76).map (·.size)=some 2:=zt
def iZ:(prog.info? 5).map (fun i=>(i.zero,i.size,i.bytes))=some (some<|.int .u8 0,1,1):=zt
def XN (T:TypeId):Prop:=liesAt prog prog.depth T (2 / prog.cellsOf T) 0 76 1=true/\T≠5
def Ak (T B b:Nat) (s:ByteArray) (w:World):Prop:=Lib.IsBuilder T 5 B b (Lib.strCells s) w
structure Fr (B b:Nat) (w w':World):Prop where
 below:Below B w w'
 kept: ∀ k cs t fz,k≠b->t≠5->w.heap[k]?=some (.cells cs t fz)->w'.heap[k]?=some (.cells cs t fz)
def Fr.refl (B b:Nat)(w:World):Fr B b w w:=⟨AQ _ _,fun _ _ _ _ _ _ h=>h⟩
def Fr.trans {v:World}(h:Fr B b w u)(k:Fr B b u v):Fr B b w v:=⟨h.below.trans k.below,fun i cs t fz hi ht q=>k.kept i cs t fz hi ht (h.kept i cs t fz hi ht q)⟩
def Fr.alloc (h:Fr B b w u)(hB:B<=u.heap.size)(o:Obj):Fr B b w (u.alloc o):=⟨h.below.alloc hB o,fun i cs t fz hi ht q=>by
 have q2:=h.kept i cs t fz hi ht q;exact(Ah u o i (IU.1 q2).1).trans q2⟩
def Fr.drew (h:Fr B b w u):Fr B b w u.drew:=⟨h.below.drew,h.kept⟩
def Fr.size (h:Fr B b w u):w.heap.size<=u.heap.size:=h.below.size
def Fr.blk (h:Fr B b w u){L:Nat}{cs:Array Value}{t:TypeId}(q:AJ w L cs t)(hL:L≠b)(ht:t≠5):AJ u L cs t:=h.kept L cs t (0,0) hL ht q
def Z9f (args:Array Value)(w:World):(callFunc 182 args).run prog w=((Extern.AbiNoEscape.same args).run prog w).andThen fun v w=> .ok (.value v) w:=by
 rw[PQ func182 zt zt zt (e:=Extern.AbiNoEscape.same) zt]
def wZ {T:Nat}(hT:XN T)(h:Ak T B b s w):
  Calls prog 133 #[.pointer<|Qb b 0] w fun e w'=>e= .returned (.tuple #[])/\Lib.BuilderAt T 5 B b (.pointer<|Qb b 0) (Lib.strCells s) w'/\Fr B b w w':=by
 obtain⟨j,hj,kV⟩:=SE.1 Zzg;rcases h with h | h
 ·have c0:=h.cell0;have f0:=h.frozen0;have e1:=Lib.run_to_unsafe w ⟨b,0,none⟩ underlying73 underlying141 hj (by rw[kV];decide) h.shape<|Nat.zero_lt_succ 1;have e2:=Lib.run_from_unsafe w ⟨b,0,none⟩ underlying141 underlying73 hj h.shape hT.1;have e3:=Z9f #[.pointer<|Qb b 0] w;rw[Lib.run_noEscape]at e3;simp only[Result.andThen]at e3;have R:=AA<|AF (h.used<|.pointer<|Qb b 0) (Fr.mk ((AQ B w).setCell (p:=⟨b,0,none⟩) h.1<|.pointer<|Qb b 0) fun k cs t fz hk ht q=>(Au w _ _ k hk).trans q);clear h;go_in
  go_wp2
  go_end0
  exact⟨rfl,R.out.1,R.out.2⟩
 ·have c0:=h.cell0;have e1:=Lib.run_neq_ptr_same (P:=prog) w ⟨b,0,none⟩ underlying73 hj;have R:=AA h;clear h;go_in
  go_wp2
  go_end0
  exact⟨rfl,R.out,Fr.refl B b _⟩
def wV (s t:ByteArray):Lib.strCells (s++t)=Lib.strCells s++Lib.strCells t:=by simp[Lib.strCells]
def Zzj (c:Nat)(hc:c<256):Lib.strCells (b1 c)=[.int .u8 (c:Int)]:=by
 simp[Lib.strCells,b1,Nat.mod_eq_of_lt hc]
def V7 {e:TypeId}{v:Value}{n:Nat}{xs:List Value}(h:w.ownsRow B e 1 v n xs): ∃ a c,v= .slice a n c:=by
 rcases h.2 with⟨hv,h0⟩ | ⟨g,cap,cur,hv,_⟩
 ·exact⟨none,0,by rw[hv,h0]⟩
 ·exact⟨_,_,hv⟩
def Jn {T:Nat}(hT:XN T)(h:Ak T B b s w)(c:Nat)(hc:c<256)(hs:s.size<1000000000)(hB:B<=w.heap.size):
  Calls prog 79 #[.pointer<|Qb b 0,.int .u8 (c:Int)] w fun e w'=>e= .returned .nilIface/\Ak T B b (s++b1 c) w'/\Fr B b w w':=by
 obtain⟨i0,hi,hz0,hz1,hz2⟩:=info_parts iZ;have C:=AA<|wZ hT h;have E:=AA<|wV s<|b1 c;have E1:=AA<|Zzj c hc;have gH:=hT.2;have hlen:(Lib.strCells s).length<1000000000:=by rw[Lib.strCells_length];exact hs
 clear h hT;generalize Lib.strCells s=bs at*;go_in
 go_wp2_with fail
 refine C.out.mono ?_;rintro e w1 ⟨rfl,⟨JY,v,DT,hown,hne⟩,hb1⟩;obtain⟨va,vc,rfl⟩:=V7 hown;obtain⟨c0,c1,sf⟩:=AJ.two (w:=w1) (L:=b) (e:=T) DT;have hlt:b<w1.heap.size:=AJ.lt (w:=w1) (L:=b) (e:=T) DT;have hsz:=hb1.size;go_wp2_with (at_builtin;refine wpList_append_own _ rfl _ _ 74 rfl B 5 i0 (.int .u8 0) 1 1 underlying74 hi hz0 hz1 hz2 rfl zu _ _ _ rfl (hown.alloc _) ⟨w1.heap.size,0,none⟩ 1 1 [.int .u8 (c:Int)] rfl rfl ?c1 ?c2 ?c3 ?c4 ?c5 ?_)
 case c1=>
  intro j u hj;match j,hj with
  | 0,hj=>simp at hj;subst hj;simp[Addr.add]
 case c2=>intro u hu;simp at hu;subst hu;rfl
 case c3=>unfold maxLen;omega
 case c4=>omega
 case c5=>simp;omega
 intro v2 w2 FC Dx _;obtain⟨dM,dL,rfl⟩:=V7 FC;have hb2:w2.heap[b]?=some (.cells #[.pointer<|Qb b 0,.slice va bs.length vc] T (0,0)):=by
  rw[Dx.block b (by simp;omega) fun e=>hne e.symm,Lib.alloc_old w1 _ b hlt];exact DT
 obtain⟨d0,d1,UR⟩:=AJ.two (w:=w2) (L:=b) (e:=T) hb2;have R:=AA<|AF (Lib.BuilderAt.put (T:=T) (e:=5) JY hb2 (bs':=bs++[.int .u8 (c:Int)]) (by simpa using FC) gH) (Fr.mk (((hb1.below.alloc zx _).grown Dx (by simp;omega) fun k hk=>(hown.lt k hk).1).setCell (p:=⟨b,1,none⟩) JY<|.slice dM (bs.length+1) dL) fun k cs t fz hk ht q=>by
  have q1:=hb1.kept k cs t fz hk ht q;have kl:=(IU.1 q1).1;rw[Au _ _ _ _ hk,Dx.block k (by simp;omega) fun e=>Lib.ownBlock_ne hown q1 ht e.symm,Lib.alloc_old w1 _ k kl];exact q1)
 clear c0 c1 sf hown FC Dx hb2 DT hb1 hne C;go_wp2
 go_ret
 exact⟨rfl,Or.inr (by rw[E.out,E1.out];exact R.out.1),R.out.2⟩
def KT {T:Nat}(hT:XN T)(h:Ak T B b s w)(t:ByteArray)(hs:s.size+t.size<1000000000)(hB:B<=w.heap.size):
  Calls prog 78 #[.pointer<|Qb b 0,.string t] w fun e w'=>e= .returned (.tuple #[.int .i64 t.size,.nilIface])/\Ak T B b (s++t) w'/\Fr B b w w':=by
 obtain⟨i0,hi,hz0,hz1,hz2⟩:=info_parts iZ;have C:=AA<|wZ hT h;have E:=AA<|wV s t;have gH:=hT.2;have hlen:(Lib.strCells s).length+t.size<1000000000:=by rw[Lib.strCells_length];exact hs
 have EL:AC ((Lib.strCells s++Lib.strCells t).length=(Lib.strCells s).length+t.size):=⟨by rw[Bq,Lib.strCells_length t]⟩;clear h hT;generalize Lib.strCells s=bs at*;go_in
 go_wp2_with fail
 refine C.out.mono ?_;rintro e w1 ⟨rfl,⟨JY,v,DT,hown,hne⟩,hb1⟩;obtain⟨va,vc,rfl⟩:=V7 hown;obtain⟨c0,c1,sf⟩:=AJ.two (w:=w1) (L:=b) (e:=T) DT;have hlt:b<w1.heap.size:=AJ.lt (w:=w1) (L:=b) (e:=T) DT;have hsz:=hb1.size;go_wp2_with (at_builtin;refine Lib.wpList_append_own_string _ rfl _ _ 74 9 rfl B 5 i0 underlying74 underlying9 hi hz0 hz1 hz2 _ _ _ rfl hown t rfl ?c3 ?c4 ?c5 ?_)
 case c3=>unfold maxLen;omega
 case c4=>omega
 case c5=>omega
 intro v2 w2 FC Dx _;obtain⟨dM,dL,rfl⟩:=V7 FC;have hb2:w2.heap[b]?=some (.cells #[.pointer<|Qb b 0,.slice va bs.length vc] T (0,0)):=by
  rw[Dx.block b hlt fun e=>hne e.symm];exact DT
 obtain⟨d0,d1,UR⟩:=AJ.two (w:=w2) (L:=b) (e:=T) hb2;have R:=AA<|AF (Lib.BuilderAt.put (T:=T) (e:=5) JY hb2 (bs':=bs++Lib.strCells t) (by rw[EL.out];exact FC) gH) (Fr.mk ((hb1.below.grown Dx zx fun k hk=>(hown.lt k hk).1).setCell (p:=⟨b,1,none⟩) JY<|.slice dM (bs.length+t.size) dL) fun k cs t fz hk ht q=>by
  have q1:=hb1.kept k cs t fz hk ht q;have kl:=(IU.1 q1).1;rw[Au _ _ _ _ hk,Dx.block k kl fun e=>Lib.ownBlock_ne hown q1 ht e.symm];exact q1)
 clear c0 c1 sf hown FC Dx hb2 DT hb1 hne C;go_wp2
 go_ret2
 exact⟨rfl,Or.inr (by rw[E.out];exact R.out.1),R.out.2⟩
def Ak.form {T:Nat}(h:Ak T B b s w): ∃ p va vc,AJ w b #[p,.slice va s.size vc] T/\w.ownsRow B 5 1 (.slice va s.size vc) s.size (Lib.strCells s)/\B<=b:=by
 rcases h with⟨JY,v,DT,hown,hne⟩ | ⟨JY,v,DT,hown,hne⟩;all_goals
  rw[Lib.strCells_length]at hown;obtain⟨va,vc,rfl⟩:=V7 hown;exact⟨_,va,vc,DT,hown,JY⟩
def Ak.drew {T:Nat}(h:Ak T B b s w):Ak T B b s w.drew:=h
def Ak.alloc {T:Nat}(h:Ak T B b s w)(o:Obj):Ak T B b s (w.alloc o):=by
 rcases h with⟨JY,v,DT,hown,hne⟩ | ⟨JY,v,DT,hown,hne⟩
 ·exact Or.inl ⟨JY,v,AJ.alloc (w:=w) (L:=b) (e:=T) DT o,hown.alloc o,hne⟩
 ·exact Or.inr ⟨JY,v,AJ.alloc (w:=w) (L:=b) (e:=T) DT o,hown.alloc o,hne⟩
def Yb9 {T:Nat}(h:Ak T B b s w):
  Calls prog 74 #[.pointer<|Qb b 0] w fun e w'=>e= .returned (.int .i64 (s.size:Int))/\w'=w:=by
 obtain⟨p,va,vc,DT,_,_⟩:=h.form;obtain⟨c0,c1,sf⟩:=DT.two;go_in
 go_wp2
 go_ret
 exact⟨rfl,rfl⟩
def vP:prog.cellsOf 5=1:=zt
def wG {T:Nat}(h:Ak T B b s w)(hs:s.size<1000000000)(hB:B<=w.heap.size):
  Calls prog 26 #[.pointer<|Qb b 0] w fun e w'=>e= .returned (.string s)/\Below B w w':=by
 obtain⟨p,va,vc,DT,hown,JY⟩:=h.form;obtain⟨c0,c1,sf⟩:=DT.two;by_cases h0:s.size=0
 ·obtain rfl:s=ByteArray.empty:=jK<|(Ht<|(Zj s).trans h0).trans (by rw[Lr];rfl);have hUS:=fun q u=>Lib.run_unsafeString_none (P:=prog) u 136 3 9 q;rcases hown.2 with⟨hv,_⟩ | ⟨g,cap,cur,hv,ag,hg,za,hcm,hcs,_⟩
  ·injection hv with FL hv2 hv3;subst FL hv3;have lC:=fun u=>Lib.run_unsafeSliceData_nil (P:=prog) u #[74] 136 0 0;clear h hown;go_in
   go_wp2
   go_region
   all_goals (go_wp2;go_ret;exact⟨rfl,(AQ B w).drew⟩)
  ·injection hv with FL hv2 hv3;subst FL hv3;clear h hown;by_cases hc0:vc=0
   ·subst hc0;have kJ: ∀ u:World,u.heap=w.heap->u.shape? g=some (5,cur.size):=fun u hu=>by simp[World.shape?,hu,hg]
    have Ep:=DT.lt;have RX:=fun o=>((AJ.alloc DT o).two).2.1;have lC:=Lib.run_unsafeSliceData_zero (P:=prog) w.drew #[74] 136 5 underlying136 ⟨g,0,none⟩ 0 _<|kJ w.drew rfl;go_in
    go_wp2
    go_region
    all_goals (go_wp2;go_ret;exact⟨rfl,((AQ B w).alloc hB _).drew⟩)
   ·have lC:=fun u=>Lib.run_unsafeSliceData_row (P:=prog) u #[74] 136 ⟨g,0,none⟩ 0 vc hc0;go_in
    go_wp2
    go_region
    all_goals (go_wp2;go_ret;exact⟨rfl,(AQ B w).drew⟩)
 ·obtain⟨g,cap,cur,hv,ag,hg,za,hcm,hcs,L9⟩: ∃ g cap cur,Value.slice va s.size vc= .slice (Qb g 0) s.size cap/\B<=g/\w.heap[g]?=some (.cells cur 5 (0,0))/\s.size<=cap/\cap<=maxLen/\cur.size=cap*1/\cur.toList.take (s.size*1)=Lib.strCells s:=by
   rcases hown.2 with⟨_,hz⟩ | ⟨g,cap,cur,hv,r⟩
   ·exact absurd hz h0
   ·exact⟨g,cap,cur,hv,r⟩
  injection hv with FL hv2 hv3;subst FL hv3;have hne:s.data.toList≠[]:=fun q=>h0 (by show s.data.size=0;rw[<- UE,q];rfl);have lC:=fun u=>Lib.run_unsafeSliceData_row (P:=prog) u #[74] 136 ⟨g,0,none⟩ s.size vc zx;have hUS:(Builtin.unsafeString_ #[136,3] 9 #[.pointer<|Qb g 0,.int .i64 (s.size:Int)]).run prog w.drew= .ok (.string s) (w.drew.freeze ⟨g,0,none⟩ s.size):=
   Lib.run_unsafeString_row w.drew 136 3 9 5 underlying136 vP g cur.size (by have Gz:w.drew.heap[g]?=some (.cells cur 5 (0,0)):=hg;simp[World.shape?,Gz]) s.data.toList hne (by rw[UE];show s.size<=_;omega) (by rw[UE];show s.size<=_;omega) (fun j x hx=>hown.cells (g:=g) rfl j (.int .u8 x.toNat) (by simp[Lib.strCells,hx]))
  clear h hown L9 hg;go_in
  go_wp2
  go_region
  all_goals (go_wp2;go_ret;exact⟨rfl,Lib.below_freeze ((AQ B w).drew) (p:=⟨g,0,none⟩) ag _⟩)
end Go.P
namespace Go.W
variable {f n:Nat}
def Z0v (h:128<=n):Kz (f+1) n=b1 (n % 128+128)++Kz f (n / 128):=by rw[Kz,if_pos h]
def Z2y (h:n<128):Kz f n=b1 n:=by cases f with
 | zero=>rfl
 | succ f=>rw[Kz,if_neg zx]
def E6 (n:Nat):(b1 n).size=1:=rfl
def Bw (a b c:ByteArray):a++b++c=a++(b++c):=ByteArray.append_assoc
def Ae (a b:ByteArray):(a++b).size=a.size+b.size:=ByteArray.size_append
end Go.W
namespace Go.P
variable {B b:Nat}{s:ByteArray}{w:World}
def Yew: ∀ X:Fin 256,bits .or .u8 ((X.val:Nat):Int) 128=((X.val % 128+128:Nat):Int):=zu
def Yft (m:Nat):bits .or .u8 ((m:Int) % 256) 128=((m % 128+128:Nat):Int):=by
 have h:=Yew ⟨m % 256,Nat.mod_lt _ zx⟩;have e:(m % 256) % 128=m % 128:=zx
 simp only[e]at h;rw[<- h];rfl
def Df (T B b:Nat) (s:ByteArray) (w:World) (e:Ending) (w':World):Prop:=e= .returned (.tuple #[])/\Ak T B b s w'/\Fr B b w w'
def Yds (T B b:Nat) (s:ByteArray) (w:World) (nv:Value) (wr:World):Prop:= ∃ (f n:Nat) (s':ByteArray),n<2 ^ (7*f+1)/\n<18446744073709551616/\f<=10/\nv= .int .u64 (n:Int)/\s'++Kz f n=s/\Ak T B b s' wr/\Fr B b w wr
def Xf (hT:XN 164)(h:Ak 164 B b s w)(n:Nat)(hn:n<18446744073709551616)(hs:s.size+(Dm n).size<1000000000)(hB:B<=w.heap.size):
  Calls prog 134 #[.pointer<|Qb b 0,.int .u64 (n:Int)] w (Df 164 B b (s++Dm n) w):=by
 go_in
 go_wp2
 go_loopw [1] (fun nv wr=>Yds 164 B b (s++Dm n) w nv wr) (fun nv _=>(intOf nv).toNat)
 case atStart=>exact⟨10,n,s,zx,hn,zx,rfl,rfl,h,Fr.refl _ _ _⟩
 case round=>
  obtain⟨f,m,s1,hf,hm,hf10,rfl,hE,hb,hw⟩:=hrel;have hsz:s1.size+(Kz f m).size=s.size+(Dm n).size:=by rw[<- Ae,hE,Ae]
  by_cases hlt:128<=m
  ·obtain⟨f,rfl⟩: ∃ g,f=g+1:=⟨f-1,by
    rcases Nat.eq_zero_or_pos f with rfl | h
    ·omega
    ·omega⟩
   rw[Z0v hlt,Ae,E6]at hsz;rw[Z0v hlt]at hE;have C:=AA<|Jn hT hb (m % 128+128) zx zx<|AU hB hw.size;have h1:(128:Int)<=(m:Int):=zx
   go_wp2_with fail
   rw[Yft];refine C.out.mono ?_;rintro e w1 ⟨rfl,hb1,Ag⟩;have R:=AA<|AF hb1<|hw.trans Ag;clear hb hw hb1 Ag C;go_wp2_with fail
   refine⟨⟨f,m / 128,s1++b1 (m % 128+128),?_,zx,zx,zw,by rw[Bw,hE],R.out.1,R.out.2⟩,by simp[intOf];omega⟩;rw[show 7*(f+1)+1=7*f+1+7 by omega,Nat.pow_add]at hf;omega
  ·rw[Z2y zx]at hsz hE;rw[E6]at hsz;have C:=AA<|Jn hT hb m zx zx<|AU hB hw.size;have h1: ¬ (128:Int)<=(m:Int):=zx
   have h2:(m:Int) % 256=(m:Int):=zx
   go_wp2_with fail
   refine C.out.mono ?_;rintro e w1 ⟨rfl,hb1,Ag⟩;have R:=AA<|AF hb1<|hw.trans Ag;clear hb hw hb1 Ag C;go_wp2
   go_end0
   exact⟨rfl,hE▸R.out.1,R.out.2⟩
def uJ (hT:XN 164)(h:Ak 164 B b s w)(t:ByteArray)(hs:s.size+(GH t).size<1000000000)(hB:B<=w.heap.size):
  Calls prog 135 #[.pointer<|Qb b 0,.string t] w (Df 164 B b (s++GH t) w):=by
 have hs':s.size+(Dm t.size).size+t.size<1000000000:=by rw[GH,Ae]at hs;omega
 have E:AC (s++Dm t.size++t=s++GH t):=⟨by rw[GH,Bw]⟩;have C:=AA<|Xf hT h t.size zx zx hB;have C2:=AA fun u (hu:Ak 164 B b (s++Dm t.size) u) (hb:Fr B b w u)=>KT hT hu t (by rw[Ae];omega) (AU hB hb.size);clear h hs;go_in
 go_wp2_with fail
 refine C.out.mono ?_;rintro e w1 ⟨rfl,hb1,Ag⟩;have CC:=AA<|C2.out _ hb1 Ag;have W1:=AA Ag;clear hb1 Ag C C2;go_wp2_with fail
 refine CC.out.mono ?_;rintro e w2 ⟨rfl,hb2,hw2⟩;go_wp2
 go_end0
 exact⟨rfl,E.out▸hb2,W1.out.trans hw2⟩
end Go.P
namespace Go.W
def uD {α:Type}(f:α->ByteArray): ∀ l r:List α,cat f (l++r)=cat f l++cat f r
 | [],r=>by simp[cat]
 | x::l,r=>by rw[Gm,cat,cat,uD f l r,Bw]
def bN {α:Type}(f:α->ByteArray){l:List α}{q:Nat}(h:q<l.length):cat f (l.take<|q+1)=cat f (l.take q)++f l[q]:=by
 rw[List.take_succ_eq_append_getElem h,uD];simp[cat]
def az {α:Type}(f:α->ByteArray)(l:List α)(q:Nat):(cat f<|l.take q).size<=(cat f l).size:=by
 have h:=congrArg ByteArray.size<|uD f (l.take q)<|l.drop q;rw[List.take_append_drop,Ae]at h;omega
end Go.W
namespace Go.P
def Yal (a:Nat)(h:a<18446744073709551616):a ^^^ 18446744073709551615=18446744073709551615-a:=by
 have e:=congrArg BitVec.toNat<|BitVec.xor_allOnes (x:=BitVec.ofNat 64 a);rw[BitVec.toNat_xor,BitVec.toNat_not,BitVec.toNat_allOnes,BitVec.toNat_ofNat,Nat.mod_eq_of_lt h]at e;exact e
def Z8y (i:Int)(hi:Ey i):bits .xor .u64 (IntKind.u64.wrap<|IntKind.u64.wrap i*2) (IntKind.u64.wrap<|i / 9223372036854775808)=(Pv i:Int):=by
 obtain⟨h1,h2⟩:=hi;simp only[IntKind.wrap_u64];unfold Pv;by_cases h:i<0
 ·rw[if_pos h];have e1:i % 18446744073709551616*2 % 18446744073709551616=((2*i+18446744073709551616).toNat:Int):=zx
  have e2:i / 9223372036854775808 % 18446744073709551616=((18446744073709551615:Nat):Int):=zx
  rw[e1,e2,u64_xor_nat _ _ zx zx,Yal _ zx];omega
 ·rw[if_neg h];have e1:i % 18446744073709551616*2 % 18446744073709551616=((2*i).toNat:Int):=zx
  have e2:i / 9223372036854775808 % 18446744073709551616=((0:Nat):Int):=zx
  rw[e1,e2,u64_xor_nat _ _ zx zx,Nat.xor_zero]
def Ob:XN 164:=⟨zt,zu⟩
def bK {α:Type} (T B b:Nat) (s:ByteArray) (f:α->ByteArray) (w:World) (l:List α) (iv:Value) (wr:World):Prop:= ∃ q:Nat,q<=l.length/\iv= .int .i64 q/\Ak T B b (s++cat f (l.take q)) wr/\Fr B b w wr
def Z2e (i:Int)(hi:Ey i)(w:World):Calls prog 214 #[.int .i64 i] w fun e w'=>e= .returned (.int .u64 (Pv i:Int))/\w'=w:=by
 go_in
 go_wp2
 go_ret
 exact⟨Z63<|Z8y i hi,rfl⟩
end Go.P
