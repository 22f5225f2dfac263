import Derived.Test.YtaoiihbjdonaoaaGreatDoorW03
import Derived.Lib.Strings
import Derived.Lib.Builder
import Derived.Lib.AppendStr
import Derived.Lib.UnsafeStr
import Derived.Shelf.Unicode.ValidAny
import Derived.Shelf.Strconv.Clone
import Derived.Shelf.Unicode.DecodeAny
import Derived.Shelf.Strings.Prefix
import Derived.Shelf.Utf8.AppendRunePlain
import Derived.Shelf.Small.Utf8
set_option linter.defProp false
set_option maxRecDepth 100000
set_option maxHeartbeats 8000000
set_option linter.unusedSimpArgs false
open Go.Proofs Go.RowKit Go.W Tryz
namespace Go.W
def Z7y (c:Nat):Bool:=decide (c=32) || decide (c=9) || decide (c=10) || decide (c=13)
def QI (c:Nat):Nat:=if G9 c then c-48 else c-87
def Ru (s:ByteArray):Bool:=s.toList==[116,114,117,101] || s.toList==[102,97,108,115,101]
def kL (s:ByteArray):Bool:=s.toList==[99,104,101,99,107] || s.toList==[97,108,108,111,119] || s.toList==[100,101,110,121] || s.toList==[105,102] || s.toList==[111,114] || s.toList==[116,114,117,101] || s.toList==[102,97,108,115,101] || s.toList==[104,101,120]
end Go.W
namespace Go.P
def Z0q (c:Nat)(w:World):Calls prog 150 #[.int .u8 (c:Int)] w fun e w'=>e= .returned (.bool<|Z7y c)/\w'=w:=by
 go_in
 go_wp2
 all_goals (go_ret;exact⟨Ns (by rw[Bool.eq_iff_iff];simp[Z7y];omega),rfl⟩)
def Zo9 (c:Nat)(w:World):Calls prog 153 #[.int .u8 (c:Int)] w fun e w'=>e= .returned (.bool<|decide<|c≠10)/\w'=w:=by
 go_in
 go_wp2
 all_goals (go_ret;exact⟨Ns (by rw[Bool.eq_iff_iff];simp;omega),rfl⟩)
def Zx2 (c:Nat)(w:World):Calls prog 188 #[.int .u8 (c:Int)] w fun e w'=>e= .returned (.bool<|KX c)/\w'=w:=by
 go_in
 go_wp2
 all_goals (go_ret;exact⟨Ns (by rw[Bool.eq_iff_iff];simp[KX,G9];omega),rfl⟩)
def Zob (c:Nat)(h:KX c=true)(w:World):Calls prog 189 #[.int .u8 (c:Int)] w fun e w'=>e= .returned (.int .u8 (QI c:Nat))/\w'=w:=by
 have C:=AC<|Zk4 c;have hc:QI c<16:=by
  simp[KX,G9]at h;unfold QI G9;split <;> simp_all <;> omega
 cases hd:G9 c;all_goals
  rw[hd]at C;go_in
  go_wp2_with (first | (go_at_call 109;refine(C.out _).mono ?_;rintro e w' ⟨rfl,rfl⟩))
  go_ret
  refine⟨?_,rfl⟩;have hh:QI c=c-(if G9 c then 48 else 87):=by unfold QI;split <;> rfl
  rw[hd]at hh;simp only[KX,hd]at h;simp[G9]at h hd hh;simp[hh];omega
def Ztq (s:ByteArray)(w:World):Calls prog 165 #[.string s] w fun e w'=>e= .returned (.bool<|Ru s)/\w'=w:=by
 go_in
 go_wp2
 all_goals go_ret
 all_goals exact⟨Ns (by simp_all [Ru]),rfl⟩
def Z5t (s:ByteArray)(w:World):Calls prog 163 #[.string s] w fun e w'=>e= .returned (.bool<|kL s)/\w'=w:=by
 go_in
 go_wp2
 all_goals go_ret
 all_goals exact⟨Ns (by simp_all [kL]),rfl⟩
def Zw4 (b:Bool)(w:World):Calls prog 228 #[.bool b] w fun e w'=>e= .returned (.agg #[zo 6,zo (if b then 1 else 0),.string ⟨#[]⟩,zn])/\Bl w w':=by
 cases b;all_goals
  go_in
  go_wp2_with fail
  all_goals refine Bg (by simp[results,results228,go_sem];try rfl) rfl ?_
  all_goals exact⟨rfl,(AR _ w).alloc lr _⟩
end Go.P
namespace Go.W
structure Tk where
 at_:Nat
 text:ByteArray
 k:Int
 i:Int
 s:ByteArray
def Wy (t:ByteArray):(Ac t).length=t.size:=by simp[Ac]
def AO.eight {w:World}{L:Nat}{e:TypeId}{a b c d f g i j:Value}(h:AO w L #[a,b,c,d,f,g,i,j] e):w.cell? (zm L 0)=some a/\w.cell? (zm L 1)=some b/\w.cell? (zm L 2)=some c/\w.cell? (zm L 3)=some d/\w.cell? (zm L 4)=some f/\w.cell? (zm L 5)=some g/\w.cell? (zm L 6)=some i/\w.cell? (zm L 7)=some j/\ ∀ j,w.frozen? (zm L j)=false:=⟨h.cell 0,h.cell 1,h.cell 2,h.cell 3,h.cell 4,h.cell 5,h.cell 6,h.cell 7,h.soft⟩
end Go.W
namespace Go.P
variable {w:World}{b p q:Nat}{t:ByteArray}{x:Tk}
def Rd (w:World) (b:Nat) (t:ByteArray) (p:Nat) (x:Tk):Prop:=AO w b #[.string t,zo (p:Int),zo (x.at_:Int),.string x.text,zo x.k,zo x.i,.string x.s,zn] 166/\t.size<=8000/\p<=t.size/\23<=b
def Rd.dr (h:Rd w b t p x)(n:Nat):Rd (w.drewN n) b t p x:=h
def Rd.of {u:World}(h:Rd w b t p x)(k:Bl w u):Rd u b t p x:=⟨h.1.of<|k.block b h.1.lt,h.2⟩
def Rd.goes (h:Rd w b t p x)(hq:q<=t.size):Rd (w.setCell (zm b 1)<|zo (q:Int)) b t q x:=⟨h.1.set 1 _,h.2.1,hq,h.2.2.2⟩
def Z05 (h:Rd w b t p x):Calls prog 155 #[zq b 0] w fun e w'=>e= .returned (.int .u8 ((Ac t).getD p 0:Nat))/\ ∃ m,w'=w.drewN m:=by
 obtain⟨hb,ht,hp,hg⟩:=h;obtain⟨c0,c1,-,-,-,-,-,-,sf⟩:=hb.eight;clear hb;by_cases hlt:p<t.size
 ·have g:((p:Int)==(t.size:Int))=false:=by rw[BJ];omega
  have hx:=ZQ t p hlt;go_in
  go_wp2
  go_quiet (fail)
  go_wp2
  go_quiet (fail)
  go_wp2
  go_ret
  exact⟨zw,by first | exact⟨_,rfl⟩ | exact⟨_,World.drewN_drewN ..⟩⟩
 ·obtain rfl:p=t.size:=zx
  go_in
  go_wp2
  go_quiet (fail)
  go_wp2_with fail
  all_goals go_ret
  exact⟨by simp[List.getD,Wy],_,rfl⟩
def qK (h:Rd w b t p x):Calls prog 155 #[zq b 0] w fun e w'=>e= .returned (.int .u8 ((Ac t).getD p 0:Nat))/\Bl w w':=
 (Z05 h).mono fun _ _ ⟨he,m,hm⟩=>⟨he,by rw[hm];exact MW<|AR _ w⟩
def rV (K:Nat) (ok:Nat->Bool):Prop:=Da K/\ ∀ c w,Calls prog K #[.int .u8 ((c:Nat):Int)] w fun e w'=>e= .returned (.bool<|ok c)/\w'=w
def Yhz (b:Nat) (ok:Nat->Bool) (w:World) (t:ByteArray) (p:Nat) (x:Tk) (wr:World):Prop:= ∃ q,p<=q/\Rd wr b t q x/\Ad b w wr/\DT (Ac t) ok q=DT (Ac t) ok p
def qA (b:Nat) (w:World):Nat:=match w.cell? (zm b 1)with
 | some (.int _ p)=>p.toNat
 | _=>0
def bM (h:Rd w b t p x):qA b w=p:=by
 unfold qA;rw[h.1.eight.2.1];rfl
def Yar (ok:Nat->Bool)(h:q<t.size):(ok ((Ac t).getD q 0)=true->DT (Ac t) ok (q+1)=DT (Ac t) ok q)/\(ok ((Ac t).getD q 0)=false->DT (Ac t) ok q=q):=by
 have hl:=Wy t;unfold DT;rw[hl,show t.size-q=(t.size-(q+1))+1 by omega];exact⟨fun g=>by rw[Sr,if_pos ⟨zx,g⟩],fun g=>by rw[Sr,if_neg (fun z=>by rw[g]at z;cases z.2)]⟩
def Ydn (t:ByteArray)(ok:Nat->Bool):DT (Ac t) ok t.size=t.size:=by
 unfold DT;rw[Wy,Nat.sub_self];rfl
def p8 {K:Nat}{ok:Nat->Bool}(F:rV K ok)(h:Rd w b t p x):
  Calls prog 152 #[zq b 0,.func (.func K) #[] #[]] w fun e w'=>e= .returned (.string<|t.extract p<|DT (Ac t) ok p)/\Ad b w w'/\Rd w' b t (DT (Ac t) ok p) x:=by
 have hp:=h.2.2.1;go_in
 obtain⟨c0,c1,-,-,-,-,-,-,sf⟩:=h.1.eight;have H:=AC h;clear h;go_wp2
 go_loopw [13] (fun _ wr=>Yhz b ok w t p x wr) (fun _ wr=>t.size-qA b wr)
 case atStart=>exact⟨p,EO _,H.out,Ad.refl _ _,rfl⟩
 case round=>
  obtain⟨q,hq,hR,hK,hE⟩:=hrel;clear c0 c1 sf H;have h3:=hR.2.2.1;have ht:=hR.2.1;have hM:=bM hR;obtain⟨c0,c1,-,-,-,-,-,-,sf⟩:=hR.1.eight;have HR:=AC hR;have HK:=AC hK;have HE:=AC hE;clear hR hK hE;by_cases hlt:q<t.size
  ·have g:(q:Int)<(t.size:Int):=zx
   have hx:=ZQ t q hlt;have C:=AC<|F.2<|(Ac t).getD q 0;have hen:=F.1;unfold Da at hen;have S:=AC<|Yar ok hlt;clear F;generalize (Ac t).getD q 0=c at*;cases Aq:ok c
   ·rw[Aq]at C;have E:AF (DT (Ac t) ok p=q):=⟨HE.out.symm.trans<|S.out.2 Aq⟩;go_wp2
    go_quiet ((exact Calls.quiet_of_same<|C.out _))
    go_wp2
    go_quiet (fail)
    go_wp2
    go_ret
    rw[E.out];exact⟨zw,(HK.out.dr _).dr _,HR.out⟩
   ·rw[Aq]at C;go_wp2
    go_quiet ((exact Calls.quiet_of_same<|C.out _))
    go_wp2
    go_roundw
    case rel=>exact⟨q+1,zx,by have:=(HR.out.dr nq).goes (q:=q+1) hlt;simpa using this,(HK.out.dr _).set _ _,(S.out.1 Aq).trans HE.out⟩
    case measure=>
     have:=bM<|(HR.out.dr nq).goes (q:=q+1) hlt
     simp at this;rw[hM,this];omega
  ·obtain rfl:q=t.size:=zx
   have E:AF (DT (Ac t) ok p=t.size):=⟨HE.out.symm.trans<|Ydn t ok⟩;go_wp2
   go_quiet (fail)
   go_wp2
   go_quiet (fail)
   go_wp2
   go_ret
   rw[E.out];exact⟨zw,(HK.out.dr _).dr _,HR.out⟩
end Go.P
namespace Go.W
variable {bs:List Nat}{ok:Nat->Bool}{p:Nat}
def Z3y (h:p<bs.length)(k:ok (bs.getD p 0)=true):DT bs ok p=DT bs ok (p+1):=by
 unfold DT;obtain⟨f,hf⟩: ∃ f,bs.length-p=f+1:=⟨bs.length-p-1,zx⟩;rw[hf,Sr,if_pos ⟨h,k⟩,show bs.length-(p+1)=f from zx]
def Ydl: ∀ {f p:Nat},p<=bs.length->p<=Sr bs ok f p/\Sr bs ok f p<=bs.length:=by
 intro f;induction f with
 | zero=>intro p h;exact⟨EO _,h⟩
 | succ f ih=>
  intro p h;rw[Sr];split
  ·rename_i hc
   have:=ih (p:=p+1) zx
   omega
  ·exact⟨EO _,h⟩
def fZ (h:p<=bs.length):p<=DT bs ok p/\DT bs ok p<=bs.length:=Ydl h
def vL {f:Nat}(h:bs.length<=p):VS bs f p=p:=by
 cases f with
 | zero=>rfl
 | succ f=>rw[VS,if_neg zx,if_neg zx]
def Zrq (h:p<bs.length)(h47:bs.getD p 0=47):p<DT bs (fun c=>decide (c≠10)) p/\DT bs (fun c=>decide (c≠10)) p<=bs.length:=by
 have hb:(fun c=>decide (c≠10)) (bs.getD p 0)=true:=by rw[h47];decide
 rw[Z3y h hb]
 have:=fZ (bs:=bs) (ok:=fun c=>decide (c≠10)) (p:=p+1) zx
 omega
def Z3x: ∀ (n f g p:Nat),bs.length-p<=n->bs.length-p<=f->bs.length-p<=g->VS bs f p=VS bs g p:=by
 intro n;induction n with
 | zero=>intro f g p h _ _;rw[vL zx,vL zx]
 | succ n ih=>
  intro f g p hn hf hg;by_cases hp:bs.length<=p
  ·rw[vL hp,vL hp]
  ·obtain⟨f,rfl⟩: ∃ m,f=m+1:=⟨f-1,zx⟩;obtain⟨g,rfl⟩: ∃ m,g=m+1:=⟨g-1,zx⟩;rw[VS,VS];by_cases hb:p<bs.length/\jd (bs.getD p 0)=true
   ·rw[if_pos hb,if_pos hb];exact ih f g (p+1) zx zx zx
   ·rw[if_neg hb,if_neg hb];by_cases hc:p+1<bs.length/\bs.getD p 0=47/\bs.getD (p+1) 0=47
    ·rw[if_pos hc,if_pos hc]
     have:=Zrq zx hc.2.1
     exact ih f g _ zx zx zx
    ·rw[if_neg hc,if_neg hc]
def Z1h (h:p<bs.length)(k:jd (bs.getD p 0)=true):Nn bs p=Nn bs (p+1):=by
 unfold Nn;obtain⟨m,hm⟩: ∃ m,bs.length-p=m+1:=⟨bs.length-p-1,zx⟩;rw[hm,VS,if_pos ⟨h,k⟩];exact Z3x _ _ _ _ lr zx lr
def Z6i (k:jd (bs.getD p 0)=false)(h:p+1<bs.length/\bs.getD p 0=47/\bs.getD (p+1) 0=47):Nn bs p=Nn bs (DT bs (fun c=>decide (c≠10)) p):=by
 unfold Nn;obtain⟨m,hm⟩: ∃ m,bs.length-p=m+1:=⟨bs.length-p-1,zx⟩;rw[hm,VS,if_neg (by rw[k];simp),if_pos h]
 have:=Zrq zx h.2.1
 exact Z3x _ _ _ _ lr zx lr
def Z6j (k: ¬ (p<bs.length/\jd (bs.getD p 0)=true))(h: ¬ (p+1<bs.length/\bs.getD p 0=47/\bs.getD (p+1) 0=47)):Nn bs p=p:=by
 unfold Nn;cases bs.length-p with
 | zero=>rfl
 | succ m=>rw[VS,if_neg k,if_neg h]
def Z07 {t:ByteArray}(h:p<t.size):Lib.hasPrefix (t.extract p t.size).data.toList (⟨#[47,47]⟩:ByteArray).data.toList=decide (p+1<t.size/\(Ac t).getD p 0=47/\(Ac t).getD (p+1) 0=47):=by
 have e:(t.extract p t.size).data.toList=t.data.toList.drop p:=by
  simp[ByteArray.data_extract,Array.toList_extract,U0]
 rw[e];have hs:t.size=t.data.toList.length:=zw
 have g: ∀ i,(Ac t).getD (p+i) 0=((t.data.toList.drop p).map (·.toNat)).getD i 0:=fun i=>by simp[Ac,List.getD]
 rw[show(Ac t).getD p 0=_ from g 0,g 1,hs];have hl:(t.data.toList.drop p).length=t.data.toList.length-p:=List.length_drop;rw[hs]at h;generalize t.data.toList.drop p=l at*;match l with
 | []=>simp at hl;omega
 | [c]=>rw[I8 (by simp at hl;omega)];simp[Lib.hasPrefix,List.isPrefixOf]
 | c::d::r=>
  rw[Bool.eq_iff_iff];simp at hl;simp[Lib.hasPrefix,List.isPrefixOf];constructor
  ·rintro⟨rfl,rfl⟩;exact⟨zx,rfl,rfl⟩
  ·rintro⟨_,h1,h2⟩;exact⟨(UInt8.toNat_inj.1 h1).symm,(UInt8.toNat_inj.1 h2).symm⟩
end Go.W
namespace Go.P
variable {B b:Nat}{w u:World}{s:ByteArray}
def Z1g:(prog.info? 117).map (·.size)=some 2:=zt
def qT:(prog.info? 5).map (fun i=>(i.zero,i.size,i.bytes))=some (some<|.int .u8 0,1,1):=zt
def fH (T:TypeId):Prop:=liesAt prog prog.depth T (2 / prog.cellsOf T) 0 117 1=true/\T≠5
def DV (T B b:Nat) (s:ByteArray) (w:World):Prop:=Lib.IsBuilder T 5 B b (Lib.strCells s) w
structure Fr (B b:Nat) (w w':World):Prop where
 below:Below B w w'
 kept: ∀ k cs t fz,k≠b->t≠5->w.heap[k]?=some (.cells cs t fz)->w'.heap[k]?=some (.cells cs t fz)
def Fr.refl (B b:Nat)(w:World):Fr B b w w:=⟨AR _ _,fun _ _ _ _ _ _ h=>h⟩
def Fr.trans {v:World}(h:Fr B b w u)(k:Fr B b u v):Fr B b w v:=⟨h.below.trans k.below,fun i cs t fz hi ht q=>k.kept i cs t fz hi ht (h.kept i cs t fz hi ht q)⟩
def Fr.alloc (h:Fr B b w u)(hB:B<=u.heap.size)(o:Obj):Fr B b w (u.alloc o):=⟨h.below.alloc hB o,fun i cs t fz hi ht q=>by
 have q2:=h.kept i cs t fz hi ht q;exact(Ah u o i (PN.1 q2).1).trans q2⟩
def Fr.drew (h:Fr B b w u):Fr B b w u.drew:=⟨h.below.drew,h.kept⟩
def Fr.size (h:Fr B b w u):w.heap.size<=u.heap.size:=h.below.size
def Fr.blk (h:Fr B b w u){L:Nat}{cs:Array Value}{t:TypeId}(q:AO w L cs t)(hL:L≠b)(ht:t≠5):AO u L cs t:=h.kept L cs t (0,0) hL ht q
def Yc1 (args:Array Value)(w:World):(callFunc 134 args).run prog w=((Extern.AbiNoEscape.same args).run prog w).andThen fun v w=> .ok (.value v) w:=by
 rw[JA func134 zt zt zt (e:=Extern.AbiNoEscape.same) zt]
def Zik {T:Nat}(hT:fH T)(h:DV T B b s w):
  Calls prog 86 #[zq b 0] w fun e w'=>e= .returned (.tuple #[])/\Lib.BuilderAt T 5 B b (zq b 0) (Lib.strCells s) w'/\Fr B b w w':=by
 obtain⟨j,hj,dY⟩:=QP.1 Z1g;rcases h with h | h
 ·have c0:=h.cell0;have f0:=h.frozen0;have e1:=Lib.run_to_unsafe w (zm b 0) underlying114 underlying130 hj (by rw[dY];decide) h.shape<|Nat.zero_lt_succ 1;have e2:=Lib.run_from_unsafe w (zm b 0) underlying130 underlying114 hj h.shape hT.1;have e3:=Yc1 #[zq b 0] w;rw[Lib.run_noEscape]at e3;simp only[Result.andThen]at e3;have R:=AC<|AJ (h.used<|zq b 0) (Fr.mk ((AR B w).setCell (p:=(zm b 0)) h.1<|zq b 0) fun k cs t fz hk ht q=>(Aw w _ _ k hk).trans q);clear h;go_in
  go_wp2
  go_end0
  exact⟨rfl,R.out.1,R.out.2⟩
 ·have c0:=h.cell0;have e1:=Lib.run_neq_ptr_same (P:=prog) w (zm b 0) underlying114 hj;have R:=AC h;clear h;go_in
  go_wp2
  go_end0
  exact⟨rfl,R.out,Fr.refl B b _⟩
def Zjz (s t:ByteArray):Lib.strCells (s++t)=Lib.strCells s++Lib.strCells t:=by simp[Lib.strCells]
def Z1k (c:Nat)(hc:c<256):Lib.strCells (b1 c)=[.int .u8 (c:Int)]:=by
 simp[Lib.strCells,b1,Nat.mod_eq_of_lt hc]
def ZX {e:TypeId}{v:Value}{n:Nat}{xs:List Value}(h:w.ownsRow B e 1 v n xs): ∃ a c,v= .slice a n c:=by
 rcases h.2 with⟨hv,h0⟩ | ⟨g,cap,cur,hv,_⟩
 ·exact⟨none,0,by rw[hv,h0]⟩
 ·exact⟨_,_,hv⟩
def kI {T:Nat}(hT:fH T)(h:DV T B b s w)(c:Nat)(hc:c<256)(hs:s.size<1000000000)(hB:B<=w.heap.size):
  Calls prog 40 #[zq b 0,.int .u8 (c:Int)] w fun e w'=>e= .returned .nilIface/\DV T B b (s++b1 c) w'/\Fr B b w w':=by
 obtain⟨i0,hi,hz0,hz1,hz2⟩:=info_parts qT;have C:=AC<|Zik hT h;have E:=AC<|Zjz s<|b1 c;have E1:=AC<|Z1k c hc;have oQ:=hT.2;have hlen:(Lib.strCells s).length<1000000000:=by rw[Lib.strCells_length];exact hs
 clear h hT;generalize Lib.strCells s=bs at*;go_in
 go_wp2_with fail
 refine C.out.mono ?_;rintro e w1 ⟨rfl,⟨Px,v,Bo,hown,hne⟩,hb1⟩;obtain⟨va,vc,rfl⟩:=ZX hown;obtain⟨c0,c1,sf⟩:=AO.two (w:=w1) (L:=b) (e:=T) Bo;have hlt:b<w1.heap.size:=AO.lt (w:=w1) (L:=b) (e:=T) Bo;have hsz:=hb1.size;go_wp2_with (at_builtin;refine wpList_append_own _ rfl _ _ 115 rfl B 5 i0 (.int .u8 0) 1 1 underlying115 hi hz0 hz1 hz2 rfl zu _ _ _ rfl (hown.alloc _) (zm w1.heap.size 0) 1 1 [.int .u8 (c:Int)] rfl rfl ?c1 ?c2 ?c3 ?c4 ?c5 ?_)
 case c1=>
  intro j u hj;match j,hj with
  | 0,hj=>simp at hj;subst hj;simp[Addr.add]
 case c2=>intro u hu;simp at hu;subst hu;rfl
 case c3=>unfold maxLen;omega
 case c4=>omega
 case c5=>simp;omega
 intro v2 w2 Fe ED _;obtain⟨lM,lL,rfl⟩:=ZX Fe;have hb2:w2.heap[b]?=some (.cells #[zq b 0,.slice va bs.length vc] T (0,0)):=by
  rw[ED.block b (by simp;omega) fun e=>hne e.symm,Lib.alloc_old w1 _ b hlt];exact Bo
 obtain⟨d0,d1,XU⟩:=AO.two (w:=w2) (L:=b) (e:=T) hb2;have R:=AC<|AJ (Lib.BuilderAt.put (T:=T) (e:=5) Px hb2 (bs':=bs++[.int .u8 (c:Int)]) (by simpa using Fe) oQ) (Fr.mk (((hb1.below.alloc zx _).grown ED (by simp;omega) fun k hk=>(hown.lt k hk).1).setCell (p:=(zm b 1)) Px<|.slice lM (bs.length+1) lL) fun k cs t fz hk ht q=>by
  have q1:=hb1.kept k cs t fz hk ht q;have kl:=(PN.1 q1).1;rw[Aw _ _ _ _ hk,ED.block k (by simp;omega) fun e=>Lib.ownBlock_ne hown q1 ht e.symm,Lib.alloc_old w1 _ k kl];exact q1)
 clear c0 c1 sf hown Fe ED hb2 Bo hb1 hne C;go_wp2
 go_ret
 exact⟨rfl,Or.inr (by rw[E.out,E1.out];exact R.out.1),R.out.2⟩
def Zj1 {T:Nat}(hT:fH T)(h:DV T B b s w)(t:ByteArray)(hs:s.size+t.size<1000000000)(hB:B<=w.heap.size):
  Calls prog 39 #[zq b 0,.string t] w fun e w'=>e= .returned (.tuple #[zo t.size,.nilIface])/\DV T B b (s++t) w'/\Fr B b w w':=by
 obtain⟨i0,hi,hz0,hz1,hz2⟩:=info_parts qT;have C:=AC<|Zik hT h;have E:=AC<|Zjz s t;have oQ:=hT.2;have hlen:(Lib.strCells s).length+t.size<1000000000:=by rw[Lib.strCells_length];exact hs
 have EL:AF ((Lib.strCells s++Lib.strCells t).length=(Lib.strCells s).length+t.size):=⟨by rw[JS,Lib.strCells_length t]⟩;clear h hT;generalize Lib.strCells s=bs at*;go_in
 go_wp2_with fail
 refine C.out.mono ?_;rintro e w1 ⟨rfl,⟨Px,v,Bo,hown,hne⟩,hb1⟩;obtain⟨va,vc,rfl⟩:=ZX hown;obtain⟨c0,c1,sf⟩:=AO.two (w:=w1) (L:=b) (e:=T) Bo;have hlt:b<w1.heap.size:=AO.lt (w:=w1) (L:=b) (e:=T) Bo;have hsz:=hb1.size;go_wp2_with (at_builtin;refine Lib.wpList_append_own_string _ rfl _ _ 115 9 rfl B 5 i0 underlying115 underlying9 hi hz0 hz1 hz2 _ _ _ rfl hown t rfl ?c3 ?c4 ?c5 ?_)
 case c3=>unfold maxLen;omega
 case c4=>omega
 case c5=>omega
 intro v2 w2 Fe ED _;obtain⟨lM,lL,rfl⟩:=ZX Fe;have hb2:w2.heap[b]?=some (.cells #[zq b 0,.slice va bs.length vc] T (0,0)):=by
  rw[ED.block b hlt fun e=>hne e.symm];exact Bo
 obtain⟨d0,d1,XU⟩:=AO.two (w:=w2) (L:=b) (e:=T) hb2;have R:=AC<|AJ (Lib.BuilderAt.put (T:=T) (e:=5) Px hb2 (bs':=bs++Lib.strCells t) (by rw[EL.out];exact Fe) oQ) (Fr.mk ((hb1.below.grown ED zx fun k hk=>(hown.lt k hk).1).setCell (p:=(zm b 1)) Px<|.slice lM (bs.length+t.size) lL) fun k cs t fz hk ht q=>by
  have q1:=hb1.kept k cs t fz hk ht q;have kl:=(PN.1 q1).1;rw[Aw _ _ _ _ hk,ED.block k kl fun e=>Lib.ownBlock_ne hown q1 ht e.symm];exact q1)
 clear c0 c1 sf hown Fe ED hb2 Bo hb1 hne C;go_wp2
 go_ret2
 exact⟨rfl,Or.inr (by rw[E.out];exact R.out.1),R.out.2⟩
def DV.form {T:Nat}(h:DV T B b s w): ∃ p va vc,AO w b #[p,.slice va s.size vc] T/\w.ownsRow B 5 1 (.slice va s.size vc) s.size (Lib.strCells s)/\B<=b:=by
 rcases h with⟨Px,v,Bo,hown,hne⟩ | ⟨Px,v,Bo,hown,hne⟩;all_goals
  rw[Lib.strCells_length]at hown;obtain⟨va,vc,rfl⟩:=ZX hown;exact⟨_,va,vc,Bo,hown,Px⟩
def DV.drew {T:Nat}(h:DV T B b s w):DV T B b s w.drew:=h
def DV.alloc {T:Nat}(h:DV T B b s w)(o:Obj):DV T B b s (w.alloc o):=by
 rcases h with⟨Px,v,Bo,hown,hne⟩ | ⟨Px,v,Bo,hown,hne⟩
 ·exact Or.inl ⟨Px,v,AO.alloc (w:=w) (L:=b) (e:=T) Bo o,hown.alloc o,hne⟩
 ·exact Or.inr ⟨Px,v,AO.alloc (w:=w) (L:=b) (e:=T) Bo o,hown.alloc o,hne⟩
def Yf8 {T:Nat}(h:DV T B b s w):
  Calls prog 80 #[zq b 0] w fun e w'=>e= .returned (zo (s.size:Int))/\w'=w:=by
 obtain⟨p,va,vc,Bo,_,_⟩:=h.form;obtain⟨c0,c1,sf⟩:=Bo.two;go_in
 go_wp2
 go_ret
 exact⟨rfl,rfl⟩
def Zp8:prog.cellsOf 5=1:=zt
def Zuf {T:Nat}(h:DV T B b s w)(hs:s.size<1000000000)(hB:B<=w.heap.size):
  Calls prog 44 #[zq b 0] w fun e w'=>e= .returned (.string s)/\Below B w w':=by
 obtain⟨p,va,vc,Bo,hown,Px⟩:=h.form;obtain⟨c0,c1,sf⟩:=Bo.two;by_cases h0:s.size=0
 ·obtain rfl:s=ByteArray.empty:=jy<|(M9<|(gL s).trans h0).trans (by rw[Nw];rfl);have hUS:=fun q u=>Lib.run_unsafeString_none (P:=prog) u 186 3 9 q;rcases hown.2 with⟨hv,_⟩ | ⟨g,cap,cur,hv,jL,hg,hnc,hcm,hcs,_⟩
  ·injection hv with Et hv2 hv3;subst Et hv3;have uK:=fun u=>Lib.run_unsafeSliceData_nil (P:=prog) u #[115] 186 0 0;clear h hown;go_in
   go_wp2
   go_region
   all_goals (go_wp2;go_ret;exact⟨rfl,(AR B w).drew⟩)
  ·injection hv with Et hv2 hv3;subst Et hv3;clear h hown;by_cases hc0:vc=0
   ·subst hc0;have tF: ∀ u:World,u.heap=w.heap->u.shape? g=some (5,cur.size):=fun u hu=>by simp[World.shape?,hu,hg]
    have E9:=Bo.lt;have Sn:=fun o=>((AO.alloc Bo o).two).2.1;have uK:=Lib.run_unsafeSliceData_zero (P:=prog) w.drew #[115] 186 5 underlying186 (zm g 0) 0 _<|tF w.drew rfl;go_in
    go_wp2
    go_region
    all_goals (go_wp2;go_ret;exact⟨rfl,((AR B w).alloc hB _).drew⟩)
   ·have uK:=fun u=>Lib.run_unsafeSliceData_row (P:=prog) u #[115] 186 (zm g 0) 0 vc hc0;go_in
    go_wp2
    go_region
    all_goals (go_wp2;go_ret;exact⟨rfl,(AR B w).drew⟩)
 ·obtain⟨g,cap,cur,hv,jL,hg,hnc,hcm,hcs,Kv⟩: ∃ g cap cur,Value.slice va s.size vc= .slice (Qb g 0) s.size cap/\B<=g/\w.heap[g]?=some (.cells cur 5 (0,0))/\s.size<=cap/\cap<=maxLen/\cur.size=cap*1/\cur.toList.take (s.size*1)=Lib.strCells s:=by
   rcases hown.2 with⟨_,hz⟩ | ⟨g,cap,cur,hv,r⟩
   ·exact absurd hz h0
   ·exact⟨g,cap,cur,hv,r⟩
  injection hv with Et hv2 hv3;subst Et hv3;have hne:s.data.toList≠[]:=fun q=>h0 (by show s.data.size=0;rw[<- Vp,q];rfl);have uK:=fun u=>Lib.run_unsafeSliceData_row (P:=prog) u #[115] 186 (zm g 0) s.size vc zx;have hUS:(Builtin.unsafeString_ #[186,3] 9 #[zq g 0,zo (s.size:Int)]).run prog w.drew= .ok (.string s) (w.drew.freeze (zm g 0) s.size):=
   Lib.run_unsafeString_row w.drew 186 3 9 5 underlying186 Zp8 g cur.size (by have Yi:w.drew.heap[g]?=some (.cells cur 5 (0,0)):=hg;simp[World.shape?,Yi]) s.data.toList hne (by rw[Vp];show s.size<=_;omega) (by rw[Vp];show s.size<=_;omega) (fun j x hx=>hown.cells (g:=g) rfl j (.int .u8 x.toNat) (by simp[Lib.strCells,hx]))
  clear h hown Kv hg;go_in
  go_wp2
  go_region
  all_goals (go_wp2;go_ret;exact⟨rfl,Lib.below_freeze ((AR B w).drew) (p:=(zm g 0)) jL _⟩)
end Go.P
namespace Go.Proofs
open Go.RowKit Go.Shelf Go.Lib
def Tryz.ES:Go.Shelf.Ren:=⟨fun | 196=>207 | 259=>237 | n=>n,fun | 9=>9 | 4=>4 | 3=>3 | 5=>5 | 12=>12 | 119=>349 | 0=>0 | 46=>244 | 139=>352 | 138=>351 | 53=>185 | n=>n,fun | 3=>15 | 4=>16 | n=>n⟩
def Tryz.Ik:Go.Proofs.Lays.n196 prog Tryz.ES where
 mixed:=zt
 f196:=func207.trans (congrArg some zt)
 f259:=func237.trans (congrArg some zt)
 t0:=underlying0
 a0:=isAgg0
 z0:=sizeOf0
 v0:=zeroValue0
 t3:=underlying3
 a3:=isAgg3
 z3:=sizeOf3
 v3:=zeroValue3
 t4:=underlying4
 a4:=isAgg4
 z4:=sizeOf4
 v4:=zeroValue4
 t5:=underlying5
 a5:=isAgg5
 z5:=sizeOf5
 v5:=zeroValue5
 t9:=underlying9
 a9:=isAgg9
 z9:=sizeOf9
 v9:=zeroValue9
 t12:=underlying12
 a12:=isAgg12
 z12:=sizeOf12
 v12:=zeroValue12
 t46:=underlying244
 a46:=isAgg244
 z46:=sizeOf244
 v46:=zeroValue244
 t53:=underlying185
 a53:=isAgg185
 z53:=sizeOf185
 v53:=zeroValue185
 t119:=underlying349
 a119:=isAgg349
 z119:=sizeOf349
 t138:=underlying351
 a138:=isAgg351
 z138:=sizeOf351
 v138:=zeroValue351
 t139:=underlying352
 a139:=isAgg352
 z139:=sizeOf352
 v139:=zeroValue352
 g3:=zt
 g4:=zt
def Tryz.Lu:Go.Shelf.Ren:=⟨fun | 316=>190 | n=>n,fun | 9=>9 | 3=>3 | 4=>4 | 37=>115 | 0=>0 | 127=>186 | 5=>5 | n=>n,fun | n=>n⟩
def Tryz.UG:Go.Proofs.LaysM.n316 prog Tryz.Lu where
 mixed:=zt
 f316:=func190.trans (congrArg some zt)
 t0:=underlying0
 a0:=isAgg0
 z0:=sizeOf0
 v0:=zeroValue0
 t3:=underlying3
 a3:=isAgg3
 z3:=sizeOf3
 v3:=zeroValue3
 t4:=underlying4
 a4:=isAgg4
 z4:=sizeOf4
 v4:=zeroValue4
 t9:=underlying9
 a9:=isAgg9
 z9:=sizeOf9
 v9:=zeroValue9
 t37:=underlying115
 a37:=isAgg115
 z37:=sizeOf115
 v37:=zeroValue115
 t127:=underlying186
 a127:=isAgg186
 z127:=sizeOf186
 v127:=zeroValue186
 t5:=underlying5
 a5:=isAgg5
 z5:=sizeOf5
 v5:=zeroValue5
 i0:=zt
 i3:=zt
 i4:=zt
 i5:=zt
 i9:=zt
 i37:=zt
 i127:=zt
def Tryz.OK:Go.Shelf.Ren:=⟨fun | 197=>160 | 260=>193 | n=>n,fun | 9=>9 | 21=>21 | 3=>3 | 4=>4 | 5=>5 | 105=>262 | 119=>349 | 0=>0 | 46=>244 | 139=>352 | 138=>351 | n=>n,fun | 3=>15 | 4=>16 | n=>n⟩
def Tryz.Vy:Go.Proofs.Lays.n197 prog Tryz.OK where
 mixed:=zt
 f197:=func160.trans (congrArg some zt)
 f260:=func193.trans (congrArg some zt)
 t0:=underlying0
 a0:=isAgg0
 z0:=sizeOf0
 v0:=zeroValue0
 t3:=underlying3
 a3:=isAgg3
 z3:=sizeOf3
 v3:=zeroValue3
 t4:=underlying4
 a4:=isAgg4
 z4:=sizeOf4
 v4:=zeroValue4
 t5:=underlying5
 a5:=isAgg5
 z5:=sizeOf5
 v5:=zeroValue5
 t9:=underlying9
 a9:=isAgg9
 z9:=sizeOf9
 v9:=zeroValue9
 t21:=underlying21
 a21:=isAgg21
 z21:=sizeOf21
 v21:=zeroValue21
 t46:=underlying244
 a46:=isAgg244
 z46:=sizeOf244
 v46:=zeroValue244
 t105:=underlying262
 a105:=isAgg262
 z105:=sizeOf262
 v105:=zeroValue262
 t119:=underlying349
 a119:=isAgg349
 z119:=sizeOf349
 t138:=underlying351
 a138:=isAgg351
 z138:=sizeOf351
 v138:=zeroValue351
 t139:=underlying352
 a139:=isAgg352
 z139:=sizeOf352
 v139:=zeroValue352
 g3:=zt
 g4:=zt
def Tryz.J7:Go.Shelf.Ren:=⟨fun | 99=>151 | 206=>187 | n=>n,fun | 9=>9 | 4=>4 | 3=>3 | n=>n,fun | n=>n⟩
def Tryz.Q8:Go.Proofs.Lays.n99 prog Tryz.J7 where
 mixed:=zt
 f99:=func151.trans (congrArg some zt)
 f206:=func187.trans (congrArg some zt)
 t3:=underlying3
 a3:=isAgg3
 z3:=sizeOf3
 v3:=zeroValue3
 t4:=underlying4
 a4:=isAgg4
 z4:=sizeOf4
 v4:=zeroValue4
 t9:=underlying9
 a9:=isAgg9
 z9:=sizeOf9
 v9:=zeroValue9
def Tryz.J8:Go.Shelf.Ren:=⟨fun | 242=>158 | 278=>191 | n=>n,fun | 37=>115 | 21=>21 | 51=>228 | 4=>4 | 5=>5 | 46=>244 | n=>n,fun | n=>n⟩
def Tryz.Q9:Go.Proofs.Lays.n242 prog Tryz.J8 where
 mixed:=zt
 f242:=func158.trans (congrArg some zt)
 f278:=func191.trans (congrArg some zt)
 t4:=underlying4
 a4:=isAgg4
 z4:=sizeOf4
 v4:=zeroValue4
 t5:=underlying5
 a5:=isAgg5
 z5:=sizeOf5
 v5:=zeroValue5
 t21:=underlying21
 a21:=isAgg21
 z21:=sizeOf21
 v21:=zeroValue21
 t37:=underlying115
 a37:=isAgg115
 z37:=sizeOf115
 v37:=zeroValue115
 t46:=underlying244
 a46:=isAgg244
 z46:=sizeOf244
 v46:=zeroValue244
 t51:=underlying228
 a51:=isAgg228
 z51:=sizeOf228
 v51:=zeroValue228
def Tryz.Hz:Go.Shelf.Ren:=⟨fun | 119=>221 | n=>n,fun | 21=>21 | 4=>4 | n=>n,fun | n=>n⟩
def Tryz.Ls:Go.Proofs.Lays.n119 prog Tryz.Hz where
 mixed:=zt
 f119:=func221.trans (congrArg some zt)
 t4:=underlying4
 a4:=isAgg4
 z4:=sizeOf4
 v4:=zeroValue4
 t21:=underlying21
 a21:=isAgg21
 z21:=sizeOf21
 v21:=zeroValue21
end Go.Proofs
namespace Go.P
open Go.RowKit Go.Shelf Go.Lib Go.W
def Z36:D9:=fun a s w Z hs=>Any.utf8_ValidString Tryz.Ik s w zx Z.iR
def uu:Gg:=by
 intro s w hs;have C:=AC fun u=>Any.stringslite_Clone Tryz.UG s u zx;go_in
 go_wp2_with fail
 refine(C.out _).mono ?_;rintro e w' ⟨rfl,hb⟩;go_wp2_with fail
 all_goals go_ret
 all_goals exact⟨rfl,hb⟩
def Znp (s p:ByteArray)(w:World):Calls prog 151 #[.string s,.string p] w fun e w'=>e= .returned (.bool<|hasPrefix s.data.toList p.data.toList)/\w'=w:=
 Any.strings_HasPrefix Tryz.Q8 s p w
def Ydh {a:Nat->Addr}{w:World}(Z:AZ a w)(s:ByteArray):Calls prog 160 #[.string s] w fun e w'=>e= .returned (.tuple #[.int .i32 ((decodeGo s).1:Nat),zo ((decodeGo s).2:Nat)])/\Bl w w':=
 Any.utf8_DecodeRuneInString Tryz.Vy s w Z.iR
def Zwg (r:Int)(w:World):Calls prog 221 #[.int .i32 r] w fun e w'=>e= .returned (.bool<|Lib.validRune r)/\w'=w:=
 Any.utf8_ValidRune Tryz.Ls r w
def Zkp (B:Nat)(v:Value)(n:Nat)(xs:List Value)(r:Int)(h1: -2147483648<=r)(h2:r<=2147483647)(w:World)(h:w.ownsRow B 5 1 v n xs)(hn:n+4<=140737488355328)(hB:B<=w.heap.size):
  Calls prog 158 #[v,.int .i32 r] w fun e w'=> ∃ v',e= .returned v'/\w'.ownsRow B 5 1 v' (n+(runeCells r).length) (xs++runeCells r)/\ ∃ o,(w.alloc o).grownBy w' v.ownBlock:=
 Any.utf8_AppendRune_plain Tryz.Q9 qT B v n xs r h1 h2 w h hn hB
end Go.P
