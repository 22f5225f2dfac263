import Derived.Test.YtpmcefkhkkpnbaaGreatDoorW03
import Derived.Lib.Strings
import Derived.Lib.Builder
import Derived.Lib.AppendStr
import Derived.Lib.UnsafeStr
import Derived.Shelf.Unicode.ValidAny
import Derived.Shelf.Strconv.Clone
import Derived.Shelf.Unicode.DecodeAny
import Derived.Shelf.Strings.Prefix
import Derived.Shelf.Utf8.AppendRunePlain
import Derived.Shelf.Small.Utf8
set_option linter.all false
set_option maxRecDepth 100000
set_option maxHeartbeats 8000000
open Go.Proofs Go.RowKit Go.W Tryz
namespace Go.W
def Z7y (c:Nat):Bool:=decide (c=32) || decide (c=9) || decide (c=10) || decide (c=13)
def QI (c:Nat):Nat:=if G9 c then c-48 else c-87
def Ru (s:Ay):Bool:=s.toList==[116,114,117,101] || s.toList==[102,97,108,115,101]
def kL (s:Ay):Bool:=s.toList==[99,104,101,99,107] || s.toList==[97,108,108,111,119] || s.toList==[100,101,110,121] || s.toList==[105,102] || s.toList==[111,114] || s.toList==[116,114,117,101] || s.toList==[102,97,108,115,101] || s.toList==[104,101,120]
def Z0q (c:Nat)(w:Bb):Calls prog 190 #[yS (c:Int)] w fun e w'=>e=uY (.bool<|Z7y c)/\w'=w:=by
 go_in
 go_wp2
 all_goals (go_ret;exact⟨Ns (by rw[Bool.eq_iff_iff];simp[Z7y];omega),rfl⟩)
def Zo9 (c:Nat)(w:Bb):Calls prog 193 #[yS (c:Int)] w fun e w'=>e=uY (.bool<|decide<|c≠10)/\w'=w:=by
 go_in
 go_wp2
 all_goals (go_ret;exact⟨Ns (by rw[Bool.eq_iff_iff];simp;omega),rfl⟩)
def Zx2 (c:Nat)(w:Bb):Calls prog 240 #[yS (c:Int)] w fun e w'=>e=uY (.bool<|KX c)/\w'=w:=by
 go_in
 go_wp2
 all_goals (go_ret;exact⟨Ns (by rw[Bool.eq_iff_iff];simp[KX,G9];omega),rfl⟩)
def Zob (c:Nat)(h:KX c=true)(w:Bb):Calls prog 241 #[yS (c:Int)] w fun e w'=>e=uY (yS (QI c:Nat))/\w'=w:=by
 have C:=AC<|Zk4 c;have hc:QI c<16:=by
  simp[KX,G9]at h;unfold QI G9;split <;> simp_all <;> omega
 cases hd:G9 c;all_goals
  rw[hd]at C;go_in
  go_wp2_with (first | (go_at_call 131;apply(C.o _).mono;rintro e w' ⟨rfl,rfl⟩))
  go_ret
  refine⟨?_,rfl⟩;have hh:QI c=c-(if G9 c then 48 else 87):=by unfold QI;split <;> rfl
  rw[hd]at hh;simp only[KX,hd]at h;simp[G9]at h hd hh;simp[hh];omega
def Ztq (s:Ay)(w:Bb):Calls prog 204 #[um s] w fun e w'=>e=uY (.bool<|Ru s)/\w'=w:=by
 go_in
 go_wp2
 all_goals go_ret
 all_goals exact⟨Ns (by simp_all [Ru]),rfl⟩
def Z5t (s:Ay)(w:Bb):Calls prog 202 #[um s] w fun e w'=>e=uY (.bool<|kL s)/\w'=w:=by
 go_in
 go_wp2
 all_goals go_ret
 all_goals exact⟨Ns (by simp_all [kL]),rfl⟩
def Zw4 (b:Bool)(w:Bb):Calls prog 273 #[.bool b] w fun e w'=>e=uY (.agg #[zo 6,zo (if b then 1 else 0),sE,zn])/\Bl w w':=by
 cases b;all_goals
  go_in
  go_wp2_with fail
  all_goals refine Bg (by simp[results,results273,go_sem];try rfl) rfl ?_
  all_goals exact⟨rfl,(AR _ w).alloc lr _⟩
structure Tk where
 at_:Nat
 text:Ay
 k:Int
 i:Int
 s:Ay
def Wy (t:Ay):(Ac t).length=t.size:=by simp[Ac]
def AO.eight {w:Bb}{L:Nat}{e:TypeId}{a b c d f g i j:Value}(h:AO w L #[a,b,c,d,f,g,i,j] e):w.cell? (zm L 0)=some a/\w.cell? (zm L 1)=some b/\w.cell? (zm L 2)=some c/\w.cell? (zm L 3)=some d/\w.cell? (zm L 4)=some f/\w.cell? (zm L 5)=some g/\w.cell? (zm L 6)=some i/\w.cell? (zm L 7)=some j/\ ∀ j,w.frozen? (zm L j)=false:=⟨h.cell 0,h.cell 1,h.cell 2,h.cell 3,h.cell 4,h.cell 5,h.cell 6,h.cell 7,h.soft⟩
variable {w:Bb}{b p q:Nat}{t:Ay}{x:Tk}
def Rd (w:Bb) (b:Nat) (t:Ay) (p:Nat) (x:Tk):Prop:=AO w b #[um t,zo (p:Int),zo (x.at_:Int),um x.text,zo x.k,zo x.i,um x.s,zn] 182/\t.size<=8000/\p<=t.size/\24<=b
def Rd.dr (h:Rd w b t p x)(n:Nat):Rd (w.drewN n) b t p x:=h
def Rd.of {u:Bb}(h:Rd w b t p x)(k:Bl w u):Rd u b t p x:=⟨h.1.of<|k.block b h.1.lt,h.2⟩
def Rd.goes (h:Rd w b t p x)(hq:q<=t.size):Rd (w.setCell (zm b 1)<|zo (q:Int)) b t q x:=⟨h.1.set 1 _,h.2.1,hq,h.2.2.2⟩
def Z05 (h:Rd w b t p x):Calls prog 195 #[zq b 0] w fun e w'=>e=uY (yS ((Ac t).getD p 0:Nat))/\ ∃ m,w'=w.drewN m:=by
 obtain⟨hb,ht,hp,hg⟩:=h;obtain⟨c0,c1,-,-,-,-,-,-,sf⟩:=hb.eight;clear hb;by_cases hlt:p<t.size
 .have g:((p:Int)==(t.size:Int))=false:=zj
  have hx:=ZQ t p hlt;go_in
  go_wp2
  go_quiet (fail)
  go_wp2
  go_quiet (fail)
  go_wp2
  go_ret
  exact⟨zw,by first | exact⟨_,rfl⟩ | exact⟨_,World.drewN_drewN ..⟩⟩
 .obtain rfl:p=t.size:=zx
  go_in
  go_wp2
  go_quiet (fail)
  go_wp2_with fail
  all_goals go_ret
  exact⟨by simp[List.getD,Wy],_,rfl⟩
def qK (h:Rd w b t p x):Calls prog 195 #[zq b 0] w fun e w'=>e=uY (yS ((Ac t).getD p 0:Nat))/\Bl w w':=
 (Z05 h).mono fun _ _ ⟨he,m,hm⟩=>⟨he,by rw[hm];exact MW<|AR _ w⟩
def rV (K:Nat) (ok:Nat->Bool):Prop:=Da K/\ ∀ c w,Calls prog K #[yS ((c:Nat):Int)] w fun e w'=>e=uY (.bool<|ok c)/\w'=w
def Yhz (b:Nat) (ok:Nat->Bool) (w:Bb) (t:Ay) (p:Nat) (x:Tk) (wr:Bb):Prop:= ∃ q,p<=q/\Rd wr b t q x/\Ad b w wr/\DT (Ac t) ok q=DT (Ac t) ok p
def qA (b:Nat) (w:Bb):Nat:=match w.cell? (zm b 1)with
 | some (.int _ p)=>p.toNat
 | _=>0
def bM (h:Rd w b t p x):qA b w=p:=by
 unfold qA;rw[h.1.eight.2.1];rfl
def Yar (ok:Nat->Bool)(h:q<t.size):(ok ((Ac t).getD q 0)=true->DT (Ac t) ok (q+1)=DT (Ac t) ok q)/\(ok ((Ac t).getD q 0)=false->DT (Ac t) ok q=q):=by
 have hl:=Wy t;unfold DT;rw[hl,show t.size-q=(t.size-(q+1))+1 by omega];exact⟨fun g=>by rw[Sr,xj ⟨zx,g⟩],fun g=>by rw[Sr,xd (fun z=>by rw[g]at z;cases z.2)]⟩
def Ydn (t:Ay)(ok:Nat->Bool):DT (Ac t) ok t.size=t.size:=by
 unfold DT;rw[Wy,Nat.sub_self];rfl
def p8 {K:Nat}{ok:Nat->Bool}(F:rV K ok)(h:Rd w b t p x):
  Calls prog 192 #[zq b 0,.func (.func K) #[] #[]] w fun e w'=>e=uY (.string<|t.extract p<|DT (Ac t) ok p)/\Ad b w w'/\Rd w' b t (DT (Ac t) ok p) x:=by
 have hp:=h.2.2.1;go_in
 obtain⟨c0,c1,-,-,-,-,-,-,sf⟩:=h.1.eight;have H:=AC h;clear h;go_wp2
 go_loopw [13] (fun _ wr=>Yhz b ok w t p x wr) (fun _ wr=>t.size-qA b wr)
 .exact⟨p,EO _,H.o,Ad.refl _ _,rfl⟩
 .obtain⟨q,hq,hR,hK,hE⟩:=hrel;clear c0 c1 sf H;have h3:=hR.2.2.1;have ht:=hR.2.1;have hM:=bM hR;obtain⟨c0,c1,-,-,-,-,-,-,sf⟩:=hR.1.eight;have HR:=AC hR;have HK:=AC hK;have HE:=AC hE;clear hR hK hE;by_cases hlt:q<t.size
  .have g:(q:Int)<(t.size:Int):=zx
   have hx:=ZQ t q hlt;have C:=AC<|F.2<|(Ac t).getD q 0;have hen:=F.1;unfold Da at hen;have S:=AC<|Yar ok hlt;clear F;generalize (Ac t).getD q 0=c at*;cases Aq:ok c
   .rw[Aq]at C;have E:AF (DT (Ac t) ok p=q):=⟨HE.o.symm.trans<|S.o.2 Aq⟩;go_wp2
    go_quiet ((exact Calls.quiet_of_same<|C.o _))
    go_wp2
    go_quiet (fail)
    go_wp2
    go_ret
    rw[E.o];exact⟨zw,(HK.o.dr _).dr _,HR.o⟩
   .rw[Aq]at C;go_wp2
    go_quiet ((exact Calls.quiet_of_same<|C.o _))
    go_wp2
    go_roundw
    .exact⟨q+1,zx,by have:=(HR.o.dr nq).goes (q:=q+1) hlt;simpa using this,(HK.o.dr _).set _ _,(S.o.1 Aq).trans HE.o⟩
    case measure=>
     have:=bM<|(HR.o.dr nq).goes (q:=q+1) hlt
     simp at this;rw[hM,this];omega
  .obtain rfl:q=t.size:=zx
   have E:AF (DT (Ac t) ok p=t.size):=⟨HE.o.symm.trans<|Ydn t ok⟩;go_wp2
   go_quiet (fail)
   go_wp2
   go_quiet (fail)
   go_wp2
   go_ret
   rw[E.o];exact⟨zw,(HK.o.dr _).dr _,HR.o⟩
section
variable {bs:Cg}{ok:Nat->Bool}{p:Nat}
def Z3y (h:p<bs.length)(k:ok (bs.getD p 0)=true):DT bs ok p=DT bs ok (p+1):=by
 unfold DT;obtain⟨f,hf⟩: ∃ f,bs.length-p=f+1:=⟨bs.length-p-1,zx⟩;rw[hf,Sr,xj ⟨h,k⟩,show bs.length-(p+1)=f from zx]
def Ydl: ∀ {f p:Nat},p<=bs.length->p<=Sr bs ok f p/\Sr bs ok f p<=bs.length:=by
 intro f;induction f with
 | zero=>intro p h;exact⟨EO _,h⟩
 | succ f ih=>
  intro p h;rw[Sr];split
  .rename_i hc
   have:=ih (p:=p+1) zx
   omega
  .exact⟨EO _,h⟩
def fZ (h:p<=bs.length):p<=DT bs ok p/\DT bs ok p<=bs.length:=Ydl h
def vL {f:Nat}(h:bs.length<=p):VS bs f p=p:=by
 cases f with
 | zero=>rfl
 | succ f=>rw[VS,xd zx,xd zx]
def Zrq (h:p<bs.length)(h47:bs.getD p 0=47):p<DT bs (fun c=>decide (c≠10)) p/\DT bs (fun c=>decide (c≠10)) p<=bs.length:=by
 have hb:(fun c=>decide (c≠10)) (bs.getD p 0)=true:=by rw[h47];decide
 rw[Z3y h hb]
 have:=fZ (bs:=bs) (ok:=fun c=>decide (c≠10)) (p:=p+1) zx
 omega
def Z3x: ∀ (n f g p:Nat),bs.length-p<=n->bs.length-p<=f->bs.length-p<=g->VS bs f p=VS bs g p:=by
 intro n;induction n with
 | zero=>intro f g p h _ _;rw[vL zx,vL zx]
 | succ n ih=>
  intro f g p hn hf hg;by_cases hp:bs.length<=p
  .rw[vL hp,vL hp]
  .obtain⟨f,rfl⟩: ∃ m,f=m+1:=⟨f-1,zx⟩;obtain⟨g,rfl⟩: ∃ m,g=m+1:=⟨g-1,zx⟩;rw[VS,VS];by_cases hb:p<bs.length/\jd (bs.getD p 0)=true
   .rw[xj hb,xj hb];exact ih f g (p+1) zx zx zx
   .rw[xd hb,xd hb];by_cases hc:p+1<bs.length/\bs.getD p 0=47/\bs.getD (p+1) 0=47
    .rw[xj hc,xj hc]
     have:=Zrq zx hc.2.1
     exact ih f g _ zx zx zx
    .rw[xd hc,xd hc]
def Z1h (h:p<bs.length)(k:jd (bs.getD p 0)=true):Nn bs p=Nn bs (p+1):=by
 unfold Nn;obtain⟨m,hm⟩: ∃ m,bs.length-p=m+1:=⟨bs.length-p-1,zx⟩;rw[hm,VS,xj ⟨h,k⟩];exact Z3x _ _ _ _ lr zx lr
def Z6i (k:jd (bs.getD p 0)=false)(h:p+1<bs.length/\bs.getD p 0=47/\bs.getD (p+1) 0=47):Nn bs p=Nn bs (DT bs (fun c=>decide (c≠10)) p):=by
 unfold Nn;obtain⟨m,hm⟩: ∃ m,bs.length-p=m+1:=⟨bs.length-p-1,zx⟩;rw[hm,VS,xd (by rw[k];simp),xj h]
 have:=Zrq zx h.2.1
 exact Z3x _ _ _ _ lr zx lr
def Z6j {bs:Cg}{p:Nat}(k: ¬ (p<bs.length/\jd (bs.getD p 0)=true))(h: ¬ (p+1<bs.length/\bs.getD p 0=47/\bs.getD (p+1) 0=47)):Nn bs p=p:=by
 unfold Nn;cases bs.length-p with
 | zero=>rfl
 | succ m=>rw[VS,xd k,xd h]
def Z07 {t:Ay}(h:p<t.size):Lib.hasPrefix (t.extract p t.size).data.toList (⟨#[47,47]⟩:Ay).data.toList=decide (p+1<t.size/\(Ac t).getD p 0=47/\(Ac t).getD (p+1) 0=47):=by
 have e:(t.extract p t.size).data.toList=t.data.toList.drop p:=by
  simp[ByteArray.data_extract,Array.toList_extract,U0]
 rw[e];have hs:t.size=t.data.toList.length:=zw
 have g: ∀ i,(Ac t).getD (p+i) 0=((t.data.toList.drop p).map (·.toNat)).getD i 0:=fun i=>by simp[Ac,List.getD]
 rw[show(Ac t).getD p 0=_ from g 0,g 1,hs];have hl:(t.data.toList.drop p).length=t.data.toList.length-p:=List.length_drop;rw[hs]at h;generalize t.data.toList.drop p=l at*;match l with
 | []=>simp at hl;omega
 | [c]=>rw[I8 (by simp at hl;omega)];simp[Lib.hasPrefix,List.isPrefixOf]
 | c::d::r=>
  rw[Bool.eq_iff_iff];simp at hl;simp[Lib.hasPrefix,List.isPrefixOf];constructor
  .rintro⟨rfl,rfl⟩;exact⟨zx,rfl,rfl⟩
  .rintro⟨_,h1,h2⟩;exact⟨(UInt8.toNat_inj.1 h1).symm,(UInt8.toNat_inj.1 h2).symm⟩
end
variable {B:Nat}{u:Bb}{s:Ay}
def Z1g:(prog.info? 151).map (·.size)=some 2:=zt
def qT:(prog.info? 5).map (fun i=>(i.zero,i.size,i.bytes))=some (some<|yS 0,1,1):=zt
def fH (T:TypeId):Prop:=liesAt prog prog.depth T (2 / prog.cellsOf T) 0 151 1=true/\T≠5
def DV (T B b:Nat) (s:Ay) (w:Bb):Prop:=Lib.IsBuilder T 5 B b (Lib.strCells s) w
structure Fr (B b:Nat) (w w':Bb):Prop where
 be:Below B w w'
 kept: ∀ k cs t fz,k≠b->t≠5->w.heap[k]?=some (.cells cs t fz)->w'.heap[k]?=some (.cells cs t fz)
def Fr.refl (B b:Nat)(w:Bb):Fr B b w w:=⟨AR _ _,fun _ _ _ _ _ _ h=>h⟩
def Fr.trans {v:Bb}(h:Fr B b w u)(k:Fr B b u v):Fr B b w v:=⟨h.be.trans k.be,fun i cs t fz hi ht q=>k.kept i cs t fz hi ht (h.kept i cs t fz hi ht q)⟩
def Fr.alloc (h:Fr B b w u)(hB:B<=u.heap.size)(o:Obj):Fr B b w (u.alloc o):=⟨h.be.alloc hB o,fun i cs t fz hi ht q=>by
 have q2:=h.kept i cs t fz hi ht q;exact(Ah u o i (PN.1 q2).1).trans q2⟩
def Fr.drew (h:Fr B b w u):Fr B b w u.drew:=⟨h.be.drew,h.kept⟩
def Fr.size (h:Fr B b w u):w.heap.size<=u.heap.size:=h.be.size
def Fr.blk (h:Fr B b w u){L:Nat}{cs:Ca}{t:TypeId}(q:AO w L cs t)(hL:L≠b)(ht:t≠5):AO u L cs t:=h.kept L cs t (0,0) hL ht q
def Yc1 (args:Ca)(w:Bb):(callFunc 209 args).run prog w=((Extern.AbiNoEscape.same args).run prog w).andThen fun v w=> .ok (.value v) w:=by
 rw[JA func209 zt zt zt (e:=Extern.AbiNoEscape.same) zt]
def Zik {T:Nat}(hT:fH T)(h:DV T B b s w):
  Calls prog 149 #[zq b 0] w fun e w'=>e=uY (.tuple #[])/\Lib.BuilderAt T 5 B b (zq b 0) (Lib.strCells s) w'/\Fr B b w w':=by
 obtain⟨j,hj,dY⟩:=QP.1 Z1g;rcases h with h | h
 .have c0:=h.cell0;have f0:=h.frozen0;have e1:=Lib.run_to_unsafe w (zm b 0) underlying148 underlying165 hj (by rw[dY];decide) h.shape<|Nat.zero_lt_succ 1;have e2:=Lib.run_from_unsafe w (zm b 0) underlying165 underlying148 hj h.shape hT.1;have e3:=Yc1 #[zq b 0] w;rw[Lib.run_noEscape]at e3;simp only[Result.andThen]at e3;have R:=AC<|AJ (h.used<|zq b 0) (Fr.mk ((AR B w).setCell (p:=(zm b 0)) h.1<|zq b 0) fun k cs t fz hk ht q=>(Aw w _ _ k hk).trans q);clear h;go_in
  go_wp2
  go_end0
  exact⟨rfl,R.o.1,R.o.2⟩
 .have c0:=h.cell0;have e1:=Lib.run_neq_ptr_same (P:=prog) w (zm b 0) underlying148 hj;have R:=AC h;clear h;go_in
  go_wp2
  go_end0
  exact⟨rfl,R.o,Fr.refl B b _⟩
def Zjz (s t:Ay):Lib.strCells (s++t)=Lib.strCells s++Lib.strCells t:=by simp[Lib.strCells]
def Z1k (c:Nat)(hc:c<256):Lib.strCells (b1 c)=[yS (c:Int)]:=by
 simp[Lib.strCells,b1,Nat.mod_eq_of_lt hc]
def ZX {e:TypeId}{v:Value}{n:Nat}{xs:Bu}(h:w.ownsRow B e 1 v n xs): ∃ a c,v= sP a n c:=by
 rcases h.2 with⟨hv,h0⟩ | ⟨g,cap,cur,hv,_⟩
 .exact⟨none,0,by rw[hv,h0]⟩
 .exact⟨_,_,hv⟩
def kI {T:Nat}(hT:fH T)(h:DV T B b s w)(c:Nat)(hc:c<256)(hs:s.size<1000000000)(hB:B<=w.heap.size):
  Calls prog 86 #[zq b 0,yS (c:Int)] w fun e w'=>e= .returned .nilIface/\DV T B b (s++b1 c) w'/\Fr B b w w':=by
 obtain⟨i0,hi,hz0,hz1,hz2⟩:=info_parts qT;have C:=AC<|Zik hT h;have E:=AC<|Zjz s<|b1 c;have E1:=AC<|Z1k c hc;have oQ:=hT.2;have hlen:(Lib.strCells s).length<1000000000:=by rw[Lib.strCells_length];exact hs
 clear h hT;generalize Lib.strCells s=bs at*;go_in
 go_wp2_with fail
 apply mq C.o;rintro w1 ⟨⟨Px,v,Bo,hown,hne⟩,hb1⟩;obtain⟨va,vc,rfl⟩:=ZX hown;obtain⟨c0,c1,sf⟩:=AO.two (w:=w1) (L:=b) (e:=T) Bo;have hlt:b<w1.heap.size:=AO.lt (w:=w1) (L:=b) (e:=T) Bo;have hsz:=hb1.size;go_wp2_with (at_builtin;refine wpList_append_own _ rfl _ _ 149 rfl B 5 i0 (yS 0) 1 1 underlying149 hi hz0 hz1 hz2 rfl zu _ _ _ rfl (hown.alloc _) (zm w1.heap.size 0) 1 1 [yS (c:Int)] rfl rfl ?c1 ?c2 ?c3 ?c4 ?c5 ?_)
 case c1=>
  intro j u hj;match j,hj with
  | 0,hj=>simp at hj;subst hj;simp[Addr.add]
 case c2=>intro u hu;simp at hu;subst hu;rfl
 case c3=>unfold maxLen;omega
 case c4=>omega
 case c5=>simp;omega
 intro v2 w2 Fe ED _;obtain⟨lM,lL,rfl⟩:=ZX Fe;have hb2:w2.heap[b]?=some (.cells #[zq b 0,sP va bs.length vc] T (0,0)):=by
  rw[ED.block b zc fun e=>hne e.symm,Lib.alloc_old w1 _ b hlt];exact Bo
 obtain⟨d0,d1,XU⟩:=AO.two (w:=w2) (L:=b) (e:=T) hb2;have R:=AC<|AJ (Lib.BuilderAt.put (T:=T) (e:=5) Px hb2 (bs':=bs++[yS (c:Int)]) (by simpa using Fe) oQ) (Fr.mk (((hb1.be.alloc zx _).grown ED zc fun k hk=>(hown.lt k hk).1).setCell (p:=(zm b 1)) Px<|sP lM (bs.length+1) lL) fun k cs t fz hk ht q=>by
  have q1:=hb1.kept k cs t fz hk ht q;have kl:=(PN.1 q1).1;rw[Aw _ _ _ _ hk,ED.block k zc fun e=>Lib.ownBlock_ne hown q1 ht e.symm,Lib.alloc_old w1 _ k kl];exact q1)
 clear c0 c1 sf hown Fe ED hb2 Bo hb1 hne C;go_wp2
 go_ret
 exact⟨rfl,Or.inr (by rw[E.o,E1.o];exact R.o.1),R.o.2⟩
def Zj1 {T:Nat}(hT:fH T)(h:DV T B b s w)(t:Ay)(hs:s.size+t.size<1000000000)(hB:B<=w.heap.size):
  Calls prog 85 #[zq b 0,um t] w fun e w'=>e=uY (.tuple #[zo t.size,.nilIface])/\DV T B b (s++t) w'/\Fr B b w w':=by
 obtain⟨i0,hi,hz0,hz1,hz2⟩:=info_parts qT;have C:=AC<|Zik hT h;have E:=AC<|Zjz s t;have oQ:=hT.2;have hlen:(Lib.strCells s).length+t.size<1000000000:=by rw[Lib.strCells_length];exact hs
 have EL:AF ((Lib.strCells s++Lib.strCells t).length=(Lib.strCells s).length+t.size):=⟨by rw[JS,Lib.strCells_length t]⟩;clear h hT;generalize Lib.strCells s=bs at*;go_in
 go_wp2_with fail
 apply mq C.o;rintro w1 ⟨⟨Px,v,Bo,hown,hne⟩,hb1⟩;obtain⟨va,vc,rfl⟩:=ZX hown;obtain⟨c0,c1,sf⟩:=AO.two (w:=w1) (L:=b) (e:=T) Bo;have hlt:b<w1.heap.size:=AO.lt (w:=w1) (L:=b) (e:=T) Bo;have hsz:=hb1.size;go_wp2_with (at_builtin;refine Lib.wpList_append_own_string _ rfl _ _ 149 9 rfl B 5 i0 underlying149 underlying9 hi hz0 hz1 hz2 _ _ _ rfl hown t rfl ?c3 ?c4 ?c5 ?_)
 case c3=>unfold maxLen;omega
 case c4=>omega
 case c5=>omega
 intro v2 w2 Fe ED _;obtain⟨lM,lL,rfl⟩:=ZX Fe;have hb2:w2.heap[b]?=some (.cells #[zq b 0,sP va bs.length vc] T (0,0)):=by
  rw[ED.block b hlt fun e=>hne e.symm];exact Bo
 obtain⟨d0,d1,XU⟩:=AO.two (w:=w2) (L:=b) (e:=T) hb2;have R:=AC<|AJ (Lib.BuilderAt.put (T:=T) (e:=5) Px hb2 (bs':=bs++Lib.strCells t) (by rw[EL.o];exact Fe) oQ) (Fr.mk ((hb1.be.grown ED zx fun k hk=>(hown.lt k hk).1).setCell (p:=(zm b 1)) Px<|sP lM (bs.length+t.size) lL) fun k cs t fz hk ht q=>by
  have q1:=hb1.kept k cs t fz hk ht q;have kl:=(PN.1 q1).1;rw[Aw _ _ _ _ hk,ED.block k kl fun e=>Lib.ownBlock_ne hown q1 ht e.symm];exact q1)
 clear c0 c1 sf hown Fe ED hb2 Bo hb1 hne C;go_wp2
 go_ret2
 exact⟨rfl,Or.inr (by rw[E.o];exact R.o.1),R.o.2⟩
def DV.form {T:Nat}(h:DV T B b s w): ∃ p va vc,AO w b #[p,sP va s.size vc] T/\w.ownsRow B 5 1 (sP va s.size vc) s.size (Lib.strCells s)/\B<=b:=by
 rcases h with⟨Px,v,Bo,hown,hne⟩ | ⟨Px,v,Bo,hown,hne⟩;all_goals
  rw[Lib.strCells_length]at hown;obtain⟨va,vc,rfl⟩:=ZX hown;exact⟨_,va,vc,Bo,hown,Px⟩
def DV.drew {T:Nat}(h:DV T B b s w):DV T B b s w.drew:=h
def DV.alloc {T:Nat}(h:DV T B b s w)(o:Obj):DV T B b s (w.alloc o):=by
 rcases h with⟨Px,v,Bo,hown,hne⟩ | ⟨Px,v,Bo,hown,hne⟩
 .exact Or.inl ⟨Px,v,AO.alloc (w:=w) (L:=b) (e:=T) Bo o,hown.alloc o,hne⟩
 .exact Or.inr ⟨Px,v,AO.alloc (w:=w) (L:=b) (e:=T) Bo o,hown.alloc o,hne⟩
def Yf8 {T:Nat}(h:DV T B b s w):
  Calls prog 81 #[zq b 0] w fun e w'=>e=uY (zo (s.size:Int))/\w'=w:=by
 obtain⟨p,va,vc,Bo,_,_⟩:=h.form;obtain⟨c0,c1,sf⟩:=Bo.two;go_in
 go_wp2
 go_ret
 exact⟨rfl,rfl⟩
def Zp8:prog.cellsOf 5=1:=zt
def Zuf {T:Nat}(h:DV T B b s w)(hs:s.size<1000000000)(hB:B<=w.heap.size):
  Calls prog 58 #[zq b 0] w fun e w'=>e=uY (um s)/\Below B w w':=by
 obtain⟨p,va,vc,Bo,hown,Px⟩:=h.form;obtain⟨c0,c1,sf⟩:=Bo.two;by_cases h0:s.size=0
 .obtain rfl:s=ByteArray.empty:=jy<|(M9<|(gL s).trans h0).trans (by rw[Nw];rfl);have hUS:=fun q u=>Lib.run_unsafeString_none (P:=prog) u 240 3 9 q;rcases hown.2 with⟨hv,_⟩ | ⟨g,cap,cur,hv,jL,hg,hnc,hcm,hcs,_⟩
  .injection hv with Et hv2 hv3;subst Et hv3;have uK:=fun u=>Lib.run_unsafeSliceData_nil (P:=prog) u #[149] 240 0 0;clear h hown;go_in
   go_wp2
   go_region
   all_goals (go_wp2;go_ret;exact⟨rfl,(AR B w).drew⟩)
  .injection hv with Et hv2 hv3;subst Et hv3;clear h hown;by_cases hc0:vc=0
   .subst hc0;have tF: ∀ u:Bb,u.heap=w.heap->u.shape? g=some (5,cur.size):=fun u hu=>by simp[World.shape?,hu,hg]
    have E9:=Bo.lt;have Sn:=fun o=>((AO.alloc Bo o).two).2.1;have uK:=Lib.run_unsafeSliceData_zero (P:=prog) w.drew #[149] 240 5 underlying240 (zm g 0) 0 _<|tF w.drew rfl;go_in
    go_wp2
    go_region
    all_goals (go_wp2;go_ret;exact⟨rfl,((AR B w).alloc hB _).drew⟩)
   .have uK:=fun u=>Lib.run_unsafeSliceData_row (P:=prog) u #[149] 240 (zm g 0) 0 vc hc0;go_in
    go_wp2
    go_region
    all_goals (go_wp2;go_ret;exact⟨rfl,(AR B w).drew⟩)
 .obtain⟨g,cap,cur,hv,jL,hg,hnc,hcm,hcs,Kv⟩: ∃ g cap cur,Value.slice va s.size vc= sP (Qb g 0) s.size cap/\B<=g/\w.heap[g]?=some (.cells cur 5 (0,0))/\s.size<=cap/\cap<=maxLen/\cur.size=cap*1/\cur.toList.take (s.size*1)=Lib.strCells s:=by
   rcases hown.2 with⟨_,hz⟩ | ⟨g,cap,cur,hv,r⟩
   .exact absurd hz h0
   .exact⟨g,cap,cur,hv,r⟩
  injection hv with Et hv2 hv3;subst Et hv3;have hne:s.data.toList≠[]:=fun q=>h0 (by show s.data.size=0;rw[<- Vp,q];rfl);have uK:=fun u=>Lib.run_unsafeSliceData_row (P:=prog) u #[149] 240 (zm g 0) s.size vc zx;have hUS:(Builtin.unsafeString_ #[240,3] 9 #[zq g 0,zo (s.size:Int)]).run prog w.drew= .ok (um s) (w.drew.freeze (zm g 0) s.size):=
   Lib.run_unsafeString_row w.drew 240 3 9 5 underlying240 Zp8 g cur.size (by have Yi:w.drew.heap[g]?=some (.cells cur 5 (0,0)):=hg;simp[World.shape?,Yi]) s.data.toList hne (by rw[Vp];show s.size<=_;omega) (by rw[Vp];show s.size<=_;omega) (fun j x hx=>hown.cells (g:=g) rfl j (yS x.toNat) (by simp[Lib.strCells,hx]))
  clear h hown Kv hg;go_in
  go_wp2
  go_region
  all_goals (go_wp2;go_ret;exact⟨rfl,Lib.below_freeze ((AR B w).drew) (p:=(zm g 0)) jL _⟩)
end Go.W
namespace Go.Proofs
open Go.RowKit Go.Shelf Go.Lib
def Tryz.ES:Go.Shelf.Ren:=⟨fun | 196=>260 | 259=>277 | n=>n,fun | 9=>9 | 4=>4 | 3=>3 | 5=>5 | 12=>12 | 119=>407 | 0=>0 | 46=>243 | 139=>410 | 138=>409 | 53=>274 | n=>n,fun | 3=>18 | 4=>19 | n=>n⟩
def Tryz.Ik:Go.Proofs.Lays.n196 prog Tryz.ES:=by
 repeat' first | exact ke | constructor
def Tryz.Lu:Go.Shelf.Ren:=⟨fun | 316=>177 | n=>n,fun | 9=>9 | 3=>3 | 4=>4 | 37=>149 | 0=>0 | 127=>240 | 5=>5 | n=>n,fun | n=>n⟩
def Tryz.UG:Go.Proofs.LaysM.n316 prog Tryz.Lu:=by
 repeat' first | exact ke | constructor
def Tryz.OK:Go.Shelf.Ren:=⟨fun | 197=>199 | 260=>244 | n=>n,fun | 9=>9 | 21=>21 | 3=>3 | 4=>4 | 5=>5 | 105=>336 | 119=>407 | 0=>0 | 46=>243 | 139=>410 | 138=>409 | n=>n,fun | 3=>18 | 4=>19 | n=>n⟩
def Tryz.Vy:Go.Proofs.Lays.n197 prog Tryz.OK:=by
 repeat' first | exact ke | constructor
def Tryz.J7:Go.Shelf.Ren:=⟨fun | 99=>191 | 206=>239 | n=>n,fun | 9=>9 | 4=>4 | 3=>3 | n=>n,fun | n=>n⟩
def Tryz.Q8:Go.Proofs.Lays.n99 prog Tryz.J7:=by
 repeat' first | exact ke | constructor
def Tryz.J8:Go.Shelf.Ren:=⟨fun | 242=>197 | 278=>242 | n=>n,fun | 37=>149 | 21=>21 | 51=>272 | 4=>4 | 5=>5 | 46=>243 | n=>n,fun | n=>n⟩
def Tryz.Q9:Go.Proofs.Lays.n242 prog Tryz.J8:=by
 repeat' first | exact ke | constructor
def Tryz.Hz:Go.Shelf.Ren:=⟨fun | 119=>266 | n=>n,fun | 21=>21 | 4=>4 | n=>n,fun | n=>n⟩
def Tryz.Ls:Go.Proofs.Lays.n119 prog Tryz.Hz:=by
 repeat' first | exact ke | constructor
end Go.Proofs
namespace Go.W
section
open Go.Shelf Go.Lib
def Z36:D9:=fun a s w Z hs=>Any.utf8_ValidString Tryz.Ik s w zx Z.iR
def uu:Gg:=by
 intro s w hs;have C:=AC fun u=>Any.stringslite_Clone Tryz.UG s u zx;go_in
 go_wp2_with fail
 apply(C.o _).mono;rintro e w' ⟨rfl,hb⟩;go_wp2_with fail
 all_goals go_ret
 all_goals exact⟨rfl,hb⟩
def Znp (s p:Ay)(w:Bb):Calls prog 191 #[um s,um p] w fun e w'=>e=uY (.bool<|hasPrefix s.data.toList p.data.toList)/\w'=w:=
 Any.strings_HasPrefix Tryz.Q8 s p w
def Ydh {a:Nat->Addr}{w:Bb}(Z:AZ a w)(s:Ay):Calls prog 199 #[um s] w fun e w'=>e=uY (.tuple #[.int .i32 ((decodeGo s).1:Nat),zo ((decodeGo s).2:Nat)])/\Bl w w':=
 Any.utf8_DecodeRuneInString Tryz.Vy s w Z.iR
def Zwg (r:Int)(w:Bb):Calls prog 266 #[.int .i32 r] w fun e w'=>e=uY (.bool<|Lib.validRune r)/\w'=w:=
 Any.utf8_ValidRune Tryz.Ls r w
def Zkp (B:Nat)(v:Value)(n:Nat)(xs:Bu)(r:Int)(h1: -2147483648<=r)(h2:r<=2147483647)(w:Bb)(h:w.ownsRow B 5 1 v n xs)(hn:n+4<=140737488355328)(hB:B<=w.heap.size):
  Calls prog 197 #[v,.int .i32 r] w fun e w'=> ∃ v',e=uY v'/\w'.ownsRow B 5 1 v' (n+(runeCells r).length) (xs++runeCells r)/\ ∃ o,(w.alloc o).grownBy w' v.ownBlock:=
 Any.utf8_AppendRune_plain Tryz.Q9 qT B v n xs r h1 h2 w h hn hB
end
end Go.W
