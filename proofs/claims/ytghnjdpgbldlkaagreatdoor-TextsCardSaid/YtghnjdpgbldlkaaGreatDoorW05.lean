import Derived.Test.YtghnjdpgbldlkaaGreatDoorW04
set_option linter.defProp false
set_option maxRecDepth 100000
set_option maxHeartbeats 8000000
set_option linter.unusedSimpArgs false
open Go.Proofs Go.RowKit Go.W Tryz
namespace Go.P
def PO {w u:World}{L:Nat}{cs:Array Value}{e:TypeId}(h:AJ w L cs e)(hb:Bl w u):AJ u L cs e:=h.of<|hb.block L h.lt
def Znd:Bj 146:=DL func146 zt rfl
def Zg (a:Nat->Addr) (d:Nat):Prop:= ∀ {B D:Nat} {w:World} {vs:List Value} {x:T},Aa a w->B<=w.heap.size->Dn B w D vs x->Calls prog 146 #[.int .i64 (d:Int),.agg vs.toArray] w (EE a (A9 d x) w)
def mV (V:E8){a:Nat->Addr}{d:Nat}(hd:d<=3)(ih:d<3->Zg a (d+1)):Zg a d:=by
 intro B D w vs x Z hB hS;obtain⟨p,c,rfl,ht,_,_,hc,hrow⟩:=hS;have OW:AC ((GN x.k x.i x.t x.l.length=false\/x.k=1/\0<d->A9 d x=2)/\(GN x.k x.i x.t x.l.length=true->(x.k=1->d=0)->(64<x.t.size\/6<x.l.length->A9 d x=4)/\(x.t.size<=64->x.l.length<=6->(x.k=7/\d=3->A9 d x=3)/\(x.k≠7\/d≠3->A9 d x=EF (A9<|d+1) x.l)))):=⟨by
  have key: ∀ r,MI d x.k x.i x.t x.l.length=r->r≠0->A9 d x=r:=fun r h h'=>by rw[mJ,h,if_pos h']
  have no:GN x.k x.i x.t x.l.length=true->(x.k=1->d=0)-> ¬ (GN x.k x.i x.t x.l.length=false\/x.k=1/\0<d):=fun h h'=>by
   rintro(q | q)
   ·rw[h]at q;cases q
   ·omega
  refine⟨fun h=>key 2 (if_pos h) zu,fun h h'=>⟨fun h2=>key 4 ?_ zu,fun h2 h3=>⟨fun h4=>key 3 ?_ zu,fun h4=>?_⟩⟩⟩
  ·unfold MI;rw[if_neg<|no h h',if_pos h2]
  ·unfold MI;rw[if_neg<|no h h',if_neg zx,if_pos h4]
  ·rw[mJ,if_neg];unfold MI;rw[if_neg<|no h h',if_neg zx,if_neg zx];decide⟩
 have C1:=AA fun u (hu:Aa a u)=>Zyj V hu x.k x.i x.t p x.l.length c ht;have FN:AC (GN x.k x.i x.t x.l.length=true->x.k=7\/x.l.length=0):=⟨fun h=>by
  unfold GN Pq at h
  (repeat' split at h) <;> simp_all⟩
 have hl:=hrow.len;have ZZ:=AA Z;have HR:=AA hrow;have IH:=AA fun h=> @ih h;have XL:AC (∀ h:x.l.length=0,x.l=[]):=⟨Ht⟩;clear hrow Z ih hc;generalize GN x.k x.i x.t x.l.length=b1 at*;generalize x.k=k at*;generalize x.i=i at*;generalize x.t=t at*;generalize hn:x.l.length=n at*;go_in
 go_wp2_with fail
 refine(C1.out _<|ZZ.out.below<|(AQ _ w).alloc lr _).mono ?_;rintro e w1 ⟨rfl,hb⟩;have BB:=AA<|((AQ w.heap.size w).alloc lr _).trans<|hb.mono zw;have BL:=AA<|PO (AJ.new w #[.int .i64 k,.int .i64 i,.string t,.slice p n c] 100) hb;obtain⟨z2,z3,z4⟩:=AF (ZZ.out.below BB.out).c2<|AF (ZZ.out.below BB.out).c3 (ZZ.out.below BB.out).c4;obtain⟨c0,c1,c2,c3,sf⟩:=BL.out.four;have CF:AC ((d<3\/n=0)->Calls prog 196 #[.slice p n c,.func (.func 146) #[.int .i64<|(d:Int)+1] #[]] w1 (EE a (EF (A9<|d+1) x.l) w1)):=⟨fun h=>by
  subst hn;have Ew:=BB.out.size;refine Zi9 (B:=B) Znd (HR.out.carry fun _ _ _ q=>q.carry (BJ BB.out hB) (Js D)) zx fun u vs y hy hu hS=>?_;rcases h with h | h
  ·exact IH.out h ((ZZ.out.below BB.out).below hu) (by have:=hu.size;omega) hS
  ·rw[XL.out h]at hy;cases hy⟩
 clear hb ZZ HR IH XL;cases b1 with
 | false=>
  have W2:AC (A9 d x=2):=⟨OW.out.1<|Or.inl rfl⟩;clear OW FN CF;go_wp2_with fail
  all_goals (go_ret;exact⟨by rw[W2.out];rfl,BB.out⟩)
 | true=>
  have W1:AC (0<d->k=1->A9 d x=2):=⟨fun h h'=>OW.out.1 (Or.inr ⟨h',h⟩)⟩;have W2:=AA<|OW.out.2 rfl;have F2:=AA<|FN.out rfl;clear OW FN;have g3:(d<3/\((d:Int)==3)=false)\/(3<=d/\((d:Int)==3)=true):=by
   rcases QL d 3 with h | h
   ·exact Or.inl ⟨h,by rw[BK];omega⟩
   ·exact Or.inr ⟨h,by rw[DJ];omega⟩
  rcases g3 with⟨h3,g3⟩ | ⟨h3,g3⟩;all_goals
   go_wp2_with (go_at_call 196;refine(CF.out ?_).mono ?_;rotate_left;rintro e w2 ⟨rfl,hb2⟩)
   all_goals first
    | (go_ret;exact⟨by rw[W1.out zx zx];rfl,BB.out⟩)
    | (go_ret;exact⟨by rw[(W2.out zx).1 zx];rfl,BB.out⟩)
    | (go_ret;exact⟨by rw[((W2.out zx).2 zx zx).1 zx];rfl,BB.out⟩)
    | (go_ret;exact⟨by rw[((W2.out zx).2 zx zx).2 zx];rfl,BB.out.trans<|hb2.mono BB.out.size⟩)
    | (have:=F2.out;omega)
def uh (V:E8)(a:Nat->Addr): ∀ d,d<=3->Zg a d:=by
 have h3:Zg a 3:=mV V zx fun h=>absurd h zx;have h2:Zg a 2:=mV V zx fun _=> @h3;have h1:Zg a 1:=mV V zx fun _=> @h2;have h0:Zg a 0:=mV V zx fun _=> @h1;intro d hd;match d,hd with
 | 0,_=>exact @h0
 | 1,_=>exact @h1
 | 2,_=>exact @h2
 | 3,_=>exact @h3
end Go.P
namespace Go.W
variable {q:Nat}
def Zz7 {α:Type}(f:α->Bool){l:List α}(h:q<l.length):(l.drop q).any f=(f l[q] || (l.drop<|q+1).any f):=by
 rw[List.drop_eq_getElem_cons h,List.any_cons]
def Z8g {α:Type}(f:α->Bool){l:List α}(h:q<l.length):(l.drop q).all f=(f l[q] && (l.drop<|q+1).all f):=by
 rw[List.drop_eq_getElem_cons h,List.all_cons]
def Yan {α:Type} (w:World) (f:α->Bool) (l:List α) (iv:Value) (wr:World):Prop:= ∃ q:Nat,q<=l.length/\iv= .int .i64 q/\(l.drop q).any f=l.any f/\Bl w wr
def Ydj {α:Type} (w:World) (f:α->Bool) (l:List α) (iv:Value) (wr:World):Prop:= ∃ q:Nat,q<=l.length/\iv= .int .i64 q/\(l.drop q).all f=l.all f/\Bl w wr
def XH (s:ByteArray) (x:T):Bool:=Z85 x && decide (x.t=s)
def bI (body:List A) (s:ByteArray):Bool:=body.any fun a=>a.terms.any (XH s)
def je (body:List A) (t:T):Bool:= !Z85 t || bI body t.t
def Ybn (body:List A)(t:T):je body t=(!decide (t.k=1) || bI body t.t):=rfl
def Z4u (l:List T)(body:List A):Ez l body=l.all (je body):=rfl
end Go.W
namespace Go.P
variable {B D c:Nat}{w:World}{p:Option Addr}
def Zpk {xs:List A}(s:ByteArray)(hrow:Ap 2 (DX B w<|D+1) p xs)(hB:B<=w.heap.size):
  Calls prog 147 #[.slice p xs.length c,.string s] w fun e w'=>e= .returned (.bool<|bI xs s)/\Bl w w':=by
 have hl:=hrow.len;have HR:=AA hrow;clear hrow;have F:AC (bI xs s=xs.any fun a=>a.terms.any (XH s)):=⟨rfl⟩;generalize bI xs s=ans at*;go_in
 go_wp2
 go_loopw [11] (fun iv wr=>Yan w (fun a=>a.terms.any (XH s)) xs iv wr) (fun iv _=>xs.length-(intOf iv).toNat)
 case atStart=>exact⟨0,zx,rfl,rfl,AQ _ _⟩
 case round=>
  obtain⟨q,hq,rfl,hall,AX⟩:=hrel;have AL:=AA hall;have HB:=AA AX;by_cases hlt:q<xs.length
  ·have FD:=AA<|Zz7 (fun a:A=>a.terms.any (XH s)) hlt;obtain⟨b1,o1,rfl,hx⟩:=HR.out.get q hlt;obtain⟨hb1,p1,c1,k0,k1,hS⟩:=(hx.carry (BJ AX hB) lr).vals;have hsz:=AX.size;have BB:=AA<|AX.alloc hsz<|.cells #[.string xs[q].name,.slice p1 xs[q].terms.length c1] 95;obtain⟨p2,c2,he,_,_,hr⟩:=hS.carry<|Hl (.cells #[.string xs[q].name,.slice p1 xs[q].terms.length c1] 95) zx;simp only[List.cons.injEq,Value.slice.injEq,and_true,true_and]at he;obtain⟨rfl,rfl⟩:=he;have hl2:=hr.len;have BF:=AA hr;clear hall AX hx hr;generalize xs[q].terms=ts at*;rename World=>wo
   go_wp2
   go_loopw [18] (fun iv wr=>Yan (wo.alloc<|.cells #[.string xs[q].name,.slice p1 ts.length c1] 95) (XH s) ts iv wr) (fun iv _=>ts.length-(intOf iv).toNat)
   case atStart=>exact⟨0,zx,rfl,rfl,AQ _ _⟩
   case round=>
    obtain⟨k,hk,rfl,hall,AX⟩:=hrel;have yM:=AA hall;have HW:=AA AX;have Ce:=tr BB AX;by_cases zm:k<ts.length
    ·have FD2:=AA<|Zz7 (XH s) zm;have VI:AC (XH s ts[k]=(decide (ts[k].k=1) && decide (ts[k].t=s))):=⟨rfl⟩;obtain⟨b3,o3,rfl,hx⟩:=BF.out.get k zm;obtain⟨hb3,p3,c3,y0,y1,y2,y3,_⟩:=(hx.carry (BJ AX (by simp;omega)) lr).vals;have tb:=mg ts[k].t s;generalize ts[k].k=kk at*;generalize ts[k].t=kt at*;generalize XH s ts[k]=vi at*;clear hall AX hx;go_wp2_with fail
     all_goals first
      | (go_ret;exact⟨KQ (by rw[F.out,<- AL.out,FD.out,<- yM.out,FD2.out,VI.out];simp_all),Ce.out.alloc Ce.out.size _⟩)
      | (go_roundw
         case rel=>exact⟨k+1,zx,by go_num,by rw[<- yM.out,FD2.out,VI.out];simp_all,HW.out.alloc HW.out.size _⟩
         case measure=>simp[intOf];omega)
    ·obtain rfl:k=ts.length:=zx
     go_wp2
     go_roundw
     case rel=>exact⟨q+1,zx,by go_num,by rw[<- AL.out,FD.out,<- yM.out,List.drop_length];rfl,Ce.out⟩
     case measure=>simp[intOf];omega
  ·obtain rfl:q=xs.length:=zx
   go_wp2
   go_ret
   exact⟨KQ (by rw[F.out,<- AL.out,List.drop_length];rfl),HB.out⟩
def Zl {xs:List T}{p':Option Addr}{ys:List A}{c':Nat}(hrow:Ap 4 (D6 B w<|D+1) p xs)(hrow':Ap 2 (DX B w<|D+1) p' ys)(hB:B<=w.heap.size):
  Calls prog 98 #[.slice p xs.length c,.slice p' ys.length c'] w fun e w'=>e= .returned (.bool<|Ez xs ys)/\Bl w w':=by
 have hl:=hrow.len;have HR:=AA hrow;have HR':=AA hrow';clear hrow hrow';have F:=AA<|Z4u xs ys;generalize Ez xs ys=ans at*;go_in
 go_wp2
 go_loopw [9] (fun iv wr=>Ydj w (je ys) xs iv wr) (fun iv _=>xs.length-(intOf iv).toNat)
 case atStart=>exact⟨0,zx,rfl,rfl,AQ _ _⟩
 case round=>
  obtain⟨q,hq,rfl,hall,AX⟩:=hrel;have AL:=AA hall;have HB:=AA AX;by_cases hlt:q<xs.length
  ·have FD:=AA<|Z8g (je ys) hlt;have VI:=AA<|Ybn ys xs[q];obtain⟨b1,o1,rfl,hx⟩:=HR.out.get q hlt;obtain⟨hb1,p1,c1,y0,y1,y2,y3,_⟩:=(hx.carry (BJ AX hB) lr).vals;have hsz:=AX.size;have CH:=AA fun u (hu:Bl w u)=>Zpk (c:=c') xs[q].t (HR'.out.carry fun _ _ _ r=>r.carry (BJ hu hB) lr) (AU hB hu.size);generalize bI ys xs[q].t=hv at*;generalize je ys xs[q]=iv at*;generalize xs[q].k=kk at*;clear hall AX hx;go_wp2_with (go_at_call 147;refine(CH.out _<|HB.out.alloc HB.out.size _).mono ?_;rintro e w1 ⟨rfl,hb⟩)
   all_goals first
    | (go_ret;exact⟨KQ (by rw[F.out,<- AL.out,FD.out,VI.out];simp_all),(HB.out.alloc HB.out.size _).trans<|hb.mono (by simp;omega)⟩)
    | (go_roundw
       case rel=>first | exact⟨q+1,zx,by go_num,by rw[<- AL.out,FD.out,VI.out];simp_all,(HB.out.alloc HB.out.size _).trans<|hb.mono (by simp;omega)⟩ | exact⟨q+1,zx,by go_num,by rw[<- AL.out,FD.out,VI.out];simp_all,HB.out.alloc HB.out.size _⟩
       case measure=>simp[intOf];omega)
  ·obtain rfl:q=xs.length:=zx
   go_wp2
   go_ret
   exact⟨KQ (by rw[F.out,<- AL.out,List.drop_length];rfl),HB.out⟩
end Go.P
namespace Go.P
variable {a:Nat->Addr}{B D:Nat}{w:World}{vs:List Value}{x:A}
def wX (V:E8)(Z:Aa a w)(hB:B<=w.heap.size)(hS:FM B w D vs x):
  Calls prog 97 #[.agg vs.toArray] w (EE a (ER x) w):=by
 obtain⟨p,c,rfl,ht,hc,hrow⟩:=hS;have F:AC (ER x=if En x.name=false then 2 else ES (A9 0) 6 x.terms):=⟨rfl⟩;have C1:=AA fun u=>vZ x.name u ht;have C2:=AA (fun u (hu:Bl w u)=>Zqu (c:=c) (m:=6) (B:=B) Znd (first:=#[.int .i64 0]) (cap:=#[]) (f:=A9 0) (Z.below hu) (hrow.carry fun _ _ _ r=>r.carry (BJ hu hB) lr) (AU hB hu.size) fun u2 vs y hy Dh hS=>uh V a 0 zx ((Z.below hu).below Dh) (AU hB<|AU hu.size Dh.size) hS);have ZZ:=AA Z;have hl:=hrow.len;clear hrow Z hc;generalize ER x=ans at*;generalize En x.name=b1 at*;go_in
 go_wp2_with fail
 refine(C1.out _).mono ?_;rintro e w1 ⟨rfl,hb⟩;have BB:=AA<|((AQ w.heap.size w).alloc lr _).trans<|hb.mono zw;obtain⟨c0,c1,sf⟩:=(PO (AJ.new w #[.string x.name,.slice p x.terms.length c] 95) hb).two;have z2:=(ZZ.out.below BB.out).c2;clear hb;cases b1 with
 | false=>
  go_wp2
  go_ret
  exact⟨by rw[F.out];rfl,BB.out⟩
 | true=>
  go_wp2_with fail
  refine(C2.out _ BB.out).mono ?_;rintro e w2 ⟨rfl,hb⟩;go_wp2
  go_ret
  exact⟨by rw[F.out];rfl,BB.out.trans<|hb.mono BB.out.size⟩
def Zul (V:E8)(Z:Aa a w)(hB:B<=w.heap.size)(hS:FM B w D vs x):
  Calls prog 45 #[.agg vs.toArray] w (EE a (PP x) w):=by
 have C1:=AA fun u (hu:Bl w u)=>wX V (Z.below hu) (AU hB hu.size) (FM.carry hS<|BJ hu hB);obtain⟨p,c,rfl,ht,hc,hrow⟩:=hS;have F:AC (PP x=if ER x≠0 then ER x else if Ez x.terms []=false then 5 else 0):=⟨rfl⟩;have C2:=AA fun u (hu:Bl w u)=>Zl (c:=c) (p':=none) (ys:=[]) (c':=0) (B:=B) (hrow.carry fun _ _ _ r=>r.carry (BJ hu hB) lr) ⟨zw,fun i x h=>by simp at h⟩ (AU hB hu.size);have ZZ:=AA Z;clear hrow Z hc;generalize PP x=ans at*;generalize ER x=n1 at*;generalize Ez x.terms []=b1 at*;go_in
 go_wp2_with fail
 refine(C1.out _<|(AQ w.heap.size w).alloc lr _).mono ?_;rintro e w1 ⟨rfl,hb⟩;have BB:=AA<|((AQ w.heap.size w).alloc lr _).trans<|hb.mono zw;obtain⟨c0,c1,sf⟩:=(PO (AJ.new w #[.string x.name,.slice p x.terms.length c] 95) hb).two;clear hb;by_cases hn:n1=0
 ·rw[hn,Ih];go_wp2_with fail
  refine(C2.out _ BB.out).mono ?_;rintro e w2 ⟨rfl,hb⟩;have z5:=(ZZ.out.below (tr BB hb).out).c5;cases b1;all_goals
   go_wp2
   go_ret
   exact⟨by rw[F.out,if_neg zx];rfl,BB.out.trans<|hb.mono BB.out.size⟩
 ·rw[DC _ hn];go_wp2
  go_ret
  exact⟨by rw[F.out,if_pos hn,DC _ hn];rfl,BB.out⟩
def Dn.at_ {B':Nat}{x:T}{b o:Nat}(h:Dn B w D vs x)(hB:B<=B')(hb:b<B')(hc: ∀ j,j<4->w.cell? ⟨b,o+j,none⟩=vs[j]?):D6 B' w (D+1) b o x:=by
 obtain⟨p,c,rfl,ht,hk,hi,hl,hr⟩:=h;exact⟨hb,_,hc 0 zx,hc 1 zx,hc 2 zx,hc 3 zx,rfl,rfl,rfl,hk,hi,ht,p,c,rfl,hl,hr.carry fun _ _ _ q=>q.carry (Dy.up hB) lr⟩
def Zrn (V:E8){x:G}{p':Option Addr}{ys:List A}{c':Nat}(Z:Aa a w)(hB:B<=w.heap.size)(hS:LY B w D vs x)(hrow':Ap 2 (DX B w<|D+1) p' ys):
  Calls prog 150 #[.agg vs.toArray,.slice p' ys.length c'] w (EE a (MP ys x) w):=by
 obtain⟨va,vb,rfl,ho,ha,hb⟩:=hS;have C1:=AA fun u (hu:Bl w u)=>uh V a 0 zx (Z.below hu) (AU hB hu.size) (Dn.carry ha<|BJ hu hB);have C2:=AA fun u (hu:Bl w u)=>uh V a 0 zx (Z.below hu) (AU hB hu.size) (Dn.carry hb<|BJ hu hB);have D1:=AA fun u (hu:Bl w u) t e (hk:w.heap.size<=t) (hL:AJ u t va.toArray e)=>Zl (p:=some ⟨t,0,none⟩) (xs:=[x.a]) (c:=1) (c':=c') (B:=u.heap.size) ⟨zw,fun i y h=>by
  obtain⟨rfl,rfl⟩:i=0/\x.a=y:=by
   match i,h with
   | 0,h=>exact⟨rfl,by simpa using h⟩
  exact⟨t,0,rfl,Dn.at_ (Dn.carry ha<|BJ hu hB) (AU hB hu.size) hL.lt fun j _=>by rw[Ol,Oj,Hr,hL.cell];simp⟩⟩ (hrow'.carry fun _ _ _ r=>(r.carry (BJ hu hB) lr).carry (Dy.up<|AU hB hu.size) lr) lr
 have D2:=AA fun u (hu:Bl w u) t e (hk:w.heap.size<=t) (hL:AJ u t vb.toArray e)=>Zl (p:=some ⟨t,0,none⟩) (xs:=[x.b]) (c:=1) (c':=c') (B:=u.heap.size) ⟨zw,fun i y h=>by
  obtain⟨rfl,rfl⟩:i=0/\x.b=y:=by
   match i,h with
   | 0,h=>exact⟨rfl,by simpa using h⟩
  exact⟨t,0,rfl,Dn.at_ (Dn.carry hb<|BJ hu hB) (AU hB hu.size) hL.lt fun j _=>by rw[Ol,Oj,Hr,hL.cell];simp⟩⟩ (hrow'.carry fun _ _ _ r=>(r.carry (BJ hu hB) lr).carry (Dy.up<|AU hB hu.size) lr) lr
 obtain⟨p1,c1,rfl,_⟩:=ha;obtain⟨p2,c2,rfl,_⟩:=hb;have hl':=hrow'.len;have ZZ:=AA Z;clear hrow' Z;have F:AC (MP ys x=if x.op<1\/7<x.op then 2 else if MU ys x.a≠0 then MU ys x.a else MU ys x.b):=⟨rfl⟩;have F1:AC (MU ys x.a=if A9 0 x.a≠0 then A9 0 x.a else if Ez [x.a] ys=false then 5 else 0):=⟨rfl⟩;have F2:AC (MU ys x.b=if A9 0 x.b≠0 then A9 0 x.b else if Ez [x.b] ys=false then 5 else 0):=⟨rfl⟩;generalize MP ys x=ans at*;generalize x.op=op at*;have i0: ∀ w,(Instr.index 292 (.agg #[.int .i64 x.a.k,.int .i64 x.a.i,.string x.a.t,.slice p1 x.a.l.length c1,.int .i64 x.b.k,.int .i64 x.b.i,.string x.b.t,.slice p2 x.b.l.length c2])<|.int .i64 0).run prog w= .ok (.agg #[.int .i64 x.a.k,.int .i64 x.a.i,.string x.a.t,.slice p1 x.a.l.length c1]) w:=fun _=>zt
 have i1: ∀ w,(Instr.index 292 (.agg #[.int .i64 x.a.k,.int .i64 x.a.i,.string x.a.t,.slice p1 x.a.l.length c1,.int .i64 x.b.k,.int .i64 x.b.i,.string x.b.t,.slice p2 x.b.l.length c2])<|.int .i64 1).run prog w= .ok (.agg #[.int .i64 x.b.k,.int .i64 x.b.i,.string x.b.t,.slice p2 x.b.l.length c2]) w:=fun _=>zt
 have z2:=fun o=>Aq ZZ.out.c2 ((AQ _ w).alloc lr o);by_cases hop:op<1\/7<op
 ·have F0:AC (ans=2):=⟨by rw[F.out,if_pos hop]⟩;clear F F1 F2 C1 C2 D1 D2;go_in
  rcases hop with h | h
  ·go_wp2
   go_ret
   exact⟨by rw[F0.out];rfl,(AQ w.heap.size w).alloc lr _⟩
  ·have h': ¬ op<1:=zx
   go_wp2
   go_ret
   exact⟨by rw[F0.out];rfl,(AQ w.heap.size w).alloc lr _⟩
 have F0:AC (ans=if MU ys x.a≠0 then MU ys x.a else MU ys x.b):=⟨by rw[F.out,if_neg hop]⟩;have h1: ¬ op<1:=zx
 have h2: ¬ 7<op:=zx
 clear F hop z2;generalize A9 0 x.a=na at*;generalize A9 0 x.b=nb at*;generalize Ez [x.a] ys=ba at*;generalize Ez [x.b] ys=bb at*;generalize MU ys x.a=sa at*;generalize MU ys x.b=sb at*;have B0:=AA<|(AQ w.heap.size w).alloc lr<|.cells #[.int .i64 op,.int .i64 x.a.k,.int .i64 x.a.i,.string x.a.t,.slice p1 x.a.l.length c1,.int .i64 x.b.k,.int .i64 x.b.i,.string x.b.t,.slice p2 x.b.l.length c2] 102;go_in
 go_wp2
 refine Dt 3 ?_;rw[A8];go_wp2_with fail
 refine(C1.out _<|B0.out.alloc B0.out.size _).mono ?_;rintro e w1 ⟨rfl,hb⟩;have B1:=AA<|(B0.out.alloc B0.out.size _).trans<|hb.mono (by simp;omega);have L1:=AA<|PO (AJ.new _ #[.int .i64 x.a.k,.int .i64 x.a.i,.string x.a.t,.slice p1 x.a.l.length c1] 100) hb;obtain⟨y0,y1,y2,y3,sf⟩:=L1.out.four;simp only[EH]at y0 y1 y2 y3 sf;have hs1:=B1.out.size;clear hb;by_cases ed:na=0
 ·have F3:AC (sa=if ba=false then 5 else 0):=⟨by rw[F1.out,if_neg zx]⟩;clear F1;rw[ed,Ih];go_wp2_with fail
  refine(D1.out _ (B1.out.alloc hs1 _) _ _ hs1<|AJ.new w1 _ _).mono ?_;rintro e w2 ⟨rfl,hb⟩;have B2:=AA<|(B1.out.alloc hs1 _).trans<|hb.mono (by simp;omega);have z5:=(ZZ.out.below B2.out).c5;have hs2:=B2.out.size;clear hb y0 y1 y2 y3 sf;cases ba with
  | false=>
   have F4:AC (ans=5):=⟨by rw[F0.out,F3.out];rfl⟩;go_wp2
   go_ret
   exact⟨by rw[F4.out];rfl,B2.out⟩
  | true=>
   have F4:AC (ans=sb):=⟨by rw[F0.out,F3.out];rfl⟩;clear F0 F3 C1 D1 z5;go_wp2_with fail
   rw[A8];go_wp2_with fail
   refine(C2.out _<|B2.out.alloc hs2 _).mono ?_;rintro e w3 ⟨rfl,hb⟩;have B3:=AA<|(B2.out.alloc hs2 _).trans<|hb.mono (by simp;omega);obtain⟨y0,y1,y2,y3,sf⟩:=(PO (AJ.new _ #[.int .i64 x.b.k,.int .i64 x.b.i,.string x.b.t,.slice p2 x.b.l.length c2] 100) hb).four;have hs3:=B3.out.size;clear hb;by_cases VW:nb=0
   ·have F5:AC (sb=if bb=false then 5 else 0):=⟨by rw[F2.out,if_neg zx]⟩;clear F2;rw[VW,Ih];go_wp2_with fail
    refine(D2.out _ (B3.out.alloc hs3 _) _ _ hs3<|AJ.new w3 _ _).mono ?_;rintro e w4 ⟨rfl,hb⟩;have B4:=AA<|(B3.out.alloc hs3 _).trans<|hb.mono (by simp;omega);have z5:=(ZZ.out.below B4.out).c5;clear hb y0 y1 y2 y3 sf;cases bb with
    | false=>
     go_wp2
     go_ret
     exact⟨by rw[F4.out,F5.out];rfl,B4.out⟩
    | true=>
     go_wp2_with fail
     rw[A8];go_wp2
     go_ret
     exact⟨by rw[F4.out,F5.out];rfl,B4.out⟩
   ·have F3:AC (ans=nb):=⟨by rw[F4.out,F2.out,if_pos VW]⟩;rw[DC _ VW];go_wp2
    go_ret
    exact⟨by rw[F3.out,DC _ VW];rfl,B3.out⟩
 ·have F3:AC (ans=na):=⟨by rw[F0.out,F1.out,if_pos ed,if_pos ed]⟩;rw[DC _ ed];go_wp2
  go_ret
  exact⟨by rw[F3.out,DC _ ed];rfl,B1.out⟩
end Go.P
namespace Go.P
variable {a:Nat->Addr}{B D:Nat}{w:World}{vs:List Value}{x:R}
def Zx7:Bj 97:=DL func97 zt rfl
def Zx9:Bj 45:=DL func45 zt rfl
def Zyc:Bj 47:=DL func47 zt rfl
def Zx8:Bj 151:=DL func151 zt rfl
def Zvt:Bj 49:=DL func49 zt rfl
def Zvs:Bj 149:=DL func149 zt rfl
def Zrl (V:E8){x:G}{p':Option Addr}{ys:List A}{c' b:Nat}(Z:Aa a w)(hB:B<=w.heap.size)(hS:LY B w D vs x)(hrow':Ap 2 (DX B w<|D+1) p' ys)(hc:w.cell? ⟨b,2,none⟩=some (.slice p' ys.length c')):
  Calls prog 149 #[.agg vs.toArray,.pointer<|Qb b 0] w (EE a (MP ys x) w):=by
 have C1:=AA fun u (hu:Bl w u)=>Zrn V (c':=c') (Z.below hu) (AU hB hu.size) (LY.carry hS<|BJ hu hB) (hrow'.carry fun _ _ _ r=>r.carry (BJ hu hB) lr);have c2:=fun o=>Aq hc ((AQ _ w).alloc lr o);obtain⟨va,vb,rfl,_,⟨p1,c1,rfl,_⟩,p2,c3,rfl,_⟩:=hS;clear Z hrow';go_in
 go_wp2_with fail
 refine(C1.out _<|(AQ w.heap.size w).alloc lr _).mono ?_;rintro e w1 ⟨rfl,hb⟩;go_wp2_with fail
 go_ret
 exact⟨rfl,((AQ w.heap.size w).alloc lr _).trans<|hb.mono zw⟩
def Zl9 (V:E8)(Z:Aa a w)(hB:B<=w.heap.size)(hS:GR B w D vs x):
  Calls prog 100 #[.agg vs.toArray] w (EE a (GX x) w):=by
 obtain⟨va,p1,c1,p2,c2,rfl,⟨p0,c0,rfl,_⟩,_,hr1,_,hr2⟩:=hS;have Fp:=hr1.len;have hl2:=hr2.len;have F:AC (GX x=if x.body.length=0/\x.guards.length=0 then 2 else if 4<x.body.length\/4<x.guards.length then 4 else if EF ER x.body≠0 then EF ER x.body else EF (MP x.body) x.guards):=⟨rfl⟩;have C1:=AA (fun u (hu:Bl w u)=>Zi8 (a:=a) (c:=c1) (B:=B) Zx7 (first:=#[]) (cap:=#[]) (f:=ER) (hr1.carry fun _ _ _ r=>r.carry (BJ hu hB) lr) (AU hB hu.size) fun u2 vs y hy Dh hS=>wX V ((Z.below hu).below Dh) (AU hB<|AU hu.size Dh.size) hS);have C2:=AA (fun u (hu:Bl w u) b (hc:u.cell? ⟨b,2,none⟩=some (.slice p1 x.body.length c1))=>Zn7 (a:=a) (c:=c2) (B:=B) Zvs (first:=#[]) (cap:=#[.pointer<|Qb b 0]) (f:=MP x.body) (hr2.carry fun _ _ _ r=>r.carry (BJ hu hB) lr) (AU hB hu.size) fun u2 vs y hy Dh hS=>Zrl V (c':=c1) ((Z.below hu).below Dh) (AU hB<|AU hu.size Dh.size) hS (hr1.carry fun _ _ _ r=>(r.carry (BJ hu hB) lr).carry (BJ Dh<|AU hB hu.size) lr) (Aq hc Dh));have z2:=fun o=>Aq Z.c2 ((AQ _ w).alloc lr o);have z4:=fun o=>Aq Z.c4 ((AQ _ w).alloc lr o);have Dw: ∀ (fn:Fn) (first cap:Array Value) (w:World),(Instr.makeFunc fn first cap).run prog w= .ok (.func fn first cap) w:=fun _ _ _ _=>rfl;have B0:=AA<|(AQ w.heap.size w).alloc lr<|.cells #[.string x.head.name,.slice p0 x.head.terms.length c0,.slice p1 x.body.length c1,.slice p2 x.guards.length c2] 98;clear hr1 hr2 Z;generalize GX x=ans at*;generalize EF ER x.body=n1 at*;generalize EF (MP x.body) x.guards=n2 at*;generalize x.body.length=l1 at*;generalize x.guards.length=l2 at*;have W:(((l1:Int)==0)=true/\((l2:Int)==0)=true/\ans=2)\/(((l1:Int)==0)=true/\((l2:Int)==0)=false/\decide ((4:Int)<l1)=false/\(4:Int)<l2/\ans=4)\/(((l1:Int)==0)=false/\(4:Int)<l1/\ans=4)\/(((l1:Int)==0)=false/\decide ((4:Int)<l1)=false/\(4:Int)<l2/\ans=4)
   \/(((l1:Int)==0)=true/\((l2:Int)==0)=false/\decide ((4:Int)<l1)=false/\decide ((4:Int)<l2)=false/\(n1≠0->ans=n1)/\(n1=0->ans=n2))\/(((l1:Int)==0)=false/\decide ((4:Int)<l1)=false/\decide ((4:Int)<l2)=false/\(n1≠0->ans=n1)/\(n1=0->ans=n2)):=by
  simp only[DJ,BK,decide_eq_false_iff_not];have f2:(l1=0/\l2=0)->ans=2:=fun h=>by rw[F.out,if_pos h]
  have f4: ¬ (l1=0/\l2=0)->(4<l1\/4<l2)->ans=4:=fun h h'=>by rw[F.out,if_neg h,if_pos h']
  have f0: ¬ (l1=0/\l2=0)-> ¬ (4<l1\/4<l2)->(n1≠0->ans=n1)/\(n1=0->ans=n2):=fun h h'=>by rw[F.out,if_neg h,if_neg h'];exact⟨fun q=>if_pos q,fun q=>if_neg zx⟩
  by_cases a1:l1=0
  ·by_cases a2:l2=0
   ·exact Or.inl ⟨zx,zx,f2 ⟨a1,a2⟩⟩
   ·by_cases a3:4<l2
    ·exact Or.inr<|Or.inl ⟨zx,zx,zx,zx,f4 zx zx⟩
    ·exact Or.inr<|Or.inr<|Or.inr<|Or.inr<|Or.inl ⟨zx,zx,zx,zx,f0 zx zx⟩
  ·by_cases a2:4<l1
   ·exact Or.inr<|Or.inr<|Or.inl ⟨zx,zx,f4 zx zx⟩
   ·by_cases a3:4<l2
    ·exact Or.inr<|Or.inr<|Or.inr<|Or.inl ⟨zx,zx,zx,f4 zx zx⟩
    ·exact Or.inr<|Or.inr<|Or.inr<|Or.inr<|Or.inr ⟨zx,zx,zx,f0 zx zx⟩
 clear F;go_in
 rcases W with⟨g1,g2,r⟩ | ⟨g1,g2,g3,g4,r⟩ | ⟨g1,g2,r⟩ | ⟨g1,g2,g3,r⟩ | ⟨g1,g2,g3,g4,r⟩ | ⟨g1,g2,g3,r⟩;iterate 4
  have R:=AA r;clear r C1 C2;go_wp2_with fail
  go_ret
  exact⟨by rw[R.out];rfl,B0.out⟩
 all_goals
  have R:=AA r;clear r z2 z4;go_wp2_with fail
  refine(C1.out _ B0.out).mono ?_;rintro e w1 ⟨rfl,hb⟩;have B1:=tr B0 hb;obtain⟨y0,y1,y2,y3,sf⟩:=(PO (AJ.new w #[.string x.head.name,.slice p0 x.head.terms.length c0,.slice p1 l1 c1,.slice p2 l2 c2] 98) hb).four;have CC:=AA<|C2.out _ B1.out _ y2;clear hb C1 C2;by_cases hn:n1=0
  ·rw[hn,Ih];go_wp2_with fail
   refine mq CC.out ?_;rintro w2 hb;go_wp2_with fail
   go_ret
   exact⟨by rw[R.out.2 hn];rfl,B1.out.trans<|hb.mono B1.out.size⟩
  ·rw[DC _ hn];go_wp2_with fail
   go_ret
   exact⟨by rw[R.out.1 hn,DC _ hn];rfl,B1.out⟩
def Zum (V:E8)(Z:Aa a w)(hB:B<=w.heap.size)(hS:GR B w D vs x):
  Calls prog 47 #[.agg vs.toArray] w (EE a (MV x) w):=by
 have C2:=AA fun u (hu:Bl w u)=>Zl9 V (Z.below hu) (AU hB hu.size) (GR.carry hS<|BJ hu hB);obtain⟨va,p1,c1,p2,c2,rfl,hA,_,hr1,_,hr2⟩:=hS;have C1:=AA fun u (hu:Bl w u)=>wX V (Z.below hu) (AU hB hu.size) (FM.carry hA<|BJ hu hB);obtain⟨p0,c0,rfl,_,_,IY⟩:=hA;have C3:=AA fun u (hu:Bl w u)=>Zl (c:=c0) (c':=c1) (B:=B) (IY.carry fun _ _ _ r=>r.carry (BJ hu hB) lr) (hr1.carry fun _ _ _ r=>r.carry (BJ hu hB) lr) (AU hB hu.size);have F:AC (MV x=if ER x.head≠0 then ER x.head else if GX x≠0 then GX x else if Ez x.head.terms x.body=false then 5 else 0):=⟨rfl⟩;have ZZ:=AA Z;have B0:=AA<|(AQ w.heap.size w).alloc lr<|.cells #[.string x.head.name,.slice p0 x.head.terms.length c0,.slice p1 x.body.length c1,.slice p2 x.guards.length c2] 98;clear IY hr1 hr2 Z;generalize MV x=ans at*;generalize ER x.head=n1 at*;generalize GX x=n2 at*;generalize Ez x.head.terms x.body=b3 at*;go_in
 go_wp2_with fail
 refine(C1.out _ B0.out).mono ?_;rintro e w1 ⟨rfl,hb⟩;have B1:=tr B0 hb;have L1:=AA<|PO (AJ.new w #[.string x.head.name,.slice p0 x.head.terms.length c0,.slice p1 x.body.length c1,.slice p2 x.guards.length c2] 98) hb;clear hb;by_cases hn:n1=0
 ·obtain⟨y0,y1,y2,y3,sf⟩:=L1.out.four;rw[hn,Ih];go_wp2_with fail
  refine(C2.out _ B1.out).mono ?_;rintro e w2 ⟨rfl,hb⟩;have B2:=tr B1 hb;have L2:=AA<|PO L1.out hb;clear y0 y1 y2 y3 sf hb;by_cases II:n2=0
  ·obtain⟨y0,y1,y2,y3,sf⟩:=L2.out.four;rw[II,Ih];go_wp2_with fail
   refine(C3.out _ B2.out).mono ?_;rintro e w3 ⟨rfl,hb⟩;have B3:=tr B2 hb;have z5:=(ZZ.out.below B3.out).c5;clear y0 y1 y2 y3 sf hb;cases b3;all_goals
    go_wp2_with fail
    go_ret
    exact⟨by rw[F.out,if_neg zx,if_neg zx];rfl,B3.out⟩
  ·rw[DC _ II];go_wp2_with fail
   go_ret
   exact⟨by rw[F.out,if_neg zx,if_pos II,DC _ II];rfl,B2.out⟩
 ·rw[DC _ hn];go_wp2_with fail
  go_ret
  exact⟨by rw[F.out,if_pos hn,DC _ hn];rfl,B1.out⟩
end Go.P
namespace Go.P
variable {a:Nat->Addr}{B D:Nat}{w:World}{vs:List Value}
def Zm5 (V:E8){x:R}(Z:Aa a w)(hB:B<=w.heap.size)(hS:GR B w D vs x):
  Calls prog 151 #[.agg vs.toArray] w (EE a (Og x) w):=by
 have C2:=AA fun u (hu:Bl w u)=>Zl9 V (Z.below hu) (AU hB hu.size) (GR.carry hS<|BJ hu hB);obtain⟨va,p1,c1,p2,c2,rfl,⟨p0,c0,rfl,_,_,IY⟩,_,hr1,_,hr2⟩:=hS;have hl0:=IY.len;have F:AC (Og x=if x.head.name.size≠0\/0<x.head.terms.length then 2 else GX x):=⟨rfl⟩;have z2:=fun o=>Aq Z.c2 ((AQ _ w).alloc lr o);have e0:=Xd x.head.name;have B0:=AA<|(AQ w.heap.size w).alloc lr<|.cells #[.string x.head.name,.slice p0 x.head.terms.length c0,.slice p1 x.body.length c1,.slice p2 x.guards.length c2] 98;clear IY hr1 hr2 Z;generalize Og x=ans at*;generalize GX x=n2 at*;generalize x.head.terms.length=n at*;generalize x.head.name=nm at*;have W:((nm.toList==[])=false/\ans=2)\/((nm.toList==[])=true/\(0:Int)<n/\ans=2)\/((nm.toList==[])=true/\ ¬ 0<n/\ans=n2):=by
  simp only[e0,decide_eq_false_iff_not,decide_eq_true_eq];have f1:(nm.size≠0\/0<n)->ans=2:=fun h=>by rw[F.out,if_pos h]
  have f2: ¬ (nm.size≠0\/0<n)->ans=n2:=fun h=>by rw[F.out,if_neg h]
  omega
 clear F e0;go_in
 rcases W with⟨g1,r⟩ | ⟨g1,g2,r⟩ | ⟨g1,g2,r⟩;iterate 2
  have R:=AA r;clear r C2;go_wp2_with fail
  go_ret
  exact⟨by rw[R.out];rfl,B0.out⟩
 have R:=AA r;clear r z2;go_wp2_with fail
 refine(C2.out _ B0.out).mono ?_;rintro e w1 ⟨rfl,hb⟩;go_wp2_with fail
 go_ret
 exact⟨by rw[R.out];rfl,B0.out.trans<|hb.mono B0.out.size⟩
def Zjm (V:E8){p:Option Addr}{xs:List R}{c:Nat}(Z:Aa a w)(hB:B<=w.heap.size)(hrow:Ap 4 (E5 B w<|D+1) p xs):
  Calls prog 102 #[.slice p xs.length c] w (EE a (Hq xs) w):=by
 have C1:=AA (Zjl (c:=c) (m:=4) (B:=B) Zx8 (first:=#[]) (cap:=#[]) (f:=Og) Z hrow hB fun u vs y hy hu hS=>Zm5 V (Z.below hu) (AU hB hu.size) hS);have F:AC (Hq xs=if xs.length=0 then 2 else ES Og 4 xs):=⟨rfl⟩;have z2:=Z.c2;clear hrow Z;generalize ES Og 4 xs=n1 at*;generalize Hq xs=ans at*;generalize xs.length=n at*;have W:(((n:Int)==0)=true/\ans=2)\/(((n:Int)==0)=false/\ans=n1):=by
  simp only[DJ,BK];have f1:n=0->ans=2:=fun h=>by rw[F.out,if_pos h]
  have f2: ¬ n=0->ans=n1:=fun h=>by rw[F.out,if_neg h]
  omega
 clear F;go_in
 rcases W with⟨g1,r⟩ | ⟨g1,r⟩
 ·have R:=AA r;clear r C1;go_wp2_with fail
  go_ret
  exact⟨by rw[R.out];rfl,AQ _ _⟩
 ·have R:=AA r;clear r z2;go_wp2_with fail
  refine mq C1.out ?_;rintro w1 hb;go_wp2_with fail
  go_ret
  exact⟨by rw[R.out];rfl,hb⟩
def Zrm (V:E8){x:List R}(Z:Aa a w)(hB:B<=w.heap.size)(hS:P6 B w D vs x):
  Calls prog 49 #[.agg vs.toArray] w (EE a (Hq x) w):=by
 obtain⟨p,c,rfl,_,hr⟩:=hS;have C1:=AA fun u (hu:Bl w u)=>Zjm V (c:=c) (Z.below hu) (AU hB hu.size) (hr.carry fun _ _ _ r=>r.carry (BJ hu hB) lr);have B0:=AA<|(AQ w.heap.size w).alloc lr<|.cells #[.slice p x.length c] 65;clear hr Z;go_in
 go_wp2_with fail
 refine(C1.out _ B0.out).mono ?_;rintro e w1 ⟨rfl,hb⟩;go_wp2_with fail
 go_ret
 exact⟨rfl,B0.out.trans<|hb.mono B0.out.size⟩
def nV (V:E8){x:Bk}(Z:Aa a w)(hB:B<=w.heap.size)(hS:DW B w D vs x):
  Calls prog 24 #[.agg vs.toArray] w (EE a (GV x) w):=by
 obtain⟨p,c,p1,c1,p2,c2,rfl,_,hr,_,hr1,_,hr2⟩:=hS;have C1:=AA (fun u (hu:Bl w u)=>Zqt (c:=c) (m:=24) (B:=B) Zx9 (first:=#[]) (cap:=#[]) (f:=PP) (Z.below hu) (hr.carry fun _ _ _ r=>r.carry (BJ hu hB) lr) (AU hB hu.size) fun u2 vs y hy Dh hS=>Zul V ((Z.below hu).below Dh) (AU hB<|AU hu.size Dh.size) hS);have C2:=AA (fun u (hu:Bl w u)=>Zjl (c:=c1) (m:=24) (B:=B) Zyc (first:=#[]) (cap:=#[]) (f:=MV) (Z.below hu) (hr1.carry fun _ _ _ r=>r.carry (BJ hu hB) lr) (AU hB hu.size) fun u2 vs y hy Dh hS=>Zum V ((Z.below hu).below Dh) (AU hB<|AU hu.size Dh.size) hS);have C3:=AA (fun u (hu:Bl w u)=>Zoe (c:=c2) (m:=24) (B:=B) Zvt (first:=#[]) (cap:=#[]) (f:=Hq) (Z.below hu) (hr2.carry fun _ _ _ r=>r.carry (BJ hu hB) lr) (AU hB hu.size) fun u2 vs y hy Dh hS=>Zrm V ((Z.below hu).below Dh) (AU hB<|AU hu.size Dh.size) hS);have F:AC (GV x=if ES PP 24 x.facts≠0 then ES PP 24 x.facts else if ES MV 24 x.rules≠0 then ES MV 24 x.rules else ES Hq 24 x.checks):=⟨rfl⟩;have B0:=AA<|(AQ w.heap.size w).alloc lr<|.cells #[.slice p x.facts.length c,.slice p1 x.rules.length c1,.slice p2 x.checks.length c2] 38;clear hr hr1 hr2 Z;generalize GV x=ans at*;generalize ES PP 24 x.facts=n1 at*;generalize ES MV 24 x.rules=n2 at*;generalize ES Hq 24 x.checks=n3 at*;have F1:AC ((n1≠0->ans=n1)/\(n1=0->n2≠0->ans=n2)/\(n1=0->n2=0->ans=n3)):=⟨fun h=>by rw[F.out,if_pos h],fun h h'=>by rw[F.out,if_neg zx,if_pos h'],fun h h'=>by rw[F.out,if_neg zx,if_neg zx]⟩;clear F;go_in
 go_wp2_with fail
 refine(C1.out _ B0.out).mono ?_;rintro e w1 ⟨rfl,hb⟩;have B1:=tr B0 hb;have L1:=AA<|PO (AJ.new w #[.slice p x.facts.length c,.slice p1 x.rules.length c1,.slice p2 x.checks.length c2] 38) hb;clear hb;by_cases hn:n1=0
 ·obtain⟨y0,y1,y2,sf⟩:=L1.out.three;rw[hn,Ih];go_wp2_with fail
  refine(C2.out _ B1.out).mono ?_;rintro e w2 ⟨rfl,hb⟩;have B2:=tr B1 hb;have L2:=AA<|PO L1.out hb;clear y0 y1 y2 sf hb;by_cases II:n2=0
  ·obtain⟨y0,y1,y2,sf⟩:=L2.out.three;rw[II,Ih];go_wp2_with fail
   refine(C3.out _ B2.out).mono ?_;rintro e w3 ⟨rfl,hb⟩;go_wp2_with fail
   go_ret
   exact⟨by rw[F1.out.2.2 hn II];rfl,B2.out.trans<|hb.mono B2.out.size⟩
  ·rw[DC _ II];go_wp2_with fail
   go_ret
   exact⟨by rw[F1.out.2.1 hn II,DC _ II];rfl,B2.out⟩
 ·rw[DC _ hn];go_wp2_with fail
  go_ret
  exact⟨by rw[F1.out.1 hn,DC _ hn];rfl,B1.out⟩
end Go.P
namespace Go.W
variable {m:Nat}{x:T}
def Z59: ∀ f n,(Kz f n).size<=f+1
 | 0,n=>by rw[Kz];exact JB 1
 | f+1,n=>by
  rw[Kz];split
  ·rw[Ae,E6];have:=Z59 f<|n / 128;omega
  ·rw[E6];omega
def iW (n:Nat):(Dm n).size<=11:=Z59 10 n
def Zvc {α:Type}{f:α->ByteArray}: ∀ {l:List α},(∀ x,x∈l->(f x).size<=m)->(cat f l).size<=l.length*m
 | [],_=>by simp[cat]
 | x::r,h=>by
  rw[cat,Ae,BO,Nat.add_mul,Nat.one_mul]
  have:=Zvc (l:=r) fun y hy=>h y (List.mem_cons_of_mem _ hy)
  have:=h x List.mem_cons_self
  omega
def WG {α:Type}{f:α->ByteArray}{k:Nat}{l:List α}(hl:l.length<=k)(h: ∀ x,x∈l->(f x).size<=m):(BZ f l).size<=11+k*m:=by
 rw[BZ,Ae]
 have:=iW l.length
 have:=Zvc h
 have:=Nat.mul_le_mul_right m hl
 omega
def nL {d:Nat}(h:A9 d x=0)(m:Nat)(hm:d≠3-> ∀ y,A9 (d+1) y=0->(Ci y).size<=m):(Ci x).size<=100+6*m:=by
 obtain⟨Ej,h6,DN,hk⟩:=Xy h;rw[uA,Ae,E6];split
 ·have:=iW<|Pv x.i;omega
 ·split
  ·rw[E6];omega
  ·split
   ·have:=WG (f:=Ci) (m:=m) h6 fun y hy=>hm zx y (DN y hy);omega
   ·rw[GH,Ae];have:=iW x.t.size;omega
def mr (h:A9 0 x=0):(Ci x).size<=30000:=by
 have b3: ∀ y,A9 3 y=0->(Ci y).size<=100:=fun y hy=>by have:=nL hy 0 fun h=>absurd rfl h;omega
 have b2: ∀ y,A9 2 y=0->(Ci y).size<=700:=fun y hy=>by have:=nL hy 100 fun _=>b3;omega
 have XG: ∀ y,A9 1 y=0->(Ci y).size<=4300:=fun y hy=>by have:=nL hy 700 fun _=>b2;omega
 have:=nL h 4300 fun _=>XG
 omega
def vV {x:A}(h:ER x=0):(Hy x).size<=200000:=by
 obtain⟨h1,h2,h3⟩:=kD h;rw[Hy,Ae,GH,Ae]
 have:=iW x.name.size
 have:=WG (f:=Ci) (m:=30000) h2 fun y hy=>mr (h3 y hy)
 omega
def Z29 {l:List A}{x:G}(h:MP l x=0):(QI x).size<=70000:=by
 obtain⟨_,_,h3,h4⟩:=yx h;rw[QI,Ae,Ae,E6]
 have:=mr h3
 have:=mr h4
 omega
def Zlu {x:R}(h:GX x=0):(JM x).size<=1100000:=by
 obtain⟨h1,h2,h3,h4⟩:=okB h;rw[JM,Ae]
 have:=WG (f:=Hy) (m:=200000) h1 fun y hy=>vV (h3 y hy)
 have:=WG (f:=QI) (m:=70000) h2 fun y hy=>Z29 (h4 y hy)
 omega
def yz {x:List R}(h:Hq x=0):x.length<=4/\ ∀ y,y∈x->GX y=0:=by
 unfold Hq at h;split at h
 ·cases h
 ·refine⟨(JP h).1,fun y hy=>?_⟩
  have:=(JP h).2 y hy
  unfold Og at this;split at this
  ·cases this
  ·exact this
def Zp8 {x:Bk}(h:GV x=0):(JI x).size<900000000:=by
 obtain⟨SX,h⟩:=Ie h;obtain⟨SV,SQ⟩:=Ie h;rw[JI,Ae,Ae]
 have:=WG (f:=Hy) (m:=200000) (JP SX).1 fun y hy=>vV (Ie<|(JP SX).2 y hy).1
 have:=WG (f:=QH) (m:=1300000) (JP SV).1 fun y hy=>by
  obtain⟨q1,q2⟩:=Ie<|(JP SV).2 y hy;rw[QH,Ae]
  have:=vV q1
  have:=Zlu (Ie q2).1
  omega
 have:=WG (f:=BZ JM) (m:=5000000) (JP SQ).1 fun y hy=>by
  obtain⟨q1,q2⟩:=yz<|(JP SQ).2 y hy
  have:=WG (f:=JM) (m:=1100000) q1 fun z hz=>Zlu (q2 z hz)
  omega
 omega
def Ib (x:Bk):Int:=if GV x≠0 then GV x else if 4000<(JI x).size then 4 else 0
def DU (x:Bk):ByteArray:=if Ib x=0 then JI x else ByteArray.empty
end Go.W
namespace Go.P
def Zr0 (V:E8){a:Nat->Addr}{B D:Nat}{w:World}{vs:List Value}{x:Bk}(Z:Aa a w)(hB:B<=w.heap.size)(hS:DW B w D vs x):
  Calls prog 35 #[.agg vs.toArray] w fun e w'=>e= .returned (.tuple #[.string<|DU x,BS a<|Ib x])/\Bl w w':=by
 have C1:=AA fun u (hu:Bl w u)=>nV V (Z.below hu) (AU hB hu.size) (DW.carry hS<|BJ hu hB);have CB:=AA fun u v b (hu:Bl w u) (hv:B<=v) (qC:v<=u.heap.size) (hb:Ak 164 v b ByteArray.empty u) (Az:GV x=0)=>Z19 hb qC (DW.carry (DW.carry hS<|BJ hu hB)<|Dy.up hv) Az (by have:=Zp8 Az;simp;omega);have F:AC ((GV x≠0->Ib x=GV x/\DU x=ByteArray.empty)/\(GV x=0->4000<(JI x).size->Ib x=4/\DU x=ByteArray.empty)/\(GV x=0->(JI x).size<=4000->Ib x=0/\DU x=JI x)):=⟨by
  unfold DU Ib;refine⟨fun h=>?_,fun h h'=>?_,fun h h'=>?_⟩
  ·rw[if_pos h,if_neg h];exact⟨rfl,rfl⟩
  ·rw[if_neg zx,if_pos h'];exact⟨rfl,rfl⟩
  ·rw[if_neg zx,if_neg zx];exact⟨rfl,rfl⟩⟩
 have PB:=AA<|Zp8 (x:=x);have ZZ:=AA Z;obtain⟨p,c,p1,c1,p2,c2,rfl,_⟩:=hS;clear Z;generalize GV x=n1 at*;go_in
 go_wp2_with fail
 refine(C1.out _<|(AQ w.heap.size w).alloc lr _).mono ?_;rintro e w1 ⟨rfl,hb⟩;have B1:=AA<|((AQ w.heap.size w).alloc lr _).trans<|hb.mono zw;have L1:=AA<|PO (AJ.new w #[.slice p x.facts.length c,.slice p1 x.rules.length c1,.slice p2 x.checks.length c2] 38) hb;have hs1:=B1.out.size;clear hb;by_cases hn:n1=0
 ·have y0:=fun o=>(L1.out.alloc o).three.1;have y1:=fun o=>(L1.out.alloc o).three.2.1;have y2:=fun o=>(L1.out.alloc o).three.2.2.1;have BN:=AA<|Lib.fresh_isBuilder 164 5 w1;have CC:=AA<|CB.out _ w1.heap.size _ (B1.out.alloc hs1 _) zx zw (show Ak 164 w1.heap.size w1.heap.size ByteArray.empty (w1.alloc<|.cells #[.pointer none,.slice none 0 0] 164)from BN.out) hn;have F2:=AA<|F.out.2.1 hn;have F3:=AA<|F.out.2.2 hn;have eZ:=PB.out hn;clear CB C1 F BN PB;rw[hn,Ih];go_wp2_with fail
  refine CC.out.mono ?_;rintro e w2 ⟨rfl,hb2,hw2⟩;rw[show ByteArray.empty++JI x=JI x by simp]at hb2;have B2:=AA<|(B1.out.alloc hs1 _).trans<|hw2.below.mono hs1;have z4:=(ZZ.out.below B2.out).c4;have CL:=AA<|Yb9 hb2;have CS:=AA<|wG hb2 zx (by have:=hw2.size;simp at this;omega);clear y0 y1 y2 hb2 hw2 CC;generalize JI x=s at*;by_cases hl:4000<s.size
  ·have g1:(4000:Int)<(s.size:Int):=zx
   go_wp2_with (go_at_call 74;refine mq CL.out ?_;rintro w3 rfl)
   go_quiet (fail)
   go_wp2
   go_ret2
   exact⟨by rw[(F2.out hl).1,(F2.out hl).2];rfl,KR B2.out⟩
  ·have g1: ¬ (4000:Int)<(s.size:Int):=zx
   clear z4;go_wp2_with (first | (go_at_call 74;refine mq CL.out ?_;rintro w3 rfl) | (go_at_call 26;refine mq CS.out ?_;rintro w4 hb4))
   go_ret2
   exact⟨by rw[(F3.out zx).1,(F3.out zx).2];rfl,B2.out.trans<|hb4.mono hs1⟩
 ·rw[DC _ hn];go_wp2
  go_ret2
  exact⟨by rw[(F.out.1 hn).1,(F.out.1 hn).2,DC _ hn];rfl,B1.out⟩
end Go.P
