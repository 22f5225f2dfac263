import Derived.Test.YtaoiihbjdonaoaaGreatDoorW03
set_option linter.defProp false
set_option maxRecDepth 100000
set_option maxHeartbeats 8000000
set_option linter.unusedSimpArgs false
open Go.Proofs Go.RowKit Go.W Tryz
namespace Go.P
def TY {w u:World}{L:Nat}{cs:Array Value}{e:TypeId}(h:AO w L cs e)(hb:Bl w u):AO u L cs e:=h.of<|hb.block L h.lt
def Zn5:Da 137:=EH func137 zt rfl
def gI (a:Nat->Addr) (d:Nat):Prop:= ∀ {B D:Nat} {w:World} {vs:List Value} {x:T},AZ a w->B<=w.heap.size->Ed B w D vs x->Calls prog 137 #[zo (d:Int),.agg vs.toArray] w (FT a (BR d x) w)
def vR (V:D9){a:Nat->Addr}{d:Nat}(hd:d<=3)(ih:d<3->gI a (d+1)):gI a d:=by
 intro B D w vs x Z hB hS;obtain⟨p,c,rfl,ht,_,_,hc,hrow⟩:=hS;have OW:AF ((Ih x.k x.i x.t x.l.length=false\/x.k=1/\0<d->BR d x=2)/\(Ih x.k x.i x.t x.l.length=true->(x.k=1->d=0)->(64<x.t.size\/6<x.l.length->BR d x=4)/\(x.t.size<=64->x.l.length<=6->(x.k=7/\d=3->BR d x=3)/\(x.k≠7\/d≠3->BR d x=EU (BR<|d+1) x.l)))):=⟨by
  have key: ∀ r,Oc d x.k x.i x.t x.l.length=r->r≠0->BR d x=r:=fun r h h'=>by rw[qd,h,if_pos h']
  have no:Ih x.k x.i x.t x.l.length=true->(x.k=1->d=0)-> ¬ (Ih x.k x.i x.t x.l.length=false\/x.k=1/\0<d):=fun h h'=>by
   rintro(q | q)
   ·rw[h]at q;cases q
   ·omega
  refine⟨fun h=>key 2 (if_pos h) zu,fun h h'=>⟨fun h2=>key 4 ?_ zu,fun h2 h3=>⟨fun h4=>key 3 ?_ zu,fun h4=>?_⟩⟩⟩
  ·unfold Oc;rw[if_neg<|no h h',if_pos h2]
  ·unfold Oc;rw[if_neg<|no h h',if_neg zx,if_pos h4]
  ·rw[qd,if_neg];unfold Oc;rw[if_neg<|no h h',if_neg zx,if_neg zx];decide⟩
 have C1:=AC fun u (hu:AZ a u)=>Z0m V hu x.k x.i x.t p x.l.length c ht;have FN:AF (Ih x.k x.i x.t x.l.length=true->x.k=7\/x.l.length=0):=⟨fun h=>by
  unfold Ih UX at h
  (repeat' split at h) <;> simp_all⟩
 have hl:=hrow.len;have ZZ:=AC Z;have HR:=AC hrow;have IH:=AC fun h=> @ih h;have XL:AF (∀ h:x.l.length=0,x.l=[]):=⟨M9⟩;clear hrow Z ih hc;generalize Ih x.k x.i x.t x.l.length=b1 at*;generalize x.k=k at*;generalize x.i=i at*;generalize x.t=t at*;generalize hn:x.l.length=n at*;go_in
 go_wp2_with fail
 refine(C1.out _<|ZZ.out.below<|(AR _ w).alloc lr _).mono ?_;rintro e w1 ⟨rfl,hb⟩;have BB:=AC<|((AR w.heap.size w).alloc lr _).trans<|hb.mono zw;have BL:=AC<|TY (AO.new w #[zo k,zo i,.string t,.slice p n c] 46) hb;obtain⟨z2,z3,z4⟩:=AJ (ZZ.out.below BB.out).c2<|AJ (ZZ.out.below BB.out).c3 (ZZ.out.below BB.out).c4;obtain⟨c0,c1,c2,c3,sf⟩:=BL.out.four;have CF:AF ((d<3\/n=0)->Calls prog 174 #[.slice p n c,.func (.func 137) #[.int .i64<|(d:Int)+1] #[]] w1 (FT a (EU (BR<|d+1) x.l) w1)):=⟨fun h=>by
  subst hn;have Na:=BB.out.size;refine Zjp (B:=B) Zn5 (HR.out.carry fun _ _ _ q=>q.carry (Bq BB.out hB) (Ny D)) zx fun u vs y hy hu hS=>?_;rcases h with h | h
  ·exact IH.out h ((ZZ.out.below BB.out).below hu) (by have:=hu.size;omega) hS
  ·rw[XL.out h]at hy;cases hy⟩
 clear hb ZZ HR IH XL;cases b1 with
 | false=>
  have W2:AF (BR d x=2):=⟨OW.out.1<|Or.inl rfl⟩;clear OW FN CF;go_wp2_with fail
  all_goals (go_ret;exact⟨by rw[W2.out];rfl,BB.out⟩)
 | true=>
  have W1:AF (0<d->k=1->BR d x=2):=⟨fun h h'=>OW.out.1 (Or.inr ⟨h',h⟩)⟩;have W2:=AC<|OW.out.2 rfl;have F2:=AC<|FN.out rfl;clear OW FN;have g3:(d<3/\((d:Int)==3)=false)\/(3<=d/\((d:Int)==3)=true):=by
   rcases Qp d 3 with h | h
   ·exact Or.inl ⟨h,by rw[BJ];omega⟩
   ·exact Or.inr ⟨h,by rw[DR];omega⟩
  rcases g3 with⟨h3,g3⟩ | ⟨h3,g3⟩;all_goals
   go_wp2_with (go_at_call 174;refine(CF.out ?_).mono ?_;rotate_left;rintro e w2 ⟨rfl,hb2⟩)
   all_goals first
    | (go_ret;exact⟨by rw[W1.out zx zx];rfl,BB.out⟩)
    | (go_ret;exact⟨by rw[(W2.out zx).1 zx];rfl,BB.out⟩)
    | (go_ret;exact⟨by rw[((W2.out zx).2 zx zx).1 zx];rfl,BB.out⟩)
    | (go_ret;exact⟨by rw[((W2.out zx).2 zx zx).2 zx];rfl,BB.out.trans<|hb2.mono BB.out.size⟩)
    | (have:=F2.out;omega)
def Zsb (V:D9)(a:Nat->Addr): ∀ d,d<=3->gI a d:=by
 have h3:gI a 3:=vR V zx fun h=>absurd h zx;have h2:gI a 2:=vR V zx fun _=> @h3;have h1:gI a 1:=vR V zx fun _=> @h2;have h0:gI a 0:=vR V zx fun _=> @h1;intro d hd;match d,hd with
 | 0,_=>exact @h0
 | 1,_=>exact @h1
 | 2,_=>exact @h2
 | 3,_=>exact @h3
end Go.P
namespace Go.W
variable {q:Nat}
def Z17 {α:Type}(f:α->Bool){l:List α}(h:q<l.length):(l.drop q).any f=(f l[q] || (l.drop<|q+1).any f):=by
 rw[List.drop_eq_getElem_cons h,List.any_cons]
def Ybm {α:Type}(f:α->Bool){l:List α}(h:q<l.length):(l.drop q).all f=(f l[q] && (l.drop<|q+1).all f):=by
 rw[List.drop_eq_getElem_cons h,List.all_cons]
def Yd4 {α:Type} (w:World) (f:α->Bool) (l:List α) (iv:Value) (wr:World):Prop:= ∃ q:Nat,q<=l.length/\iv= zo q/\(l.drop q).any f=l.any f/\Bl w wr
def Yhd {α:Type} (w:World) (f:α->Bool) (l:List α) (iv:Value) (wr:World):Prop:= ∃ q:Nat,q<=l.length/\iv= zo q/\(l.drop q).all f=l.all f/\Bl w wr
def ae (s:ByteArray) (x:T):Bool:=Z9e x && decide (x.t=s)
def ja (body:List A) (s:ByteArray):Bool:=body.any fun a=>a.terms.any (ae s)
def rX (body:List A) (t:T):Bool:= !Z9e t || ja body t.t
def Yfl (body:List A)(t:T):rX body t=(!decide (t.k=1) || ja body t.t):=rfl
def Z71 (l:List T)(body:List A):ET l body=l.all (rX body):=rfl
end Go.W
namespace Go.P
variable {B D c:Nat}{w:World}{p:Option Addr}
def Zqv {xs:List A}(s:ByteArray)(hrow:Ap 2 (Ep B w<|D+1) p xs)(hB:B<=w.heap.size):
  Calls prog 138 #[.slice p xs.length c,.string s] w fun e w'=>e= .returned (.bool<|ja xs s)/\Bl w w':=by
 have hl:=hrow.len;have HR:=AC hrow;clear hrow;have F:AF (ja xs s=xs.any fun a=>a.terms.any (ae s)):=⟨rfl⟩;generalize ja xs s=ans at*;go_in
 go_wp2
 go_loopw [11] (fun iv wr=>Yd4 w (fun a=>a.terms.any (ae s)) xs iv wr) (fun iv _=>xs.length-(intOf iv).toNat)
 case atStart=>exact⟨0,zx,rfl,rfl,AR _ _⟩
 case round=>
  obtain⟨q,hq,rfl,hall,Af⟩:=hrel;have AL:=AC hall;have HB:=AC Af;by_cases hlt:q<xs.length
  ·have FD:=AC<|Z17 (fun a:A=>a.terms.any (ae s)) hlt;obtain⟨b1,o1,rfl,hx⟩:=HR.out.get q hlt;obtain⟨hb1,p1,c1,k0,k1,hS⟩:=(hx.carry (Bq Af hB) lr).vals;have hsz:=Af.size;have BB:=AC<|Af.alloc hsz<|.cells #[.string xs[q].name,.slice p1 xs[q].terms.length c1] 41;obtain⟨p2,c2,he,_,_,hr⟩:=hS.carry<|Qk (.cells #[.string xs[q].name,.slice p1 xs[q].terms.length c1] 41) zx;simp only[List.cons.injEq,Value.slice.injEq,and_true,true_and]at he;obtain⟨rfl,rfl⟩:=he;have hl2:=hr.len;have Ao:=AC hr;clear hall Af hx hr;generalize xs[q].terms=ts at*;rename World=>wo
   go_wp2
   go_loopw [18] (fun iv wr=>Yd4 (wo.alloc<|.cells #[.string xs[q].name,.slice p1 ts.length c1] 41) (ae s) ts iv wr) (fun iv _=>ts.length-(intOf iv).toNat)
   case atStart=>exact⟨0,zx,rfl,rfl,AR _ _⟩
   case round=>
    obtain⟨k,hk,rfl,hall,Af⟩:=hrel;have AL2:=AC hall;have HW:=AC Af;have Ey:=tr BB Af;by_cases hkt:k<ts.length
    ·have FD2:=AC<|Z17 (ae s) hkt;have VI:AF (ae s ts[k]=(decide (ts[k].k=1) && decide (ts[k].t=s))):=⟨rfl⟩;obtain⟨b3,o3,rfl,hx⟩:=Ao.out.get k hkt;obtain⟨hb3,p3,c3,y0,y1,y2,y3,_⟩:=(hx.carry (Bq Af (by simp;omega)) lr).vals;have tb:=vo ts[k].t s;generalize ts[k].k=kk at*;generalize ts[k].t=kt at*;generalize ae s ts[k]=vi at*;clear hall Af hx;go_wp2_with fail
     all_goals first
      | (go_ret;exact⟨Ns (by rw[F.out,<- AL.out,FD.out,<- AL2.out,FD2.out,VI.out];simp_all),Ey.out.alloc Ey.out.size _⟩)
      | (go_roundw
         case rel=>exact⟨k+1,zx,by go_num,by rw[<- AL2.out,FD2.out,VI.out];simp_all,HW.out.alloc HW.out.size _⟩
         case measure=>simp[intOf];omega)
    ·obtain rfl:k=ts.length:=zx
     go_wp2
     go_roundw
     case rel=>exact⟨q+1,zx,by go_num,by rw[<- AL.out,FD.out,<- AL2.out,List.drop_length];rfl,Ey.out⟩
     case measure=>simp[intOf];omega
  ·obtain rfl:q=xs.length:=zx
   go_wp2
   go_ret
   exact⟨Ns (by rw[F.out,<- AL.out,List.drop_length];rfl),HB.out⟩
def gN {xs:List T}{p':Option Addr}{ys:List A}{c':Nat}(hrow:Ap 4 (He B w<|D+1) p xs)(hrow':Ap 2 (Ep B w<|D+1) p' ys)(hB:B<=w.heap.size):
  Calls prog 93 #[.slice p xs.length c,.slice p' ys.length c'] w fun e w'=>e= .returned (.bool<|ET xs ys)/\Bl w w':=by
 have hl:=hrow.len;have HR:=AC hrow;have HR':=AC hrow';clear hrow hrow';have F:=AC<|Z71 xs ys;generalize ET xs ys=ans at*;go_in
 go_wp2
 go_loopw [9] (fun iv wr=>Yhd w (rX ys) xs iv wr) (fun iv _=>xs.length-(intOf iv).toNat)
 case atStart=>exact⟨0,zx,rfl,rfl,AR _ _⟩
 case round=>
  obtain⟨q,hq,rfl,hall,Af⟩:=hrel;have AL:=AC hall;have HB:=AC Af;by_cases hlt:q<xs.length
  ·have FD:=AC<|Ybm (rX ys) hlt;have VI:=AC<|Yfl ys xs[q];obtain⟨b1,o1,rfl,hx⟩:=HR.out.get q hlt;obtain⟨hb1,p1,c1,y0,y1,y2,y3,_⟩:=(hx.carry (Bq Af hB) lr).vals;have hsz:=Af.size;have CH:=AC fun u (hu:Bl w u)=>Zqv (c:=c') xs[q].t (HR'.out.carry fun _ _ _ r=>r.carry (Bq hu hB) lr) (Ab hB hu.size);generalize ja ys xs[q].t=hv at*;generalize rX ys xs[q]=iv at*;generalize xs[q].k=kk at*;clear hall Af hx;go_wp2_with (go_at_call 138;refine(CH.out _<|HB.out.alloc HB.out.size _).mono ?_;rintro e w1 ⟨rfl,hb⟩)
   all_goals first
    | (go_ret;exact⟨Ns (by rw[F.out,<- AL.out,FD.out,VI.out];simp_all),(HB.out.alloc HB.out.size _).trans<|hb.mono (by simp;omega)⟩)
    | (go_roundw
       case rel=>first | exact⟨q+1,zx,by go_num,by rw[<- AL.out,FD.out,VI.out];simp_all,(HB.out.alloc HB.out.size _).trans<|hb.mono (by simp;omega)⟩ | exact⟨q+1,zx,by go_num,by rw[<- AL.out,FD.out,VI.out];simp_all,HB.out.alloc HB.out.size _⟩
       case measure=>simp[intOf];omega)
  ·obtain rfl:q=xs.length:=zx
   go_wp2
   go_ret
   exact⟨Ns (by rw[F.out,<- AL.out,List.drop_length];rfl),HB.out⟩
end Go.P
namespace Go.P
variable {a:Nat->Addr}{B D:Nat}{w:World}{vs:List Value}{x:A}
def Ziv (V:D9)(Z:AZ a w)(hB:B<=w.heap.size)(hS:Jz B w D vs x):
  Calls prog 92 #[.agg vs.toArray] w (FT a (FH x) w):=by
 obtain⟨p,c,rfl,ht,hc,hrow⟩:=hS;have F:AF (FH x=if IR x.name=false then 2 else Ei (BR 0) 6 x.terms):=⟨rfl⟩;have C1:=AC fun u=>Zni x.name u ht;have C2:=AC (fun u (hu:Bl w u)=>Zr8 (c:=c) (m:=6) (B:=B) Zn5 (first:=#[zo 0]) (cap:=#[]) (f:=BR 0) (Z.below hu) (hrow.carry fun _ _ _ r=>r.carry (Bq hu hB) lr) (Ab hB hu.size) fun u2 vs y hy Gm hS=>Zsb V a 0 zx ((Z.below hu).below Gm) (Ab hB<|Ab hu.size Gm.size) hS);have ZZ:=AC Z;have hl:=hrow.len;clear hrow Z hc;generalize FH x=ans at*;generalize IR x.name=b1 at*;go_in
 go_wp2_with fail
 refine(C1.out _).mono ?_;rintro e w1 ⟨rfl,hb⟩;have BB:=AC<|((AR w.heap.size w).alloc lr _).trans<|hb.mono zw;obtain⟨c0,c1,sf⟩:=(TY (AO.new w #[.string x.name,.slice p x.terms.length c] 41) hb).two;have z2:=(ZZ.out.below BB.out).c2;clear hb;cases b1 with
 | false=>
  go_wp2
  go_ret
  exact⟨by rw[F.out];rfl,BB.out⟩
 | true=>
  go_wp2_with fail
  refine(C2.out _ BB.out).mono ?_;rintro e w2 ⟨rfl,hb⟩;go_wp2
  go_ret
  exact⟨by rw[F.out];rfl,BB.out.trans<|hb.mono BB.out.size⟩
def Zwi (V:D9)(Z:AZ a w)(hB:B<=w.heap.size)(hS:Jz B w D vs x):
  Calls prog 52 #[.agg vs.toArray] w (FT a (Ul x) w):=by
 have C1:=AC fun u (hu:Bl w u)=>Ziv V (Z.below hu) (Ab hB hu.size) (Jz.carry hS<|Bq hu hB);obtain⟨p,c,rfl,ht,hc,hrow⟩:=hS;have F:AF (Ul x=if FH x≠0 then FH x else if ET x.terms []=false then 5 else 0):=⟨rfl⟩;have C2:=AC fun u (hu:Bl w u)=>gN (c:=c) (p':=none) (ys:=[]) (c':=0) (B:=B) (hrow.carry fun _ _ _ r=>r.carry (Bq hu hB) lr) ⟨zw,fun i x h=>by simp at h⟩ (Ab hB hu.size);have ZZ:=AC Z;clear hrow Z hc;generalize Ul x=ans at*;generalize FH x=n1 at*;generalize ET x.terms []=b1 at*;go_in
 go_wp2_with fail
 refine(C1.out _<|(AR w.heap.size w).alloc lr _).mono ?_;rintro e w1 ⟨rfl,hb⟩;have BB:=AC<|((AR w.heap.size w).alloc lr _).trans<|hb.mono zw;obtain⟨c0,c1,sf⟩:=(TY (AO.new w #[.string x.name,.slice p x.terms.length c] 41) hb).two;clear hb;by_cases hn:n1=0
 ·rw[hn,JR];go_wp2_with fail
  refine(C2.out _ BB.out).mono ?_;rintro e w2 ⟨rfl,hb⟩;have z5:=(ZZ.out.below (tr BB hb).out).c5;cases b1;all_goals
   go_wp2
   go_ret
   exact⟨by rw[F.out,if_neg zx];rfl,BB.out.trans<|hb.mono BB.out.size⟩
 ·rw[BU _ hn];go_wp2
  go_ret
  exact⟨by rw[F.out,if_pos hn,BU _ hn];rfl,BB.out⟩
def Ed.at_ {B':Nat}{x:T}{b o:Nat}(h:Ed B w D vs x)(hB:B<=B')(hb:b<B')(hc: ∀ j,j<4->w.cell? (zm b (o+j))=vs[j]?):He B' w (D+1) b o x:=by
 obtain⟨p,c,rfl,ht,hk,hi,hl,hr⟩:=h;exact⟨hb,_,hc 0 zx,hc 1 zx,hc 2 zx,hc 3 zx,rfl,rfl,rfl,hk,hi,ht,p,c,rfl,hl,hr.carry fun _ _ _ q=>q.carry (EG.up hB) lr⟩
def Zs5 (V:D9){x:G}{p':Option Addr}{ys:List A}{c':Nat}(Z:AZ a w)(hB:B<=w.heap.size)(hS:TQ B w D vs x)(hrow':Ap 2 (Ep B w<|D+1) p' ys):
  Calls prog 141 #[.agg vs.toArray,.slice p' ys.length c'] w (FT a (QE ys x) w):=by
 obtain⟨va,vb,rfl,ho,ha,hb⟩:=hS;have C1:=AC fun u (hu:Bl w u)=>Zsb V a 0 zx (Z.below hu) (Ab hB hu.size) (Ed.carry ha<|Bq hu hB);have C2:=AC fun u (hu:Bl w u)=>Zsb V a 0 zx (Z.below hu) (Ab hB hu.size) (Ed.carry hb<|Bq hu hB);have D1:=AC fun u (hu:Bl w u) t e (hk:w.heap.size<=t) (hL:AO u t va.toArray e)=>gN (p:=some (zm t 0)) (xs:=[x.a]) (c:=1) (c':=c') (B:=u.heap.size) ⟨zw,fun i y h=>by
  obtain⟨rfl,rfl⟩:i=0/\x.a=y:=by
   match i,h with
   | 0,h=>exact⟨rfl,by simpa using h⟩
  exact⟨t,0,rfl,Ed.at_ (Ed.carry ha<|Bq hu hB) (Ab hB hu.size) hL.lt fun j _=>by rw[YC,Qs,Gx,hL.cell];simp⟩⟩ (hrow'.carry fun _ _ _ r=>(r.carry (Bq hu hB) lr).carry (EG.up<|Ab hB hu.size) lr) lr
 have D2:=AC fun u (hu:Bl w u) t e (hk:w.heap.size<=t) (hL:AO u t vb.toArray e)=>gN (p:=some (zm t 0)) (xs:=[x.b]) (c:=1) (c':=c') (B:=u.heap.size) ⟨zw,fun i y h=>by
  obtain⟨rfl,rfl⟩:i=0/\x.b=y:=by
   match i,h with
   | 0,h=>exact⟨rfl,by simpa using h⟩
  exact⟨t,0,rfl,Ed.at_ (Ed.carry hb<|Bq hu hB) (Ab hB hu.size) hL.lt fun j _=>by rw[YC,Qs,Gx,hL.cell];simp⟩⟩ (hrow'.carry fun _ _ _ r=>(r.carry (Bq hu hB) lr).carry (EG.up<|Ab hB hu.size) lr) lr
 obtain⟨p1,c1,rfl,_⟩:=ha;obtain⟨p2,c2,rfl,_⟩:=hb;have hl':=hrow'.len;have ZZ:=AC Z;clear hrow' Z;have F:AF (QE ys x=if x.op<1\/7<x.op then 2 else if PI ys x.a≠0 then PI ys x.a else PI ys x.b):=⟨rfl⟩;have F1:AF (PI ys x.a=if BR 0 x.a≠0 then BR 0 x.a else if ET [x.a] ys=false then 5 else 0):=⟨rfl⟩;have F2:AF (PI ys x.b=if BR 0 x.b≠0 then BR 0 x.b else if ET [x.b] ys=false then 5 else 0):=⟨rfl⟩;generalize QE ys x=ans at*;generalize x.op=op at*;have i0: ∀ w,(Instr.index 276 (.agg #[zo x.a.k,zo x.a.i,.string x.a.t,.slice p1 x.a.l.length c1,zo x.b.k,zo x.b.i,.string x.b.t,.slice p2 x.b.l.length c2])<|zo 0).run prog w= .ok (.agg #[zo x.a.k,zo x.a.i,.string x.a.t,.slice p1 x.a.l.length c1]) w:=fun _=>zt
 have i1: ∀ w,(Instr.index 276 (.agg #[zo x.a.k,zo x.a.i,.string x.a.t,.slice p1 x.a.l.length c1,zo x.b.k,zo x.b.i,.string x.b.t,.slice p2 x.b.l.length c2])<|zo 1).run prog w= .ok (.agg #[zo x.b.k,zo x.b.i,.string x.b.t,.slice p2 x.b.l.length c2]) w:=fun _=>zt
 have z2:=fun o=>Cb ZZ.out.c2 ((AR _ w).alloc lr o);by_cases hop:op<1\/7<op
 ·have F0:AF (ans=2):=⟨by rw[F.out,if_pos hop]⟩;clear F F1 F2 C1 C2 D1 D2;go_in
  rcases hop with h | h
  ·go_wp2
   go_ret
   exact⟨by rw[F0.out];rfl,(AR w.heap.size w).alloc lr _⟩
  ·have h': ¬ op<1:=zx
   go_wp2
   go_ret
   exact⟨by rw[F0.out];rfl,(AR w.heap.size w).alloc lr _⟩
 have F0:AF (ans=if PI ys x.a≠0 then PI ys x.a else PI ys x.b):=⟨by rw[F.out,if_neg hop]⟩;have h1: ¬ op<1:=zx
 have h2: ¬ 7<op:=zx
 clear F hop z2;generalize BR 0 x.a=na at*;generalize BR 0 x.b=nb at*;generalize ET [x.a] ys=ba at*;generalize ET [x.b] ys=bb at*;generalize PI ys x.a=sa at*;generalize PI ys x.b=sb at*;have B0:=AC<|(AR w.heap.size w).alloc lr<|.cells #[zo op,zo x.a.k,zo x.a.i,.string x.a.t,.slice p1 x.a.l.length c1,zo x.b.k,zo x.b.i,.string x.b.t,.slice p2 x.b.l.length c2] 48;go_in
 go_wp2
 refine YA 3 ?_;rw[Tt];go_wp2_with fail
 refine(C1.out _<|B0.out.alloc B0.out.size _).mono ?_;rintro e w1 ⟨rfl,hb⟩;have B1:=AC<|(B0.out.alloc B0.out.size _).trans<|hb.mono (by simp;omega);have L1:=AC<|TY (AO.new _ #[zo x.a.k,zo x.a.i,.string x.a.t,.slice p1 x.a.l.length c1] 46) hb;obtain⟨y0,y1,y2,y3,sf⟩:=L1.out.four;simp only[EV]at y0 y1 y2 y3 sf;have hs1:=B1.out.size;clear hb;by_cases nK:na=0
 ·have F3:AF (sa=if ba=false then 5 else 0):=⟨by rw[F1.out,if_neg zx]⟩;clear F1;rw[nK,JR];go_wp2_with fail
  refine(D1.out _ (B1.out.alloc hs1 _) _ _ hs1<|AO.new w1 _ _).mono ?_;rintro e w2 ⟨rfl,hb⟩;have B2:=AC<|(B1.out.alloc hs1 _).trans<|hb.mono (by simp;omega);have z5:=(ZZ.out.below B2.out).c5;have hs2:=B2.out.size;clear hb y0 y1 y2 y3 sf;cases ba with
  | false=>
   have F4:AF (ans=5):=⟨by rw[F0.out,F3.out];rfl⟩;go_wp2
   go_ret
   exact⟨by rw[F4.out];rfl,B2.out⟩
  | true=>
   have F4:AF (ans=sb):=⟨by rw[F0.out,F3.out];rfl⟩;clear F0 F3 C1 D1 z5;go_wp2_with fail
   rw[Tt];go_wp2_with fail
   refine(C2.out _<|B2.out.alloc hs2 _).mono ?_;rintro e w3 ⟨rfl,hb⟩;have B3:=AC<|(B2.out.alloc hs2 _).trans<|hb.mono (by simp;omega);obtain⟨y0,y1,y2,y3,sf⟩:=(TY (AO.new _ #[zo x.b.k,zo x.b.i,.string x.b.t,.slice p2 x.b.l.length c2] 46) hb).four;have hs3:=B3.out.size;clear hb;by_cases RI:nb=0
   ·have F5:AF (sb=if bb=false then 5 else 0):=⟨by rw[F2.out,if_neg zx]⟩;clear F2;rw[RI,JR];go_wp2_with fail
    refine(D2.out _ (B3.out.alloc hs3 _) _ _ hs3<|AO.new w3 _ _).mono ?_;rintro e w4 ⟨rfl,hb⟩;have B4:=AC<|(B3.out.alloc hs3 _).trans<|hb.mono (by simp;omega);have z5:=(ZZ.out.below B4.out).c5;clear hb y0 y1 y2 y3 sf;cases bb with
    | false=>
     go_wp2
     go_ret
     exact⟨by rw[F4.out,F5.out];rfl,B4.out⟩
    | true=>
     go_wp2_with fail
     rw[Tt];go_wp2
     go_ret
     exact⟨by rw[F4.out,F5.out];rfl,B4.out⟩
   ·have F3:AF (ans=nb):=⟨by rw[F4.out,F2.out,if_pos RI]⟩;rw[BU _ RI];go_wp2
    go_ret
    exact⟨by rw[F3.out,BU _ RI];rfl,B3.out⟩
 ·have F3:AF (ans=na):=⟨by rw[F0.out,F1.out,if_pos nK,if_pos nK]⟩;rw[BU _ nK];go_wp2
  go_ret
  exact⟨by rw[F3.out,BU _ nK];rfl,B1.out⟩
end Go.P
namespace Go.P
variable {a:Nat->Addr}{B D:Nat}{w:World}{vs:List Value}{x:R}
def Z0e:Da 92:=EH func92 zt rfl
def Z0g:Da 52:=EH func52 zt rfl
def Z0h:Da 54:=EH func54 zt rfl
def Z0f:Da 142:=EH func142 zt rfl
def Zxm:Da 56:=EH func56 zt rfl
def Zxl:Da 140:=EH func140 zt rfl
def Zs3 (V:D9){x:G}{p':Option Addr}{ys:List A}{c' b:Nat}(Z:AZ a w)(hB:B<=w.heap.size)(hS:TQ B w D vs x)(hrow':Ap 2 (Ep B w<|D+1) p' ys)(hc:w.cell? (zm b 2)=some (.slice p' ys.length c')):
  Calls prog 140 #[.agg vs.toArray,zq b 0] w (FT a (QE ys x) w):=by
 have C1:=AC fun u (hu:Bl w u)=>Zs5 V (c':=c') (Z.below hu) (Ab hB hu.size) (TQ.carry hS<|Bq hu hB) (hrow'.carry fun _ _ _ r=>r.carry (Bq hu hB) lr);have c2:=fun o=>Cb hc ((AR _ w).alloc lr o);obtain⟨va,vb,rfl,_,⟨p1,c1,rfl,_⟩,p2,c3,rfl,_⟩:=hS;clear Z hrow';go_in
 go_wp2_with fail
 refine(C1.out _<|(AR w.heap.size w).alloc lr _).mono ?_;rintro e w1 ⟨rfl,hb⟩;go_wp2_with fail
 go_ret
 exact⟨rfl,((AR w.heap.size w).alloc lr _).trans<|hb.mono zw⟩
def Zmw (V:D9)(Z:AZ a w)(hB:B<=w.heap.size)(hS:Jy B w D vs x):
  Calls prog 95 #[.agg vs.toArray] w (FT a (JQ x) w):=by
 obtain⟨va,p1,c1,p2,c2,rfl,⟨p0,c0,rfl,_⟩,_,hr1,_,hr2⟩:=hS;have GU:=hr1.len;have hl2:=hr2.len;have F:AF (JQ x=if x.body.length=0/\x.guards.length=0 then 2 else if 4<x.body.length\/4<x.guards.length then 4 else if EU FH x.body≠0 then EU FH x.body else EU (QE x.body) x.guards):=⟨rfl⟩;have C1:=AC (fun u (hu:Bl w u)=>Zjo (a:=a) (c:=c1) (B:=B) Z0e (first:=#[]) (cap:=#[]) (f:=FH) (hr1.carry fun _ _ _ r=>r.carry (Bq hu hB) lr) (Ab hB hu.size) fun u2 vs y hy Gm hS=>Ziv V ((Z.below hu).below Gm) (Ab hB<|Ab hu.size Gm.size) hS);have C2:=AC (fun u (hu:Bl w u) b (hc:u.cell? (zm b 2)=some (.slice p1 x.body.length c1))=>Zo8 (a:=a) (c:=c2) (B:=B) Zxl (first:=#[]) (cap:=#[zq b 0]) (f:=QE x.body) (hr2.carry fun _ _ _ r=>r.carry (Bq hu hB) lr) (Ab hB hu.size) fun u2 vs y hy Gm hS=>Zs3 V (c':=c1) ((Z.below hu).below Gm) (Ab hB<|Ab hu.size Gm.size) hS (hr1.carry fun _ _ _ r=>(r.carry (Bq hu hB) lr).carry (Bq Gm<|Ab hB hu.size) lr) (Cb hc Gm));have z2:=fun o=>Cb Z.c2 ((AR _ w).alloc lr o);have z4:=fun o=>Cb Z.c4 ((AR _ w).alloc lr o);have Ho: ∀ (fn:Fn) (first cap:Array Value) (w:World),(Instr.makeFunc fn first cap).run prog w= .ok (.func fn first cap) w:=fun _ _ _ _=>rfl;have B0:=AC<|(AR w.heap.size w).alloc lr<|.cells #[.string x.head.name,.slice p0 x.head.terms.length c0,.slice p1 x.body.length c1,.slice p2 x.guards.length c2] 44;clear hr1 hr2 Z;generalize JQ x=ans at*;generalize EU FH x.body=n1 at*;generalize EU (QE x.body) x.guards=n2 at*;generalize x.body.length=l1 at*;generalize x.guards.length=l2 at*;have W:(((l1:Int)==0)=true/\((l2:Int)==0)=true/\ans=2)\/(((l1:Int)==0)=true/\((l2:Int)==0)=false/\decide ((4:Int)<l1)=false/\(4:Int)<l2/\ans=4)\/(((l1:Int)==0)=false/\(4:Int)<l1/\ans=4)\/(((l1:Int)==0)=false/\decide ((4:Int)<l1)=false/\(4:Int)<l2/\ans=4)
   \/(((l1:Int)==0)=true/\((l2:Int)==0)=false/\decide ((4:Int)<l1)=false/\decide ((4:Int)<l2)=false/\(n1≠0->ans=n1)/\(n1=0->ans=n2))\/(((l1:Int)==0)=false/\decide ((4:Int)<l1)=false/\decide ((4:Int)<l2)=false/\(n1≠0->ans=n1)/\(n1=0->ans=n2)):=by
  simp only[DR,BJ,decide_eq_false_iff_not];have f2:(l1=0/\l2=0)->ans=2:=fun h=>by rw[F.out,if_pos h]
  have f4: ¬ (l1=0/\l2=0)->(4<l1\/4<l2)->ans=4:=fun h h'=>by rw[F.out,if_neg h,if_pos h']
  have f0: ¬ (l1=0/\l2=0)-> ¬ (4<l1\/4<l2)->(n1≠0->ans=n1)/\(n1=0->ans=n2):=fun h h'=>by rw[F.out,if_neg h,if_neg h'];exact⟨fun q=>if_pos q,fun q=>if_neg zx⟩
  by_cases a1:l1=0
  ·by_cases a2:l2=0
   ·exact Or.inl ⟨zx,zx,f2 ⟨a1,a2⟩⟩
   ·by_cases a3:4<l2
    ·exact Or.inr<|Or.inl ⟨zx,zx,zx,zx,f4 zx zx⟩
    ·exact Or.inr<|Or.inr<|Or.inr<|Or.inr<|Or.inl ⟨zx,zx,zx,zx,f0 zx zx⟩
  ·by_cases a2:4<l1
   ·exact Or.inr<|Or.inr<|Or.inl ⟨zx,zx,f4 zx zx⟩
   ·by_cases a3:4<l2
    ·exact Or.inr<|Or.inr<|Or.inr<|Or.inl ⟨zx,zx,zx,f4 zx zx⟩
    ·exact Or.inr<|Or.inr<|Or.inr<|Or.inr<|Or.inr ⟨zx,zx,zx,f0 zx zx⟩
 clear F;go_in
 rcases W with⟨g1,g2,r⟩ | ⟨g1,g2,g3,g4,r⟩ | ⟨g1,g2,r⟩ | ⟨g1,g2,g3,r⟩ | ⟨g1,g2,g3,g4,r⟩ | ⟨g1,g2,g3,r⟩;iterate 4
  have R:=AC r;clear r C1 C2;go_wp2_with fail
  go_ret
  exact⟨by rw[R.out];rfl,B0.out⟩
 all_goals
  have R:=AC r;clear r z2 z4;go_wp2_with fail
  refine(C1.out _ B0.out).mono ?_;rintro e w1 ⟨rfl,hb⟩;have B1:=tr B0 hb;obtain⟨y0,y1,y2,y3,sf⟩:=(TY (AO.new w #[.string x.head.name,.slice p0 x.head.terms.length c0,.slice p1 l1 c1,.slice p2 l2 c2] 44) hb).four;have CC:=AC<|C2.out _ B1.out _ y2;clear hb C1 C2;by_cases hn:n1=0
  ·rw[hn,JR];go_wp2_with fail
   refine mq CC.out ?_;rintro w2 hb;go_wp2_with fail
   go_ret
   exact⟨by rw[R.out.2 hn];rfl,B1.out.trans<|hb.mono B1.out.size⟩
  ·rw[BU _ hn];go_wp2_with fail
   go_ret
   exact⟨by rw[R.out.1 hn,BU _ hn];rfl,B1.out⟩
def Zwj (V:D9)(Z:AZ a w)(hB:B<=w.heap.size)(hS:Jy B w D vs x):
  Calls prog 54 #[.agg vs.toArray] w (FT a (TZ x) w):=by
 have C2:=AC fun u (hu:Bl w u)=>Zmw V (Z.below hu) (Ab hB hu.size) (Jy.carry hS<|Bq hu hB);obtain⟨va,p1,c1,p2,c2,rfl,hA,_,hr1,_,hr2⟩:=hS;have C1:=AC fun u (hu:Bl w u)=>Ziv V (Z.below hu) (Ab hB hu.size) (Jz.carry hA<|Bq hu hB);obtain⟨p0,c0,rfl,_,_,Jo⟩:=hA;have C3:=AC fun u (hu:Bl w u)=>gN (c:=c0) (c':=c1) (B:=B) (Jo.carry fun _ _ _ r=>r.carry (Bq hu hB) lr) (hr1.carry fun _ _ _ r=>r.carry (Bq hu hB) lr) (Ab hB hu.size);have F:AF (TZ x=if FH x.head≠0 then FH x.head else if JQ x≠0 then JQ x else if ET x.head.terms x.body=false then 5 else 0):=⟨rfl⟩;have ZZ:=AC Z;have B0:=AC<|(AR w.heap.size w).alloc lr<|.cells #[.string x.head.name,.slice p0 x.head.terms.length c0,.slice p1 x.body.length c1,.slice p2 x.guards.length c2] 44;clear Jo hr1 hr2 Z;generalize TZ x=ans at*;generalize FH x.head=n1 at*;generalize JQ x=n2 at*;generalize ET x.head.terms x.body=b3 at*;go_in
 go_wp2_with fail
 refine(C1.out _ B0.out).mono ?_;rintro e w1 ⟨rfl,hb⟩;have B1:=tr B0 hb;have L1:=AC<|TY (AO.new w #[.string x.head.name,.slice p0 x.head.terms.length c0,.slice p1 x.body.length c1,.slice p2 x.guards.length c2] 44) hb;clear hb;by_cases hn:n1=0
 ·obtain⟨y0,y1,y2,y3,sf⟩:=L1.out.four;rw[hn,JR];go_wp2_with fail
  refine(C2.out _ B1.out).mono ?_;rintro e w2 ⟨rfl,hb⟩;have B2:=tr B1 hb;have L2:=AC<|TY L1.out hb;clear y0 y1 y2 y3 sf hb;by_cases Hl:n2=0
  ·obtain⟨y0,y1,y2,y3,sf⟩:=L2.out.four;rw[Hl,JR];go_wp2_with fail
   refine(C3.out _ B2.out).mono ?_;rintro e w3 ⟨rfl,hb⟩;have B3:=tr B2 hb;have z5:=(ZZ.out.below B3.out).c5;clear y0 y1 y2 y3 sf hb;cases b3;all_goals
    go_wp2_with fail
    go_ret
    exact⟨by rw[F.out,if_neg zx,if_neg zx];rfl,B3.out⟩
  ·rw[BU _ Hl];go_wp2_with fail
   go_ret
   exact⟨by rw[F.out,if_neg zx,if_pos Hl,BU _ Hl];rfl,B2.out⟩
 ·rw[BU _ hn];go_wp2_with fail
  go_ret
  exact⟨by rw[F.out,if_pos hn,BU _ hn];rfl,B1.out⟩
end Go.P
