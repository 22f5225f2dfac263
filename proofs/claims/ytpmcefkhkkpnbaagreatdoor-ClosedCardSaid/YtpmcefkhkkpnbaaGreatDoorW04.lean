import Derived.Test.YtpmcefkhkkpnbaaGreatDoorW03
import Derived.Defers
import Derived.Recover
set_option linter.all false
set_option maxRecDepth 100000
set_option maxHeartbeats 8000000
open Go.Proofs Go.RowKit Go.W Tryz
namespace Go.W
def TY {w u:Bb}{L:Nat}{cs:Ca}{e:TypeId}(h:AO w L cs e)(hb:Bl w u):AO u L cs e:=h.of<|hb.block L h.lt
def Zn5:Da 160:=EH func160 zt rfl
def gI (a:Nat->Addr) (d:Nat):Prop:= ∀ {B D:Nat} {w:Bb} {vs:Bu} {x:T},AZ a w->B<=w.heap.size->Ed B w D vs x->Calls prog 160 #[zo (d:Int),.agg vs.toArray] w (FT a (BR d x) w)
def vR (V:D9){a:Nat->Addr}{d:Nat}(hd:d<=3)(ih:d<3->gI a (d+1)):gI a d:=by
 intro B D w vs x Z hB hS;obtain⟨p,c,rfl,ht,_,_,hc,hrow⟩:=hS;have OW:AF ((Ih x.k x.i x.t x.l.length=false\/x.k=1/\0<d->BR d x=2)/\(Ih x.k x.i x.t x.l.length=true->(x.k=1->d=0)->(64<x.t.size\/6<x.l.length->BR d x=4)/\(x.t.size<=64->x.l.length<=6->(x.k=7/\d=3->BR d x=3)/\(x.k≠7\/d≠3->BR d x=EU (BR<|d+1) x.l)))):=⟨by
  have key: ∀ r,Oc d x.k x.i x.t x.l.length=r->r≠0->BR d x=r:=fun r h h'=>by rw[qd,h,xj h']
  have no:Ih x.k x.i x.t x.l.length=true->(x.k=1->d=0)-> ¬ (Ih x.k x.i x.t x.l.length=false\/x.k=1/\0<d):=fun h h'=>by
   rintro(q | q)
   .rw[h]at q;cases q
   .omega
  refine⟨fun h=>key 2 (xj h) zu,fun h h'=>⟨fun h2=>key 4 ?_ zu,fun h2 h3=>⟨fun h4=>key 3 ?_ zu,fun h4=>?_⟩⟩⟩
  .unfold Oc;rw[xd<|no h h',xj h2]
  .unfold Oc;rw[xd<|no h h',xd zx,xj h4]
  .rw[qd,xd];unfold Oc;rw[xd<|no h h',xd zx,xd zx];decide⟩
 have C1:=AC fun u (hu:AZ a u)=>Z0m V hu x.k x.i x.t p x.l.length c ht;have FN:AF (Ih x.k x.i x.t x.l.length=true->x.k=7\/x.l.length=0):=⟨fun h=>by
  unfold Ih UX at h
  (repeat' split at h) <;> simp_all⟩
 have hl:=hrow.len;have ZZ:=AC Z;have HR:=AC hrow;have IH:=AC fun h=> @ih h;have XL:AF (∀ h:x.l.length=0,x.l=[]):=⟨M9⟩;clear hrow Z ih hc;generalize Ih x.k x.i x.t x.l.length=b1 at*;generalize x.k=k at*;generalize x.i=i at*;generalize x.t=t at*;generalize hn:x.l.length=n at*;go_in
 go_wp2_with fail
 apply(C1.o _<|ZZ.o.be<|(AR _ w).alloc lr _).mono;rintro e w1 ⟨rfl,hb⟩;have BB:=AC<|(zv w _).trans<|hb.mono zw;have BL:=AC<|TY (AO.new w #[zo k,zo i,um t,sP p n c] 95) hb;obtain⟨z2,z3,z4⟩:=AJ (ZZ.o.be BB.o).c2<|AJ (ZZ.o.be BB.o).c3 (ZZ.o.be BB.o).c4;obtain⟨c0,c1,c2,c3,sf⟩:=BL.o.four;have CF:AF ((d<3\/n=0)->Calls prog 220 #[sP p n c,.func (.func 160) #[.int .i64<|(d:Int)+1] #[]] w1 (FT a (EU (BR<|d+1) x.l) w1)):=⟨fun h=>by
  subst hn;have Na:=BB.o.size;refine Zjp (B:=B) Zn5 (HR.o.cy fun _ _ _ q=>q.cy (Bq BB.o hB) (Ny D)) zx fun u vs y hy hu hS=>?_;rcases h with h | h
  .exact IH.o h ((ZZ.o.be BB.o).be hu) (fw (hu.size)) hS
  .rw[XL.o h]at hy;cases hy⟩
 clear hb ZZ HR IH XL;cases b1 with
 | false=>
  have W2:AF (BR d x=2):=⟨OW.o.1<|Or.inl rfl⟩;clear OW FN CF;go_wp2_with fail
  all_goals (go_ret;exact⟨by rw[W2.o];rfl,BB.o⟩)
 | true=>
  have W1:AF (0<d->k=1->BR d x=2):=⟨fun h h'=>OW.o.1 (Or.inr ⟨h',h⟩)⟩;have W2:=AC<|OW.o.2 rfl;have F2:=AC<|FN.o rfl;clear OW FN;have g3:(d<3/\((d:Int)==3)=false)\/(3<=d/\((d:Int)==3)=true):=by
   rcases Qp d 3 with h | h
   .exact Or.inl ⟨h,zj⟩
   .exact Or.inr ⟨h,by rw[DR];omega⟩
  rcases g3 with⟨h3,g3⟩ | ⟨h3,g3⟩;all_goals
   go_wp2_with (go_at_call 220;refine(CF.o ?_).mono ?_;rotate_left;rintro e w2 ⟨rfl,hb2⟩)
   all_goals first
    | (go_ret;exact⟨by rw[W1.o zx zx];rfl,BB.o⟩)
    | (go_ret;exact⟨by rw[(W2.o zx).1 zx];rfl,BB.o⟩)
    | (go_ret;exact⟨by rw[((W2.o zx).2 zx zx).1 zx];rfl,BB.o⟩)
    | (go_ret;exact⟨by rw[((W2.o zx).2 zx zx).2 zx];rfl,BB.o.trans<|hb2.mono BB.o.size⟩)
    | (have:=F2.o;omega)
def Zsb (V:D9)(a:Nat->Addr): ∀ d,d<=3->gI a d:=by
 have h3:gI a 3:=vR V zx fun h=>absurd h zx;have h2:gI a 2:=vR V zx fun _=> @h3;have h1:gI a 1:=vR V zx fun _=> @h2;have h0:gI a 0:=vR V zx fun _=> @h1;intro d hd;match d,hd with
 | 0,_=>exact @h0
 | 1,_=>exact @h1
 | 2,_=>exact @h2
 | 3,_=>exact @h3
variable {q:Nat}
def Z17 {α:Type}(f:α->Bool){l:List α}(h:q<l.length):(l.drop q).any f=(f l[q] || (l.drop<|q+1).any f):=by
 rw[xH h,List.any_cons]
def Ybm {α:Type}(f:α->Bool){l:List α}(h:q<l.length):(l.drop q).all f=(f l[q] && (l.drop<|q+1).all f):=by
 rw[xH h,List.all_cons]
def Yd4 {α:Type} (w:Bb) (f:α->Bool) (l:List α) (iv:Value) (wr:Bb):Prop:= ∃ q:Nat,q<=l.length/\iv= zo q/\(l.drop q).any f=l.any f/\Bl w wr
def Yhd {α:Type} (w:Bb) (f:α->Bool) (l:List α) (iv:Value) (wr:Bb):Prop:= ∃ q:Nat,q<=l.length/\iv= zo q/\(l.drop q).all f=l.all f/\Bl w wr
def ae (s:Ay) (x:T):Bool:=Z9e x && decide (x.t=s)
def ja (body:List A) (s:Ay):Bool:=body.any fun a=>a.te.any (ae s)
def rX (body:List A) (t:T):Bool:= !Z9e t || ja body t.t
def Yfl (body:List A)(t:T):rX body t=(!decide (t.k=1) || ja body t.t):=rfl
def Z71 (l:List T)(body:List A):ET l body=l.all (rX body):=rfl
variable {B D c:Nat}{w:Bb}{p:Bp}
def Zqv {xs:List A}(s:Ay)(hrow:Ap 2 (Ep B w<|D+1) p xs)(hB:B<=w.heap.size):
  Calls prog 161 #[sP p xs.length c,um s] w fun e w'=>e=uY (.bool<|ja xs s)/\Bl w w':=by
 have hl:=hrow.len;have HR:=AC hrow;clear hrow;have F:AF (ja xs s=xs.any fun a=>a.te.any (ae s)):=⟨rfl⟩;generalize ja xs s=ans at*;go_in
 go_wp2
 go_loopw [11] (fun iv wr=>Yd4 w (fun a=>a.te.any (ae s)) xs iv wr) (fun iv _=>xs.length-(intOf iv).toNat)
 .exact⟨0,zx,rfl,rfl,AR _ _⟩
 .obtain⟨q,hq,rfl,hall,Af⟩:=hrel;have AL:=AC hall;have HB:=AC Af;by_cases hlt:q<xs.length
  .have FD:=AC<|Z17 (fun a:A=>a.te.any (ae s)) hlt;obtain⟨b1,o1,rfl,hx⟩:=HR.o.get q hlt;obtain⟨hb1,p1,c1,k0,k1,hS⟩:=(hx.cy (Bq Af hB) lr).vals;have hsz:=Af.size;have BB:=AC<|Af.alloc hsz<|.cells #[um xs[q].name,sP p1 xs[q].te.length c1] 64;obtain⟨p2,c2,he,_,_,hr⟩:=hS.cy<|Qk (.cells #[um xs[q].name,sP p1 xs[q].te.length c1] 64) zx;simp only[List.cons.injEq,Value.slice.injEq,and_true,true_and]at he;obtain⟨rfl,rfl⟩:=he;have hl2:=hr.len;have Ao:=AC hr;clear hall Af hx hr;generalize xs[q].te=ts at*;rename Bb=>wo
   go_wp2
   go_loopw [18] (fun iv wr=>Yd4 (wo.alloc<|.cells #[um xs[q].name,sP p1 ts.length c1] 64) (ae s) ts iv wr) (fun iv _=>ts.length-(intOf iv).toNat)
   .exact⟨0,zx,rfl,rfl,AR _ _⟩
   .obtain⟨k,hk,rfl,hall,Af⟩:=hrel;have AL2:=AC hall;have HW:=AC Af;have Ey:=tr BB Af;by_cases hkt:k<ts.length
    .have FD2:=AC<|Z17 (ae s) hkt;have VI:AF (ae s ts[k]=(decide (ts[k].k=1) && decide (ts[k].t=s))):=⟨rfl⟩;obtain⟨b3,o3,rfl,hx⟩:=Ao.o.get k hkt;obtain⟨hb3,p3,c3,y0,y1,y2,y3,_⟩:=(hx.cy (Bq Af zc) lr).vals;have tb:=vo ts[k].t s;generalize ts[k].k=kk at*;generalize ts[k].t=kt at*;generalize ae s ts[k]=vi at*;clear hall Af hx;go_wp2_with fail
     all_goals first
      | (go_ret;exact⟨Ns (by rw[F.o,<- AL.o,FD.o,<- AL2.o,FD2.o,VI.o];simp_all),Ey.o.alloc Ey.o.size _⟩)
      | (go_roundw
         case rel=>exact⟨k+1,zx,by go_num,by rw[<- AL2.o,FD2.o,VI.o];simp_all,HW.o.alloc HW.o.size _⟩
         case measure=>simp[intOf];omega)
    .obtain rfl:k=ts.length:=zx
     go_wp2
     go_roundw
     .exact⟨q+1,zx,by go_num,by rw[<- AL.o,FD.o,<- AL2.o,List.drop_length];rfl,Ey.o⟩
     simp[intOf];omega
  .obtain rfl:q=xs.length:=zx
   go_wp2
   go_ret
   exact⟨Ns (by rw[F.o,<- AL.o,List.drop_length];rfl),HB.o⟩
def gN {xs:List T}{p':Bp}{ys:List A}{c':Nat}(hrow:Ap 4 (He B w<|D+1) p xs)(hrow':Ap 2 (Ep B w<|D+1) p' ys)(hB:B<=w.heap.size):
  Calls prog 105 #[sP p xs.length c,sP p' ys.length c'] w fun e w'=>e=uY (.bool<|ET xs ys)/\Bl w w':=by
 have hl:=hrow.len;have HR:=AC hrow;have HR':=AC hrow';clear hrow hrow';have F:=AC<|Z71 xs ys;generalize ET xs ys=ans at*;go_in
 go_wp2
 go_loopw [9] (fun iv wr=>Yhd w (rX ys) xs iv wr) (fun iv _=>xs.length-(intOf iv).toNat)
 .exact⟨0,zx,rfl,rfl,AR _ _⟩
 .obtain⟨q,hq,rfl,hall,Af⟩:=hrel;have AL:=AC hall;have HB:=AC Af;by_cases hlt:q<xs.length
  .have FD:=AC<|Ybm (rX ys) hlt;have VI:=AC<|Yfl ys xs[q];obtain⟨b1,o1,rfl,hx⟩:=HR.o.get q hlt;obtain⟨hb1,p1,c1,y0,y1,y2,y3,_⟩:=(hx.cy (Bq Af hB) lr).vals;have hsz:=Af.size;have CH:=AC fun u (hu:Bl w u)=>Zqv (c:=c') xs[q].t (HR'.o.cy fun _ _ _ r=>r.cy (Bq hu hB) lr) (Ab hB hu.size);generalize ja ys xs[q].t=hv at*;generalize rX ys xs[q]=iv at*;generalize xs[q].k=kk at*;clear hall Af hx;go_wp2_with (go_at_call 161;apply(CH.o _<|HB.o.alloc HB.o.size _).mono;rintro e w1 ⟨rfl,hb⟩)
   all_goals first
    | (go_ret;exact⟨Ns (by rw[F.o,<- AL.o,FD.o,VI.o];simp_all),(HB.o.alloc HB.o.size _).trans<|hb.mono zc⟩)
    | (go_roundw
       case rel=>first | exact⟨q+1,zx,by go_num,by rw[<- AL.o,FD.o,VI.o];simp_all,(HB.o.alloc HB.o.size _).trans<|hb.mono zc⟩ | exact⟨q+1,zx,by go_num,by rw[<- AL.o,FD.o,VI.o];simp_all,HB.o.alloc HB.o.size _⟩
       case measure=>simp[intOf];omega)
  .obtain rfl:q=xs.length:=zx
   go_wp2
   go_ret
   exact⟨Ns (by rw[F.o,<- AL.o,List.drop_length];rfl),HB.o⟩
variable {a:Nat->Addr}{vs:Bu}{x:A}
def Ziv (V:D9)(Z:AZ a w)(hB:B<=w.heap.size)(hS:Jz B w D vs x):
  Calls prog 104 #[.agg vs.toArray] w (FT a (FH x) w):=by
 obtain⟨p,c,rfl,ht,hc,hrow⟩:=hS;have F:AF (FH x=if IR x.name=false then 2 else Ei (BR 0) 6 x.te):=⟨rfl⟩;have C1:=AC fun u=>Zni x.name u ht;have C2:=AC (fun u (hu:Bl w u)=>Zr8 (c:=c) (m:=6) (B:=B) Zn5 (first:=#[zo 0]) (cap:=#[]) (f:=BR 0) (Z.be hu) (hrow.cy fun _ _ _ r=>r.cy (Bq hu hB) lr) (Ab hB hu.size) fun u2 vs y hy Gm hS=>Zsb V a 0 zx ((Z.be hu).be Gm) (Ab hB<|Ab hu.size Gm.size) hS);have ZZ:=AC Z;have hl:=hrow.len;clear hrow Z hc;generalize FH x=ans at*;generalize IR x.name=b1 at*;go_in
 go_wp2_with fail
 apply(C1.o _).mono;rintro e w1 ⟨rfl,hb⟩;have BB:=AC<|(zv w _).trans<|hb.mono zw;obtain⟨c0,c1,sf⟩:=(TY (AO.new w #[um x.name,sP p x.te.length c] 64) hb).two;have z2:=(ZZ.o.be BB.o).c2;clear hb;cases b1 with
 | false=>
  go_wp2
  go_ret
  exact⟨by rw[F.o];rfl,BB.o⟩
 | true=>
  go_wp2_with fail
  apply(C2.o _ BB.o).mono;rintro e w2 ⟨rfl,hb⟩;go_wp2
  go_ret
  exact⟨by rw[F.o];rfl,BB.o.trans<|hb.mono BB.o.size⟩
def Zwi (V:D9)(Z:AZ a w)(hB:B<=w.heap.size)(hS:Jz B w D vs x):
  Calls prog 48 #[.agg vs.toArray] w (FT a (Ul x) w):=by
 have C1:=AC fun u (hu:Bl w u)=>Ziv V (Z.be hu) (Ab hB hu.size) (Jz.cy hS<|Bq hu hB);obtain⟨p,c,rfl,ht,hc,hrow⟩:=hS;have F:AF (Ul x=if FH x≠0 then FH x else if ET x.te []=false then 5 else 0):=⟨rfl⟩;have C2:=AC fun u (hu:Bl w u)=>gN (c:=c) (p':=none) (ys:=[]) (c':=0) (B:=B) (hrow.cy fun _ _ _ r=>r.cy (Bq hu hB) lr) ⟨zw,fun i x h=>by simp at h⟩ (Ab hB hu.size);have ZZ:=AC Z;clear hrow Z hc;generalize Ul x=ans at*;generalize FH x=n1 at*;generalize ET x.te []=b1 at*;go_in
 go_wp2_with fail
 apply(C1.o _<|zv w _).mono;rintro e w1 ⟨rfl,hb⟩;have BB:=AC<|(zv w _).trans<|hb.mono zw;obtain⟨c0,c1,sf⟩:=(TY (AO.new w #[um x.name,sP p x.te.length c] 64) hb).two;clear hb;by_cases hn:n1=0
 .rw[hn,JR];go_wp2_with fail
  apply(C2.o _ BB.o).mono;rintro e w2 ⟨rfl,hb⟩;have z5:=(ZZ.o.be (tr BB hb).o).c5;cases b1;all_goals
   go_wp2
   go_ret
   exact⟨by rw[F.o,xd zx];rfl,BB.o.trans<|hb.mono BB.o.size⟩
 .rw[BU _ hn];go_wp2
  go_ret
  exact⟨by rw[F.o,xj hn,BU _ hn];rfl,BB.o⟩
def Ed.at_ {B':Nat}{x:T}{b o:Nat}(h:Ed B w D vs x)(hB:B<=B')(hb:b<B')(hc: ∀ j,j<4->w.cell? (zm b (o+j))=vs[j]?):He B' w (D+1) b o x:=by
 obtain⟨p,c,rfl,ht,hk,hi,hl,hr⟩:=h;exact⟨⟨hb,trivial⟩,_,hc 0 zx,hc 1 zx,hc 2 zx,hc 3 zx,rfl,rfl,rfl,hk,hi,ht,p,c,rfl,hl,hr.cy fun _ _ _ q=>q.cy (EG.up hB) lr⟩
def Zs5 (V:D9){x:G}{p':Bp}{ys:List A}{c':Nat}(Z:AZ a w)(hB:B<=w.heap.size)(hS:TQ B w D vs x)(hrow':Ap 2 (Ep B w<|D+1) p' ys):
  Calls prog 164 #[.agg vs.toArray,sP p' ys.length c'] w (FT a (QE ys x) w):=by
 obtain⟨va,vb,rfl,ho,ha,hb⟩:=hS;have C1:=AC fun u (hu:Bl w u)=>Zsb V a 0 zx (Z.be hu) (Ab hB hu.size) (Ed.cy ha<|Bq hu hB);have C2:=AC fun u (hu:Bl w u)=>Zsb V a 0 zx (Z.be hu) (Ab hB hu.size) (Ed.cy hb<|Bq hu hB);have D1:=AC fun u (hu:Bl w u) t e (hk:w.heap.size<=t) (hL:AO u t va.toArray e)=>gN (p:=some (zm t 0)) (xs:=[x.a]) (c:=1) (c':=c') (B:=u.heap.size) ⟨zw,fun i y h=>by
  obtain⟨rfl,rfl⟩:i=0/\x.a=y:=by
   match i,h with
   | 0,h=>exact⟨rfl,by simpa using h⟩
  exact⟨t,0,rfl,Ed.at_ (Ed.cy ha<|Bq hu hB) (Ab hB hu.size) hL.lt fun j _=>by rw[YC,Qs,Gx,hL.cell];simp⟩⟩ (hrow'.cy fun _ _ _ r=>(r.cy (Bq hu hB) lr).cy (EG.up<|Ab hB hu.size) lr) lr
 have D2:=AC fun u (hu:Bl w u) t e (hk:w.heap.size<=t) (hL:AO u t vb.toArray e)=>gN (p:=some (zm t 0)) (xs:=[x.b]) (c:=1) (c':=c') (B:=u.heap.size) ⟨zw,fun i y h=>by
  obtain⟨rfl,rfl⟩:i=0/\x.b=y:=by
   match i,h with
   | 0,h=>exact⟨rfl,by simpa using h⟩
  exact⟨t,0,rfl,Ed.at_ (Ed.cy hb<|Bq hu hB) (Ab hB hu.size) hL.lt fun j _=>by rw[YC,Qs,Gx,hL.cell];simp⟩⟩ (hrow'.cy fun _ _ _ r=>(r.cy (Bq hu hB) lr).cy (EG.up<|Ab hB hu.size) lr) lr
 obtain⟨p1,c1,rfl,_⟩:=ha;obtain⟨p2,c2,rfl,_⟩:=hb;have hl':=hrow'.len;have ZZ:=AC Z;clear hrow' Z;have F:AF (QE ys x=if x.op<1\/7<x.op then 2 else if PI ys x.a≠0 then PI ys x.a else PI ys x.b):=⟨rfl⟩;have F1:AF (PI ys x.a=if BR 0 x.a≠0 then BR 0 x.a else if ET [x.a] ys=false then 5 else 0):=⟨rfl⟩;have F2:AF (PI ys x.b=if BR 0 x.b≠0 then BR 0 x.b else if ET [x.b] ys=false then 5 else 0):=⟨rfl⟩;generalize QE ys x=ans at*;generalize x.op=op at*;have i0: ∀ w,(Instr.index 359 (.agg #[zo x.a.k,zo x.a.i,um x.a.t,sP p1 x.a.l.length c1,zo x.b.k,zo x.b.i,um x.b.t,sP p2 x.b.l.length c2])<|zo 0).run prog w= .ok (.agg #[zo x.a.k,zo x.a.i,um x.a.t,sP p1 x.a.l.length c1]) w:=fun _=>zt
 have i1: ∀ w,(Instr.index 359 (.agg #[zo x.a.k,zo x.a.i,um x.a.t,sP p1 x.a.l.length c1,zo x.b.k,zo x.b.i,um x.b.t,sP p2 x.b.l.length c2])<|zo 1).run prog w= .ok (.agg #[zo x.b.k,zo x.b.i,um x.b.t,sP p2 x.b.l.length c2]) w:=fun _=>zt
 have z2:=fun o=>Cb ZZ.o.c2 ((AR _ w).alloc lr o);by_cases hop:op<1\/7<op
 .have F0:AF (ans=2):=⟨by rw[F.o,xj hop]⟩;clear F F1 F2 C1 C2 D1 D2;go_in
  rcases hop with h | h
  .go_wp2
   go_ret
   exact⟨by rw[F0.o];rfl,zv w _⟩
  .have h': ¬ op<1:=zx
   go_wp2
   go_ret
   exact⟨by rw[F0.o];rfl,zv w _⟩
 have F0:AF (ans=if PI ys x.a≠0 then PI ys x.a else PI ys x.b):=⟨by rw[F.o,xd hop]⟩;have h1: ¬ op<1:=zx
 have h2: ¬ 7<op:=zx
 clear F hop z2;generalize BR 0 x.a=na at*;generalize BR 0 x.b=nb at*;generalize ET [x.a] ys=ba at*;generalize ET [x.b] ys=bb at*;generalize PI ys x.a=sa at*;generalize PI ys x.b=sb at*;have B0:=AC<|zv w<|.cells #[zo op,zo x.a.k,zo x.a.i,um x.a.t,sP p1 x.a.l.length c1,zo x.b.k,zo x.b.i,um x.b.t,sP p2 x.b.l.length c2] 97;go_in
 go_wp2
 refine YA 3 ?_;rw[Tt];go_wp2_with fail
 apply(C1.o _<|B0.o.alloc B0.o.size _).mono;rintro e w1 ⟨rfl,hb⟩;have B1:=AC<|(B0.o.alloc B0.o.size _).trans<|hb.mono zc;have L1:=AC<|TY (AO.new _ #[zo x.a.k,zo x.a.i,um x.a.t,sP p1 x.a.l.length c1] 95) hb;obtain⟨y0,y1,y2,y3,sf⟩:=L1.o.four;simp only[EV]at y0 y1 y2 y3 sf;have hs1:=B1.o.size;clear hb;by_cases nK:na=0
 .have F3:AF (sa=if ba=false then 5 else 0):=⟨by rw[F1.o,xd zx]⟩;clear F1;rw[nK,JR];go_wp2_with fail
  apply(D1.o _ (B1.o.alloc hs1 _) _ _ hs1<|AO.new w1 _ _).mono;rintro e w2 ⟨rfl,hb⟩;have B2:=AC<|(B1.o.alloc hs1 _).trans<|hb.mono zc;have z5:=(ZZ.o.be B2.o).c5;have hs2:=B2.o.size;clear hb y0 y1 y2 y3 sf;cases ba with
  | false=>
   have F4:AF (ans=5):=⟨by rw[F0.o,F3.o];rfl⟩;go_wp2
   go_ret
   exact⟨by rw[F4.o];rfl,B2.o⟩
  | true=>
   have F4:AF (ans=sb):=⟨by rw[F0.o,F3.o];rfl⟩;clear F0 F3 C1 D1 z5;go_wp2_with fail
   rw[Tt];go_wp2_with fail
   apply(C2.o _<|B2.o.alloc hs2 _).mono;rintro e w3 ⟨rfl,hb⟩;have B3:=AC<|(B2.o.alloc hs2 _).trans<|hb.mono zc;obtain⟨y0,y1,y2,y3,sf⟩:=(TY (AO.new _ #[zo x.b.k,zo x.b.i,um x.b.t,sP p2 x.b.l.length c2] 95) hb).four;have hs3:=B3.o.size;clear hb;by_cases RI:nb=0
   .have F5:AF (sb=if bb=false then 5 else 0):=⟨by rw[F2.o,xd zx]⟩;clear F2;rw[RI,JR];go_wp2_with fail
    apply(D2.o _ (B3.o.alloc hs3 _) _ _ hs3<|AO.new w3 _ _).mono;rintro e w4 ⟨rfl,hb⟩;have B4:=AC<|(B3.o.alloc hs3 _).trans<|hb.mono zc;have z5:=(ZZ.o.be B4.o).c5;clear hb y0 y1 y2 y3 sf;cases bb with
    | false=>
     go_wp2
     go_ret
     exact⟨by rw[F4.o,F5.o];rfl,B4.o⟩
    | true=>
     go_wp2_with fail
     rw[Tt];go_wp2
     go_ret
     exact⟨by rw[F4.o,F5.o];rfl,B4.o⟩
   .have F3:AF (ans=nb):=⟨by rw[F4.o,F2.o,xj RI]⟩;rw[BU _ RI];go_wp2
    go_ret
    exact⟨by rw[F3.o,BU _ RI];rfl,B3.o⟩
 .have F3:AF (ans=na):=⟨by rw[F0.o,F1.o,xj nK,xj nK]⟩;rw[BU _ nK];go_wp2
  go_ret
  exact⟨by rw[F3.o,BU _ nK];rfl,B1.o⟩
variable {x:R}
def Z0e:Da 104:=EH func104 zt rfl
def Z0g:Da 48:=EH func48 zt rfl
def Z0h:Da 50:=EH func50 zt rfl
def Z0f:Da 165:=EH func165 zt rfl
def Zxm:Da 52:=EH func52 zt rfl
def Zxl:Da 163:=EH func163 zt rfl
def Zs3 (V:D9){x:G}{p':Bp}{ys:List A}{c' b:Nat}(Z:AZ a w)(hB:B<=w.heap.size)(hS:TQ B w D vs x)(hrow':Ap 2 (Ep B w<|D+1) p' ys)(hc:w.cell? (zm b 2)=some (sP p' ys.length c')):
  Calls prog 163 #[.agg vs.toArray,zq b 0] w (FT a (QE ys x) w):=by
 have C1:=AC fun u (hu:Bl w u)=>Zs5 V (c':=c') (Z.be hu) (Ab hB hu.size) (TQ.cy hS<|Bq hu hB) (hrow'.cy fun _ _ _ r=>r.cy (Bq hu hB) lr);have c2:=fun o=>Cb hc ((AR _ w).alloc lr o);obtain⟨va,vb,rfl,_,⟨p1,c1,rfl,_⟩,p2,c3,rfl,_⟩:=hS;clear Z hrow';go_in
 go_wp2_with fail
 apply(C1.o _<|zv w _).mono;rintro e w1 ⟨rfl,hb⟩;go_wp2_with fail
 go_ret
 exact⟨rfl,(zv w _).trans<|hb.mono zw⟩
def Zmw (V:D9)(Z:AZ a w)(hB:B<=w.heap.size)(hS:Jy B w D vs x):
  Calls prog 107 #[.agg vs.toArray] w (FT a (JQ x) w):=by
 obtain⟨va,p1,c1,p2,c2,rfl,⟨p0,c0,rfl,_⟩,_,hr1,_,hr2⟩:=hS;have GU:=hr1.len;have hl2:=hr2.len;have F:AF (JQ x=if x.body.length=0/\x.gu.length=0 then 2 else if 4<x.body.length\/4<x.gu.length then 4 else if EU FH x.body≠0 then EU FH x.body else EU (QE x.body) x.gu):=⟨rfl⟩;have C1:=AC (fun u (hu:Bl w u)=>Zjo (a:=a) (c:=c1) (B:=B) Z0e (first:=#[]) (cap:=#[]) (f:=FH) (hr1.cy fun _ _ _ r=>r.cy (Bq hu hB) lr) (Ab hB hu.size) fun u2 vs y hy Gm hS=>Ziv V ((Z.be hu).be Gm) (Ab hB<|Ab hu.size Gm.size) hS);have C2:=AC (fun u (hu:Bl w u) b (hc:u.cell? (zm b 2)=some (sP p1 x.body.length c1))=>Zo8 (a:=a) (c:=c2) (B:=B) Zxl (first:=#[]) (cap:=#[zq b 0]) (f:=QE x.body) (hr2.cy fun _ _ _ r=>r.cy (Bq hu hB) lr) (Ab hB hu.size) fun u2 vs y hy Gm hS=>Zs3 V (c':=c1) ((Z.be hu).be Gm) (Ab hB<|Ab hu.size Gm.size) hS (hr1.cy fun _ _ _ r=>(r.cy (Bq hu hB) lr).cy (Bq Gm<|Ab hB hu.size) lr) (Cb hc Gm));have z2:=fun o=>Cb Z.c2 ((AR _ w).alloc lr o);have z4:=fun o=>Cb Z.c4 ((AR _ w).alloc lr o);have Ho: ∀ (fn:Fn) (first cap:Ca) (w:Bb),(Instr.makeFunc fn first cap).run prog w= .ok (.func fn first cap) w:=fun _ _ _ _=>rfl;have B0:=AC<|zv w<|.cells #[um x.head.name,sP p0 x.head.te.length c0,sP p1 x.body.length c1,sP p2 x.gu.length c2] 69;clear hr1 hr2 Z;generalize JQ x=ans at*;generalize EU FH x.body=n1 at*;generalize EU (QE x.body) x.gu=n2 at*;generalize x.body.length=l1 at*;generalize x.gu.length=l2 at*;have W:(((l1:Int)==0)=true/\((l2:Int)==0)=true/\ans=2)\/(((l1:Int)==0)=true/\((l2:Int)==0)=false/\decide ((4:Int)<l1)=false/\(4:Int)<l2/\ans=4)\/(((l1:Int)==0)=false/\(4:Int)<l1/\ans=4)\/(((l1:Int)==0)=false/\decide ((4:Int)<l1)=false/\(4:Int)<l2/\ans=4)
   \/(((l1:Int)==0)=true/\((l2:Int)==0)=false/\decide ((4:Int)<l1)=false/\decide ((4:Int)<l2)=false/\(n1≠0->ans=n1)/\(n1=0->ans=n2))\/(((l1:Int)==0)=false/\decide ((4:Int)<l1)=false/\decide ((4:Int)<l2)=false/\(n1≠0->ans=n1)/\(n1=0->ans=n2)):=by
  simp only[DR,BJ,decide_eq_false_iff_not];have f2:(l1=0/\l2=0)->ans=2:=fun h=>by rw[F.o,xj h]
  have f4: ¬ (l1=0/\l2=0)->(4<l1\/4<l2)->ans=4:=fun h h'=>by rw[F.o,xd h,xj h']
  have f0: ¬ (l1=0/\l2=0)-> ¬ (4<l1\/4<l2)->(n1≠0->ans=n1)/\(n1=0->ans=n2):=fun h h'=>by rw[F.o,xd h,xd h'];exact⟨fun q=>xj q,fun q=>xd zx⟩
  by_cases a1:l1=0
  .by_cases a2:l2=0
   .exact Or.inl ⟨zx,zx,f2 ⟨a1,a2⟩⟩
   .by_cases a3:4<l2
    .exact Or.inr<|Or.inl ⟨zx,zx,zx,zx,f4 zx zx⟩
    .exact Or.inr<|Or.inr<|Or.inr<|Or.inr<|Or.inl ⟨zx,zx,zx,zx,f0 zx zx⟩
  .by_cases a2:4<l1
   .exact Or.inr<|Or.inr<|Or.inl ⟨zx,zx,f4 zx zx⟩
   .by_cases a3:4<l2
    .exact Or.inr<|Or.inr<|Or.inr<|Or.inl ⟨zx,zx,zx,f4 zx zx⟩
    .exact Or.inr<|Or.inr<|Or.inr<|Or.inr<|Or.inr ⟨zx,zx,zx,f0 zx zx⟩
 clear F;go_in
 rcases W with⟨g1,g2,r⟩ | ⟨g1,g2,g3,g4,r⟩ | ⟨g1,g2,r⟩ | ⟨g1,g2,g3,r⟩ | ⟨g1,g2,g3,g4,r⟩ | ⟨g1,g2,g3,r⟩;iterate 4
  have R:=AC r;clear r C1 C2;go_wp2_with fail
  go_ret
  exact⟨by rw[R.o];rfl,B0.o⟩
 all_goals
  have R:=AC r;clear r z2 z4;go_wp2_with fail
  apply(C1.o _ B0.o).mono;rintro e w1 ⟨rfl,hb⟩;have B1:=tr B0 hb;obtain⟨y0,y1,y2,y3,sf⟩:=(TY (AO.new w #[um x.head.name,sP p0 x.head.te.length c0,sP p1 l1 c1,sP p2 l2 c2] 69) hb).four;have CC:=AC<|C2.o _ B1.o _ y2;clear hb C1 C2;by_cases hn:n1=0
  .rw[hn,JR];go_wp2_with fail
   apply mq CC.o;rintro w2 hb;go_wp2_with fail
   go_ret
   exact⟨by rw[R.o.2 hn];rfl,B1.o.trans<|hb.mono B1.o.size⟩
  .rw[BU _ hn];go_wp2_with fail
   go_ret
   exact⟨by rw[R.o.1 hn,BU _ hn];rfl,B1.o⟩
def Zwj (V:D9)(Z:AZ a w)(hB:B<=w.heap.size)(hS:Jy B w D vs x):
  Calls prog 50 #[.agg vs.toArray] w (FT a (TZ x) w):=by
 have C2:=AC fun u (hu:Bl w u)=>Zmw V (Z.be hu) (Ab hB hu.size) (Jy.cy hS<|Bq hu hB);obtain⟨va,p1,c1,p2,c2,rfl,hA,_,hr1,_,hr2⟩:=hS;have C1:=AC fun u (hu:Bl w u)=>Ziv V (Z.be hu) (Ab hB hu.size) (Jz.cy hA<|Bq hu hB);obtain⟨p0,c0,rfl,_,_,Jo⟩:=hA;have C3:=AC fun u (hu:Bl w u)=>gN (c:=c0) (c':=c1) (B:=B) (Jo.cy fun _ _ _ r=>r.cy (Bq hu hB) lr) (hr1.cy fun _ _ _ r=>r.cy (Bq hu hB) lr) (Ab hB hu.size);have F:AF (TZ x=if FH x.head≠0 then FH x.head else if JQ x≠0 then JQ x else if ET x.head.te x.body=false then 5 else 0):=⟨rfl⟩;have ZZ:=AC Z;have B0:=AC<|zv w<|.cells #[um x.head.name,sP p0 x.head.te.length c0,sP p1 x.body.length c1,sP p2 x.gu.length c2] 69;clear Jo hr1 hr2 Z;generalize TZ x=ans at*;generalize FH x.head=n1 at*;generalize JQ x=n2 at*;generalize ET x.head.te x.body=b3 at*;go_in
 go_wp2_with fail
 apply(C1.o _ B0.o).mono;rintro e w1 ⟨rfl,hb⟩;have B1:=tr B0 hb;have L1:=AC<|TY (AO.new w #[um x.head.name,sP p0 x.head.te.length c0,sP p1 x.body.length c1,sP p2 x.gu.length c2] 69) hb;clear hb;by_cases hn:n1=0
 .obtain⟨y0,y1,y2,y3,sf⟩:=L1.o.four;rw[hn,JR];go_wp2_with fail
  apply(C2.o _ B1.o).mono;rintro e w2 ⟨rfl,hb⟩;have B2:=tr B1 hb;have L2:=AC<|TY L1.o hb;clear y0 y1 y2 y3 sf hb;by_cases Hl:n2=0
  .obtain⟨y0,y1,y2,y3,sf⟩:=L2.o.four;rw[Hl,JR];go_wp2_with fail
   apply(C3.o _ B2.o).mono;rintro e w3 ⟨rfl,hb⟩;have B3:=tr B2 hb;have z5:=(ZZ.o.be B3.o).c5;clear y0 y1 y2 y3 sf hb;cases b3;all_goals
    go_wp2_with fail
    go_ret
    exact⟨by rw[F.o,xd zx,xd zx];rfl,B3.o⟩
  .rw[BU _ Hl];go_wp2_with fail
   go_ret
   exact⟨by rw[F.o,xd zx,xj Hl,BU _ Hl];rfl,B2.o⟩
 .rw[BU _ hn];go_wp2_with fail
  go_ret
  exact⟨by rw[F.o,xj hn,BU _ hn];rfl,B1.o⟩
def Zn0 (V:D9){x:R}(Z:AZ a w)(hB:B<=w.heap.size)(hS:Jy B w D vs x):
  Calls prog 165 #[.agg vs.toArray] w (FT a (SE x) w):=by
 have C2:=AC fun u (hu:Bl w u)=>Zmw V (Z.be hu) (Ab hB hu.size) (Jy.cy hS<|Bq hu hB);obtain⟨va,p1,c1,p2,c2,rfl,⟨p0,c0,rfl,_,_,Jo⟩,_,hr1,_,hr2⟩:=hS;have hl0:=Jo.len;have F:AF (SE x=if x.head.name.size≠0\/0<x.head.te.length then 2 else JQ x):=⟨rfl⟩;have z2:=fun o=>Cb Z.c2 ((AR _ w).alloc lr o);have e0:=X4 x.head.name;have B0:=AC<|zv w<|.cells #[um x.head.name,sP p0 x.head.te.length c0,sP p1 x.body.length c1,sP p2 x.gu.length c2] 69;clear Jo hr1 hr2 Z;generalize SE x=ans at*;generalize JQ x=n2 at*;generalize x.head.te.length=n at*;generalize x.head.name=nm at*;have W:((nm.toList==[])=false/\ans=2)\/((nm.toList==[])=true/\(0:Int)<n/\ans=2)\/((nm.toList==[])=true/\ ¬ 0<n/\ans=n2):=by
  simp only[e0,decide_eq_false_iff_not,wA];have f1:(nm.size≠0\/0<n)->ans=2:=fun h=>by rw[F.o,xj h]
  have f2: ¬ (nm.size≠0\/0<n)->ans=n2:=fun h=>by rw[F.o,xd h]
  omega
 clear F e0;go_in
 rcases W with⟨g1,r⟩ | ⟨g1,g2,r⟩ | ⟨g1,g2,r⟩;iterate 2
  have R:=AC r;clear r C2;go_wp2_with fail
  go_ret
  exact⟨by rw[R.o];rfl,B0.o⟩
 have R:=AC r;clear r z2;go_wp2_with fail
 apply(C2.o _ B0.o).mono;rintro e w1 ⟨rfl,hb⟩;go_wp2_with fail
 go_ret
 exact⟨by rw[R.o];rfl,B0.o.trans<|hb.mono B0.o.size⟩
def Zj3 (V:D9){p:Bp}{xs:List R}{c:Nat}(Z:AZ a w)(hB:B<=w.heap.size)(hrow:Ap 4 (FJ B w<|D+1) p xs):
  Calls prog 109 #[sP p xs.length c] w (FT a (J4 xs) w):=by
 have C1:=AC (Zj2 (c:=c) (m:=4) (B:=B) Z0f (first:=#[]) (cap:=#[]) (f:=SE) Z hrow hB fun u vs y hy hu hS=>Zn0 V (Z.be hu) (Ab hB hu.size) hS);have F:AF (J4 xs=if xs.length=0 then 2 else Ei SE 4 xs):=⟨rfl⟩;have z2:=Z.c2;clear hrow Z;generalize Ei SE 4 xs=n1 at*;generalize J4 xs=ans at*;generalize xs.length=n at*;have W:(((n:Int)==0)=true/\ans=2)\/(((n:Int)==0)=false/\ans=n1):=by
  simp only[DR,BJ];have f1:n=0->ans=2:=fun h=>by rw[F.o,xj h]
  have f2: ¬ n=0->ans=n1:=fun h=>by rw[F.o,xd h]
  omega
 clear F;go_in
 rcases W with⟨g1,r⟩ | ⟨g1,r⟩
 .have R:=AC r;clear r C1;go_wp2_with fail
  go_ret
  exact⟨by rw[R.o];rfl,AR _ _⟩
 .have R:=AC r;clear r z2;go_wp2_with fail
  apply mq C1.o;rintro w1 hb;go_wp2_with fail
  go_ret
  exact⟨by rw[R.o];rfl,hb⟩
def Zs4 (V:D9){x:List R}(Z:AZ a w)(hB:B<=w.heap.size)(hS:Wi B w D vs x):
  Calls prog 52 #[.agg vs.toArray] w (FT a (J4 x) w):=by
 obtain⟨p,c,rfl,_,hr⟩:=hS;have C1:=AC fun u (hu:Bl w u)=>Zj3 V (c:=c) (Z.be hu) (Ab hB hu.size) (hr.cy fun _ _ _ r=>r.cy (Bq hu hB) lr);have B0:=AC<|zv w<|.cells #[sP p x.length c] 134;clear hr Z;go_in
 go_wp2_with fail
 apply(C1.o _ B0.o).mono;rintro e w1 ⟨rfl,hb⟩;go_wp2_with fail
 go_ret
 exact⟨rfl,B0.o.trans<|hb.mono B0.o.size⟩
def Zhn (V:D9){x:Bk}(Z:AZ a w)(hB:B<=w.heap.size)(hS:EZ B w D vs x):
  Calls prog 24 #[.agg vs.toArray] w (FT a (IU x) w):=by
 obtain⟨p,c,p1,c1,p2,c2,rfl,_,hr,_,hr1,_,hr2⟩:=hS;have C1:=AC (fun u (hu:Bl w u)=>Zr7 (c:=c) (m:=24) (B:=B) Z0g (first:=#[]) (cap:=#[]) (f:=Ul) (Z.be hu) (hr.cy fun _ _ _ r=>r.cy (Bq hu hB) lr) (Ab hB hu.size) fun u2 vs y hy Gm hS=>Zwi V ((Z.be hu).be Gm) (Ab hB<|Ab hu.size Gm.size) hS);have C2:=AC (fun u (hu:Bl w u)=>Zj2 (c:=c1) (m:=24) (B:=B) Z0h (first:=#[]) (cap:=#[]) (f:=TZ) (Z.be hu) (hr1.cy fun _ _ _ r=>r.cy (Bq hu hB) lr) (Ab hB hu.size) fun u2 vs y hy Gm hS=>Zwj V ((Z.be hu).be Gm) (Ab hB<|Ab hu.size Gm.size) hS);have C3:=AC (fun u (hu:Bl w u)=>Zpe (c:=c2) (m:=24) (B:=B) Zxm (first:=#[]) (cap:=#[]) (f:=J4) (Z.be hu) (hr2.cy fun _ _ _ r=>r.cy (Bq hu hB) lr) (Ab hB hu.size) fun u2 vs y hy Gm hS=>Zs4 V ((Z.be hu).be Gm) (Ab hB<|Ab hu.size Gm.size) hS);have F:AF (IU x=if Ei Ul 24 x.fa≠0 then Ei Ul 24 x.fa else if Ei TZ 24 x.ru≠0 then Ei TZ 24 x.ru else Ei J4 24 x.ck):=⟨rfl⟩;have B0:=AC<|zv w<|.cells #[sP p x.fa.length c,sP p1 x.ru.length c1,sP p2 x.ck.length c2] 38;clear hr hr1 hr2 Z;generalize IU x=ans at*;generalize Ei Ul 24 x.fa=n1 at*;generalize Ei TZ 24 x.ru=n2 at*;generalize Ei J4 24 x.ck=n3 at*;have F1:AF ((n1≠0->ans=n1)/\(n1=0->n2≠0->ans=n2)/\(n1=0->n2=0->ans=n3)):=⟨fun h=>by rw[F.o,xj h],fun h h'=>by rw[F.o,xd zx,xj h'],fun h h'=>by rw[F.o,xd zx,xd zx]⟩;clear F;go_in
 go_wp2_with fail
 apply(C1.o _ B0.o).mono;rintro e w1 ⟨rfl,hb⟩;have B1:=tr B0 hb;have L1:=AC<|TY (AO.new w #[sP p x.fa.length c,sP p1 x.ru.length c1,sP p2 x.ck.length c2] 38) hb;clear hb;by_cases hn:n1=0
 .obtain⟨y0,y1,y2,sf⟩:=L1.o.three;rw[hn,JR];go_wp2_with fail
  apply(C2.o _ B1.o).mono;rintro e w2 ⟨rfl,hb⟩;have B2:=tr B1 hb;have L2:=AC<|TY L1.o hb;clear y0 y1 y2 sf hb;by_cases Hl:n2=0
  .obtain⟨y0,y1,y2,sf⟩:=L2.o.three;rw[Hl,JR];go_wp2_with fail
   apply(C3.o _ B2.o).mono;rintro e w3 ⟨rfl,hb⟩;go_wp2_with fail
   go_ret
   exact⟨by rw[F1.o.2.2 hn Hl];rfl,B2.o.trans<|hb.mono B2.o.size⟩
  .rw[BU _ Hl];go_wp2_with fail
   go_ret
   exact⟨by rw[F1.o.2.1 hn Hl,BU _ Hl];rfl,B2.o⟩
 .rw[BU _ hn];go_wp2_with fail
  go_ret
  exact⟨by rw[F1.o.1 hn,BU _ hn];rfl,B1.o⟩
def Dx.toS {ty:U2}{d B:Nat}{w:Bb}{vs:Bu}{x:Bk}{F:Cg}(h:Dx ty (d+1) w vs x F)(hF: ∀ k,k∈F->k<B):EZ B w d vs x:=by
 obtain⟨fv,rv,cv,F1,F2,F3,rfl,h1,h2,h3,rfl⟩:=h;obtain⟨p1,c1,rfl,l1,r1⟩:=PG.Ll h1 fun k hk=>hF k (by simp[hk]);obtain⟨p2,c2,rfl,l2,r2⟩:=VY.Ll h2 fun k hk=>hF k (by simp[hk]);obtain⟨p3,c3,rfl,l3,r3⟩:=bI.Ll h3 fun k hk=>hF k (by simp[hk]);exact⟨p1,c1,p2,c2,p3,c3,rfl,l1,r1,l2,r2,l3,r3⟩
variable {n:Int}{l:By}
def Zkq (v:Value)(w:Bb):(Instr.typeAssert (.iface 347 v) 20 347 true).run prog w= .ok (.tuple #[v,.bool true]) w:=zt
def Zkt (b:Nat)(x:Value)(a:Nat->Addr)(hn:n≠0)(w:Bb)(hc:w.cell? (zm b 0)=some x)(hf:w.frozen? (zm b 0)=false):CallsD prog 282 #[zq b 0] (.panicking [{v:= .iface 347<|.agg #[BG a n],recovered:=false}]) w fun e u' w'=>
  e=uY (.tuple #[])/\u'= .panicking [{v:= .iface 347<|.agg #[BG a n],recovered:=true}]/\w'=(w.alloc<|.cells #[BG a n] 347).setCell (zm b 0) (BG a n):=by
 rw[BU _ hn];have hbl:=Wx hc;refine callsD_of_wpS func282 rfl fun c₀ cs hu=>?_;apply wpS_seq
 apply wpS_region
 simp[wpOpsS,go_sem,recoverD,hu,ntmps282,Exit.thenS,Array.replicate,List.replicate];refine wpS_of_wp ?_;have ta:=Zkq;go_wp2_with fail
 simp[bodyPostS,results,results282]
def Zz1 (b:Nat)(w:Bb):CallsD prog 282 #[zq b 0] .returning w fun e u' w'=>e=uY (.tuple #[])/\u'= .returning/\w'=w:=by
 refine callsD_of_wpS func282 rfl fun c₀ cs hu=>?_;apply wpS_seq
 apply wpS_region
 simp[wpOpsS,go_sem,recoverD,hu,ntmps282,Exit.thenS,Array.replicate,List.replicate];refine wpS_of_wp ?_;go_wp2_with fail
 cases c₀;simp_all [bodyPostS,results,results282]
def Zos {α:Type}{f:De α}{e:Int}(h:f l= .error e):GZ f l= .error e:=by unfold GZ;rw[h]
def Zy9 {α:Type}{f:De α}{r:By}{x:α}(h:f l= .ok (x,r)):GZ f l=if r=[]then .ok x else .error 7:=by unfold GZ;rw[h]
def Zwv (a:Nat->Addr) (w:Bb) (Y:Except Int Bk) (e:Ending) (w':Bb):Prop:=
 Bl w w'/\((∃ n,Y= .error n/\n≠0/\e=uY (.tuple #[.agg #[zn,zn,zn],BG a n]))\/ ∃ x vs F,Y= .ok x/\e=uY (.tuple #[.agg vs.toArray,.nilIface])/\Dx AV 4 w' vs x F/\Ag w.heap.size w' F)
def Zu8:Da 276:=EH func276 zt rfl
def Zqf (CL:Gg)(Z:AZ a w)(hg:24<=w.heap.size)(hl:l.length<1000000000):
  Calls prog 275 #[.string<|ba l,.func (.func 276) #[] #[]] w (Zwv a w<|GZ Xp l):=by
 have Ho:=MR;have Dz: ∀ args w,(callFunc 276 args).run prog w= .ok (.enter 276 args) w:=Zu8;have B0:=AC<|((zv w<|.cells #[zn,zn,zn] 38).alloc zw<|.cells #[.nilIface] 57).alloc zc<|.cells #[.string<|ba l] 349;have LR:=AC<|((AO.new w #[zn,zn,zn] 38).alloc<|.cells #[.nilIface] 57).alloc<|.cells #[.string<|ba l] 349;have LE:=AC<|(AO.new (w.alloc<|.cells #[zn,zn,zn] 38) #[.nilIface] 57).alloc<|.cells #[.string<|ba l] 349;have LD:=AC<|AO.new ((w.alloc<|.cells #[zn,zn,zn] 38).alloc<|.cells #[.nilIface] 57) #[.string<|ba l] 349;simp only[EV]at LE LD;have C:=AC<|Z4x CL (Z.be B0.o) (b:=w.heap.size+1+1) (l:=l) ⟨LD.o,hl,zx⟩;have ZZ:=AC Z;clear Z CL LD;go_enter_defers func275,ntmps275
 go_wp2_with fail
 apply C.o.mono;rintro e w1 ⟨AX,⟨n,hy,hn,rfl⟩ | ⟨x,r,v,hy,rfl,⟨vs,F,rfl,hQ,hN⟩,Bc⟩⟩
 .have NF:=LR.o.of<|AX.block w.heap.size zc zx;have JD:=LE.o.of<|AX.block (w.heap.size+1) zw zx;have B1:=AC<|B0.o.trans<|AX.be (B:=w.heap.size) zx zc;obtain⟨y0,sy⟩:=JD.one;have q0:=AC<|(NF.alloc<|.cells #[BG a n] 347).away (w.heap.size+1) 0 zx<|BG a n;have q1:=AC<|(JD.alloc<|.cells #[BG a n] 347).set 0<|BG a n;have q2:=AC<|(B1.o.alloc (fw (NF.lt))<|.cells #[BG a n] 347).setCell (p:=(zm (w.heap.size+1) 0)) (by show w.heap.size<=w.heap.size+1;omega)<|BG a n;refine Vn (f:=282) (args:=#[zq (w.heap.size+1) 0]) zw (by simp[go_sem]) ?_;apply(Zkt _ _ a hn w1 y0<|sy 0).mono;rintro e u' w'' ⟨rfl,rfl,hw⟩;rw[<- hw]at q0 q1 q2;obtain⟨z0,z1,z2,sz⟩:=q0.o.three;obtain⟨x0,sx⟩:=AO.one (a:=BG a n) q1.o;clear hw;simp[Leaves,settle,results,results275,go_sem,z0,z1,z2,x0];exact⟨q2.o,Or.inl ⟨n,Zos hy,hn,rfl⟩⟩
 .have HQ:=AC hQ;obtain⟨fv,rv,cv,F1,F2,F3,rfl,h1,h2,h3,hF⟩:=hQ;obtain⟨p1,c1,rfl⟩:=AQ.form h1;obtain⟨p2,c2,rfl⟩:=AQ.form h2;obtain⟨p3,c3,rfl⟩:=AQ.form h3;have NF:=AC<|LR.o.of<|AX.block w.heap.size zc zx;have JD:=AC<|LE.o.of<|AX.block (w.heap.size+1) zw zx;have B1:=AC<|B0.o.trans<|AX.be (B:=w.heap.size) zx zc;have Y:=AC<|Zy9 hy;have HD:=AC Bc;have HN:=AC hN;have Z1:=AC<|ZZ.o.be B1.o;have x0:=fun o=>(Bc.1.alloc o).one.1;have hr:(ba r).toList=[]↔r=[]:=by
   rw[Nw];simp[ba]
  clear h1 h2 h3 hF AX Bc hN hy C LR LE;by_cases Jo:r=[]
  .have Y1:AF (GZ Xp l= .ok x):=⟨by rw[Y.o,xj Jo]⟩;have g:=hr.2 Jo;clear hr Jo Y;generalize ba r=s at*;have z0:=fun o=>(NF.o.alloc o).three.1;have z1:=fun o=>(NF.o.alloc o).three.2.1;have z2:=fun o=>(NF.o.alloc o).three.2.2.1;have z3:=fun o=>(NF.o.alloc o).three.2.2.2;have e0:=fun o=>(JD.o.alloc o).one.1;have e1:=fun o=>(JD.o.alloc o).one.2;have q0:=AC<|((((NF.o.alloc<|.cells #[sP p1 x.fa.length c1,sP p2 x.ru.length c2,sP p3 x.ck.length c3] 38).set 0<|sP p1 x.fa.length c1).set 1<|sP p2 x.ru.length c2).set 2<|sP p3 x.ck.length c3).away (w.heap.size+1) 0 zx .nilIface;have q1:=AC<|((((JD.o.alloc<|.cells #[sP p1 x.fa.length c1,sP p2 x.ru.length c2,sP p3 x.ck.length c3] 38).away w.heap.size 0 zx<|sP p1 x.fa.length c1).away w.heap.size 1 zx<|sP p2 x.ru.length c2).away w.heap.size 2 zx<|sP p3 x.ck.length c3).set 0 .nilIface;have hs1:=B1.o.size;have q2:=AC<|((((B1.o.alloc hs1<|.cells #[sP p1 x.fa.length c1,sP p2 x.ru.length c2,sP p3 x.ck.length c3] 38).setCell (p:=(zm w.heap.size 0)) lr<|sP p1 x.fa.length c1).setCell (p:=(zm w.heap.size 1)) lr<|sP p2 x.ru.length c2).setCell (p:=(zm w.heap.size 2)) lr<|sP p3 x.ck.length c3).setCell (p:=(zm (w.heap.size+1) 0)) (by show w.heap.size<=w.heap.size+1;omega) .nilIface;have q3:AF (∀ j,j∈F->(((((w1.alloc<|.cells #[sP p1 x.fa.length c1,sP p2 x.ru.length c2,sP p3 x.ck.length c3] 38).setCell (zm w.heap.size 0)<|sP p1 x.fa.length c1).setCell (zm w.heap.size 1)<|sP p2 x.ru.length c2).setCell (zm w.heap.size 2)<|sP p3 x.ck.length c3).setCell (zm (w.heap.size+1) 0) .nilIface).heap[j]?=w1.heap[j]?):=⟨fun j hj=>by
    have g1:=HN.o.ge j hj;have g2:=HN.o.lt j hj;simp at g1;rw[Aw _ _ _ _ (by show j≠w.heap.size+1;omega),Vd zx];exact Ah _ _ _ g2⟩
   have q4:AF (Ag w.heap.size (((((w1.alloc<|.cells #[sP p1 x.fa.length c1,sP p2 x.ru.length c2,sP p3 x.ck.length c3] 38).setCell (zm w.heap.size 0)<|sP p1 x.fa.length c1).setCell (zm w.heap.size 1)<|sP p2 x.ru.length c2).setCell (zm w.heap.size 2)<|sP p3 x.ck.length c3).setCell (zm (w.heap.size+1) 0) .nilIface) F):=⟨HN.o.la zc zw⟩;go_wp2_with fail
   clear z0 z1 z2 z3 e0 e1 x0;refine Vn (f:=282) (args:=#[zq (w.heap.size+1) 0]) zw (by simp[go_sem]) ?_;apply(Zz1 _ _).mono;rintro e u' w'' ⟨rfl,rfl,hw⟩;rw[<- hw]at q0 q1 q2 q3 q4;obtain⟨z0,z1,z2,sz⟩:=AO.three (a:= sP p1 x.fa.length c1) (b:= sP p2 x.ru.length c2) (c:= sP p3 x.ck.length c3) q0.o;obtain⟨x0,sx⟩:=AO.one (a:= .nilIface) q1.o;clear hw;simp[Leaves,settle,results,results275,go_sem,z0,z1,z2,x0];exact⟨q2.o,Or.inr ⟨x,_,F,Y1.o,rfl,Dx.sb (ty:=AV) 4 _ _ _ _ _ HQ.o q3.o,q4.o⟩⟩
  .have Y1:AF (GZ Xp l= .error 7):=⟨by rw[Y.o,xd Jo]⟩;have g:(ba r).toList.isEmpty=false:=by rw[List.isEmpty_eq_false_iff];exact fun q=>Jo (hr.1 q)
   clear hr Jo Y;generalize ba r=s at*;have z7:=fun o=>Cb Z1.o.c7 ((AR _ w1).alloc lr o);have hs1:=B1.o.size;have CR:=AC<|QL a (w.heap.size+1+1) (w1.alloc<|.cells #[sP p1 x.fa.length c1,sP p2 x.ru.length c2,sP p3 x.ck.length c3] 38) (n:=7) zu;have Tv:=AC<|JD.o.alloc<|.cells #[sP p1 x.fa.length c1,sP p2 x.ru.length c2,sP p3 x.ck.length c3] 38;have q0:=AC<|((NF.o.alloc<|.cells #[sP p1 x.fa.length c1,sP p2 x.ru.length c2,sP p3 x.ck.length c3] 38).alloc<|.cells #[BG a 7] 347).away (w.heap.size+1) 0 zx<|BG a 7;have q1:=AC<|(Tv.o.alloc<|.cells #[BG a 7] 347).set 0<|BG a 7;have q2:=AC<|((B1.o.alloc hs1<|.cells #[sP p1 x.fa.length c1,sP p2 x.ru.length c2,sP p3 x.ck.length c3] 38).alloc zc<|.cells #[BG a 7] 347).setCell (p:=(zm (w.heap.size+1) 0)) (by show w.heap.size<=w.heap.size+1;omega)<|BG a 7;obtain⟨y0,sy⟩:=Tv.o.one;go_wp2_with fail
   apply mq CR.o;rintro w2 rfl;refine Vn (f:=282) (args:=#[zq (w.heap.size+1) 0]) zw (by simp[go_sem]) ?_;apply(Zkt _ _ a (n:=7) zu _ y0<|sy 0).mono;rintro e u' w'' ⟨rfl,rfl,hw⟩;rw[<- hw]at q0 q1 q2;obtain⟨z0,z1,z2,sz⟩:=q0.o.three;obtain⟨u0,sx⟩:=AO.one (a:=BG a 7) q1.o;clear hw;simp[Leaves,settle,results,results275,go_sem,z0,z1,z2,u0];exact⟨q2.o,Or.inl ⟨7,Y1.o,zu,rfl⟩⟩
def Z0a (h:4000<l.length):Qn l= .error 4:=xj h
def Zu6 (h: ¬ 4000<l.length)(hw:GZ Xp l= .error n):Qn l= .error n:=by unfold Qn;rw[xd h,hw]
def Z42 {x:Bk}(h: ¬ 4000<l.length)(hw:GZ Xp l= .ok x):Qn l=if IU x≠0 then .error (IU x)else .ok x:=by unfold Qn;rw[xd h,hw]
def Z43 (V:D9)(CL:Gg)(Z:AZ a w)(hg:24<=w.heap.size)(hl:l.length<1000000000):
  Calls prog 256 #[.string<|ba l] w (Zwv a w<|Qn l):=by
 have QU:(ba l).size<1000000000:=by rw[Uk];exact hl
 have HS:=AC<|Uk l;have B0:=AC<|zv w<|.cells #[zn,zn,zn] 38;have CW:=AC<|Zqf CL (Z.be B0.o) zc hl;have z4:=Z.c4;have hz:=AC Z;clear Z CL;by_cases hb:4000<l.length
 .have Y:=AC<|Z0a hb;have g:(4000:Int)<((ba l).size:Int):=fw (HS.o)
  generalize ba l=s at*;have z4':=fun o=>Cb z4 ((AR _ w).alloc lr o);clear CW z4;go_in
  go_wp2
  go_region
  all_goals
   go_wp2
   refine Bg (by simp[results,results256,go_sem];try rfl) rfl ?_;exact⟨(zv w _).drew,Or.inl ⟨4,Y.o,zu,rfl⟩⟩
 .have YE:=AC fun n h=>Zu6 (n:=n) hb h;have YO:=AC fun x h=>Z42 (x:=x) hb h;have g: ¬ (4000:Int)<((ba l).size:Int):=fw (HS.o)
  have L0:=AC<|AO.new w #[zn,zn,zn] 38;clear z4;generalize ba l=s at*;go_in
  go_wp2_with fail
  apply CW.o.mono;rintro e w1 ⟨hb1,⟨n,hy,hn,rfl⟩ | ⟨x,vs,F,hy,rfl,hQ,hN⟩⟩
  .have Y:=AC<|YE.o n hy;have L1:=AC<|TY L0.o hb1;have B1:=AC<|B0.o.trans<|hb1.mono zw;have z0:=fun o=>(L1.o.alloc o).three.1;have z1:=fun o=>(L1.o.alloc o).three.2.1;have z2:=fun o=>(L1.o.alloc o).three.2.2.1;have z3:=fun o=>(L1.o.alloc o).three.2.2.2;rw[BU _ hn];clear hy hb1 CW YE YO;go_wp2
   refine Bg (by simp[results,results256,go_sem,z0,z1,z2];try rfl) rfl ?_;exact⟨(((B1.o.alloc B1.o.size _).setCell (p:=(zm w.heap.size 0)) lr _).setCell (p:=(zm w.heap.size 1)) lr _).setCell (p:=(zm w.heap.size 2)) lr _,Or.inl ⟨n,Y.o,hn,by rw[BU _ hn]⟩⟩
  .have Y:=AC<|YO.o x hy;have L1:=AC<|TY L0.o hb1;have B1:=AC<|B0.o.trans<|hb1.mono zw;have hs1:=B1.o.size;have HQ:=AC hQ;have HN:=AC hN;have HS5:=AC<|Dx.toS hQ (B:=w1.heap.size) fun k hk=>hN.lt k hk;obtain⟨fv,rv,cv,F1,F2,F3,rfl,h1,h2,h3,hF⟩:=hQ;obtain⟨p1,c1,rfl⟩:=AQ.form h1;obtain⟨p2,c2,rfl⟩:=AQ.form h2;obtain⟨p3,c3,rfl⟩:=AQ.form h3;have CB:=AC fun u (hu:Bl w1 u)=>Zhn V ((hz.o.be B1.o).be hu) hu.size (EZ.cy HS5.o<|Bq hu lr);have LB:=AC<|AO.new w1 #[sP p1 x.fa.length c1,sP p2 x.ru.length c2,sP p3 x.ck.length c3] 38;have BB:=AC<|zv w1<|.cells #[sP p1 x.fa.length c1,sP p2 x.ru.length c2,sP p3 x.ck.length c3] 38;clear h1 h2 h3 hF hy hb1 hN CW YE YO HS5;generalize IU x=n at*;go_wp2_with fail
   apply(CB.o _ BB.o).mono;rintro e w2 ⟨rfl,hb2⟩;have B2:=AC<|BB.o.trans<|hb2.mono zw;have Vt:=AC<|(L1.o.of<|B2.o.block _ L1.o.lt);have LB2:=AC<|TY LB.o hb2;obtain⟨y0,y1,y2,sy⟩:=LB2.o.three;obtain⟨z0,z1,z2,sz⟩:=Vt.o.three;have BW:=AC<|B1.o.trans<|B2.o.mono hs1;clear hb2 CB LB L1;by_cases hn:n=0
   .rw[hn,JR];go_wp2
    refine Bg (by simp[results,results256,go_sem,z0,z1,z2];try rfl) rfl ?_;refine⟨((BW.o.setCell (p:=(zm w.heap.size 0)) lr _).setCell (p:=(zm w.heap.size 1)) lr _).setCell (p:=(zm w.heap.size 2)) lr _,Or.inr ⟨x,_,F,by rw[Y.o,xd zx],rfl,Dx.sb (ty:=AV) 4 _ _ _ _ _ HQ.o fun j hj=>(Vd (by have:=HN.o.ge j hj;simp at this;omega)).trans (B2.o.block j<|HN.o.lt j hj),HN.o.la zw (by simp;exact B2.o.size)⟩⟩
   .rw[BU _ hn];go_wp2
    refine Bg (by simp[results,results256,go_sem,z0,z1,z2];try rfl) rfl ?_;exact⟨((BW.o.setCell (p:=(zm w.heap.size 0)) lr _).setCell (p:=(zm w.heap.size 1)) lr _).setCell (p:=(zm w.heap.size 2)) lr _,Or.inl ⟨n,by rw[Y.o,xj hn],hn,by rw[BU _ hn]⟩⟩
end Go.W
set_option linter.defProp false
namespace Go.W
variable {x:Bk}{t:By}
variable {ty:U2}{d:Nat}{w:Bb}{vs:Bu}{F:Cg}
def Iu (ty:U2) (d:Nat):Du (Ay×Bk):=fun w vs x F=> ∃ vb,vs= um x.1::vb/\x.1.size<1000000000/\Dx ty d w vb x.2 F
def Dx.vals (h:Dx ty d w vs x F): ∃ p c p' c' p2 c2,vs=[sP p x.fa.length c,sP p' x.ru.length c',sP p2 x.ck.length c2]:=by
 obtain⟨fv,rv,cv,F1,F2,F3,rfl,h1,h2,h3,_⟩:=h;obtain⟨p,c,rfl⟩:=AQ.form h1;obtain⟨p',c',rfl⟩:=AQ.form h2;obtain⟨p2,c2,rfl⟩:=AQ.form h3;exact⟨p,c,p',c',p2,c2,rfl⟩
def Iu.vals {x:Ay×Bk}(h:Iu ty d w vs x F): ∃ p c p' c' p2 c2,vs=[um x.1,sP p x.2.fa.length c,sP p' x.2.ru.length c',sP p2 x.2.ck.length c2]:=by
 obtain⟨vb,rfl,_,h⟩:=h;obtain⟨p,c,p',c',p2,c2,rfl⟩:=Dx.vals h;exact⟨p,c,p',c',p2,c2,rfl⟩
def Iu.sb (d:Nat):Ii (Iu ty d):=by
 intro w w' vs x F h k;obtain⟨vb,rfl,h1,h2⟩:=h;exact⟨vb,rfl,h1,Dx.sb d _ _ _ _ _ h2 k⟩
def Iu.one {x:Ay×Bk}(h:Iu ty d w vs x F): ∀ u,u∈vs->u.oneCell'=true:=by
 obtain⟨p,c,p',c',p2,c2,rfl⟩:=Iu.vals h;intro u hu;simp at hu;rcases hu with rfl | rfl | rfl | rfl <;> rfl
structure Ch where
 sealed:Bool
 links:List (Ay×Bk)
 tag:List UInt8
def Xh (t:By):De (Ay×Bk):=match Qn t with
 | .error e=>fun _=> .error e
 | .ok x=>fun r=> .ok ((ba t,x),r)
def Z0u {e:Int}(h:Qn t= .error e)(r:By):Xh t r= .error e:=by unfold Xh;rw[h]
def Z2y (h:Qn t= .ok x)(r:By):Xh t r= .ok ((ba t,x),r):=by unfold Xh;rw[h]
def Sv:De (Ay×Bk):=Qm.then fun n=>if 4000<n then fun _=> .error 4 else(Jt n).then Xh
def Nr:By:=[119,114,116,49]
def jU (s:Nat) (l:List (Ay×Bk)):De Ch:=if l.length=0 then fun _=> .error 7 else(Jt 32).map fun t=>⟨s==1,l,t⟩
def fP (s:Nat):De Ch:=if 1<s then fun _=> .error 7 else(DF 8 Sv).then (jU s)
def Hu:De Ch:=(Jt 4).then fun m=>if m≠Nr then fun _=> .error 7 else LY.then fP
def Z89:(prog.info? 112).map (fun i=>(i.zero,i.size,i.bytes))=some (some<|.agg #[sE,zn,zn,zn],4,88):=zt
def Zxj:J3 prog 113 112 4 88:=eL Z89 underlying113
def shL {n1 n2 n3 n4 n5 n6 n7 d:Nat}(h0:0<n7):Sh n1 n2 n3 n4 n5 n6 n7 n7 113 112 4 88 (Iu AV d):=⟨⟨Zxj,Iu.sb _,fun _ _ _ _=>Iu.one⟩,.inr<|.inl ⟨h0,rfl,rfl,rfl,fun h _ f=>let ⟨_,_,_,_,_,_,h⟩:=Iu.vals h;f _ _ _ _ _ _ _ _ _ _ h⟩⟩
def Zqe {d:Nat}:= @Gs _ (Iu AV d) _ _ _ _ _<|shL (d:=d) zu
end Go.W
