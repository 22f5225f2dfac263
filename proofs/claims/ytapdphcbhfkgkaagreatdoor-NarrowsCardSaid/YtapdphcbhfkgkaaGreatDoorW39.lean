import Derived.Test.YtapdphcbhfkgkaaGreatDoorW38
set_option linter.defProp false
set_option maxRecDepth 100000
set_option maxHeartbeats 8000000
set_option linter.unusedSimpArgs false
open Go.Proofs Go.RowKit Go.W Tryz
namespace Go.W
def jW (P:Fc->Prop) (vs:List T) (r:R):Prop:= ∃ σ,Yjq (Qh vs r) (Jg vs r).1 P σ
end Go.W
namespace Go.P
variable {F F':List Nat}{w w':World}{a:Nat->Addr}{B p D:Nat}{vs:List T}{rv:List Value}{r:R}
attribute [local go_sem] Me
structure GA (a:Nat->Addr) (B p:Nat) (fs:List Fc) (vs:List T) (F:List Nat) (w:World):Prop where
 wd:Df w p fs vs F
 gl:Oq a w
 hF: ∀ i,i∈F->23<=i
 hB:B<=w.heap.size
 hFB: ∀ i,i∈F->B<=i
 PR:fs.length<=60
 inn: ∀ f,f∈fs->MM vs.length f
def Mv (F F':List Nat) (w w':World):Prop:=Off F w w'/\ ∀ i,i∈F'->i∈F\/w.heap.size<=i
def Mv.refl (F:List Nat)(w:World):Mv F F w w:=⟨Off.refl _ _,fun _ h=> .inl h⟩
def Mv.below (h:Bl w w'):Mv F F w w':=⟨Off.of h,fun _ h=> .inl h⟩
def Mv.trans {G H:List Nat}{u v:World}(h:Mv F G u v)(k:Mv G H v w):Mv F H u w:=⟨h.1.trans k.1 h.2,fun i hi=>(k.2 i hi).elim (h.2 i) fun q=> .inr (Ab h.1.size q)⟩
def GA.next {fs:List Fc}{Ia:List T}(h:GA a B p fs vs F w)(hw:Df w' p fs Ia F')(ho:Mv F F' w w')(hl:vs.length<=Ia.length):GA a B p fs Ia F' w':=⟨hw,h.gl.of ho.1 h.hF,fun i hi=>(ho.2 i hi).elim (h.hF i) fun q=>Ab h.gl.most q,Ab h.hB ho.1.size,fun i hi=>(ho.2 i hi).elim (h.hFB i) fun q=>Ab h.hB q,h.PR,fun f q=>(h.inn f q).mono hl⟩
def GA.below {fs:List Fc}(h:GA a B p fs vs F w)(hb:Bl w w'):GA a B p fs vs F w':=h.next (h.wd.of hb.size fun j hj=>hb.block j (h.wd.lt j hj)) (.below hb) lr
def GA.carry {fs:List Fc}(h:GA a B p fs vs F w)(ho:Mv F F' w w'):EG B B w w':=Go.W.Below.carry (ho.1.below h.hFB h.hB) lr
def Yje (a:Nat->Addr) (p:Nat) (fs:List Fc) (us:List T) (b:BD) (F:List Nat) (u:World) (e:Ending) (w':World):Prop:= ∃ c cs F',e= .returned (zq c.q 0)/\c.p=p/\c.b=b/\Ctx a c cs fs us F' [] (zn) [] w'/\Hy cs (fun _=>0) (fun _ _ _=>0)/\Off F u w'/\(∀ i,i∈F'->i∈F\/u.heap.size<=i)/\ ∀ i,i∈c.q::c.m::c.S->u.heap.size<=i
def Z2b {fs:List Fc}(h:GA a B p fs vs F w)(hS:Jy B w (D+1) rv r)(Aq:Jj r)(hl:vs.length+100<100000)(u:World)(hu:Bl w u):
  Calls prog 185 #[zq p 0,.agg rv.toArray] u fun e w'=>Yje a p fs (Jg vs r).1 (Qh vs r) F u e w':=by
 obtain⟨va,pb,cb,pg,cg,rfl,⟨pt,ct,rfl,_,_,hrt⟩,_,aC,_,hrg⟩:=hS;obtain⟨Et,hv2,WH⟩:=Aq.pQ hl;have hc:=Bq hu h.hB;refine(Ybp (h.wd.of hu.size fun j hj=>hu.block j (h.wd.lt j hj)) (hrt.carry fun _ _ _ q=>He.carry hc lr q) Aq.ht Aq.h6 (aC.carry fun _ _ _ q=>Ep.carry hc lr q) (Ab h.hB hu.size) h.hFB Aq.bt Aq.b4 (hrg.carry fun _ _ _ q=>QK.carry hc lr q) (fun g q=>⟨(Aq.gt g q).1,(Aq.gt g q).2.1,g.op.toNat,by have:=(Aq.gt g q).2.2;omega⟩) Aq.g4 hl ⟨fun s hs=>(WH.hd s hs).1,fun p q=>⟨WH.ok.l6 p q,fun s hs=>(WH.at_ p q s hs).1⟩⟩).mono fun e w' hm=>?_;exact hm.ctx (h.gl.of (F:=[]) (Off.of hu) fun _ h=>(by cases h)) h.hF WH
def WhP (Q:Prop) (fs:List Fc) (p:Nat) (F:List Nat) (w:World) (us:List T) (e:Ending) (w':World):Prop:= ∃ (b:Bool) (F':List Nat),e= .returned (.bool b)/\(b=true↔Q)/\Df w' p fs us F'/\Mv F F' w w'
def Z67 {fs:List Fc}(h:GA a B p fs vs F w)(hS:Jy B w (D+1) rv r)(Aq:Jj r)(hl:vs.length+100<100000):
  Calls prog 152 #[zq p 0,.agg rv.toArray] w fun e w'=>WhP (jW (·∈fs) vs r) fs p F w (Jg vs r).1 e w':=by
 have CB:=AC<|Z2b h hS Aq hl;obtain⟨va,pb,cb,pg,cg,rfl,⟨pt,ct,rfl,_,_,hrt⟩,_,aC,_,hrg⟩:=hS;obtain⟨Et,hv2,WH⟩:=Aq.pQ hl;have HI:=AC WH;have HN:AF (∀ f,f∈fs->MM (Jg vs r).1.length f):=⟨fun f q=>(h.inn f q).mono Et⟩;have HW:AF (∀ A B,FU (Qh vs r) (Jg vs r).1 fs fs.length A B->((Gf (Jg vs r).1 [] (Qh vs r).gs=true/\Xq B (Qh vs r).at_.length (Qh vs r).at_.length 0 A)↔jW (·∈fs) vs r)):=⟨fun A B hT=>Z84 hT WH.ok h.PR⟩;have H:=AC h;clear h hrt aC hrg Aq WH Et hv2 hl;generalize (Jg vs r).1=us at*;generalize Qh vs r=b at*;generalize jW (·∈fs) vs r=HR at*;go_in
 go_wp2_with fail
 refine(CB.out _<|(AR _ w).alloc lr _).mono ?_;rintro e w1 ⟨c,cs,F1,rfl,rfl,rfl,KI,RZ,ho,hs,VN⟩;obtain⟨p0,tK⟩: ∃ pf,∃ cf,w1.cell? (zm c.p 0)=some (.slice pf fs.length cf):=by
  obtain⟨k,r',fv,vv,Ff,Fv,hw⟩:=KI.wd;obtain⟨pf,cf,rfl⟩:=AQ.form hw.facts;exact⟨pf,cf,hw.blk.four.1⟩
 obtain⟨c0,hc0⟩:=tK;have Fq:=H.out.PR;have CL:=AC<|Zx5 KI (HI.out.nums HN.out) RZ (seen:=0) (now:=fs.length) zx lr Fq (fun k j _ hj=>by simp[DZ]at hj);have hTI:=(FU.zero c.b us fs).Z7 (Eg _) Fq;generalize Ku c.b us fs (fun _=>0) 0 fs.length c.b.at_.length=A1 at*;generalize UF c.b us fs A1 (fun _ _ _=>0) 0 (LW c.b.at_.length [] A1)=B1 at*;have HT:=AC hTI;have P1:=AC<|AJ ((Off.of (F:=F)<|(AR _ w).alloc lr _).trans ho fun _ h=> .inl h)<|AJ hs VN;clear CB KI RZ ho hs VN hTI;go_wp2_with fail
 refine CL.out.mono ?_;rintro e w2 ⟨rfl,uW,Q7,XP,hc2,Pv,hst⟩;have C2:=AC hc2;have T2:=AC Pv;have ST:=AC hst;have CA:=AC<|Zm4 hc2 (HI.out.nums HN.out).known;have CH:=AC fun u (hu:Bl w2 u)=>Zqx (L:=A1) (hc2.below hu) Pv (HT.out.PR Fq);have cell:=fun j hj=>hc2.cell j hj;have qx: ∀ u,Bl w2 u-> ∀ k,k<4->u.cell? (zm c.q (8+k))=some (.int .u64 (A1 k:Int)):=fun u hu k hk=>((hc2.below hu).cell (8+k) zx).trans (Pv.a k hk).1;have QX:=AC qx;clear CL hc2 Pv hst cell hc0 qx;go_wp2_with fail
 refine mq CA.out ?_;rintro w3 hb3;have DJ:AF (∀ u,Bl w2 u->Df u c.p fs us F1/\Mv F F1 w u):=⟨fun u hu=>⟨(C2.out.below hu).wd,((P1.out.1.trans ST.out.1 fun i hi=> .inr (by
  have q:=P1.out.2.2;simp only[Ak,Lj,or_false]at hi;have h1:(w.alloc<|.cells #[.string r.head.name,.slice pt r.head.terms.length ct,.slice pb r.body.length cb,.slice pg r.guards.length cg] 54).heap.size<=i:=by
   rcases hi with rfl | rfl
   ·exact q _ zw
   ·exact q _ zw
  simp at h1
  omega)).trans (Off.of (F:=[]) hu) fun _ h=>(by cases h)),fun i hi=>(P1.out.2.1 i hi).imp id fun h=>by simp at h;omega⟩⟩
 have UA:=AC hb3;have xZ:=AC<|CH.out w3 hb3;obtain⟨z0,z1,z2,z3⟩:=AJ (QX.out w3 hb3 0 zx)<|AJ (QX.out w3 hb3 1 zx)<|AJ (QX.out w3 hb3 2 zx)<|QX.out w3 hb3 3 zx;have iD:=AC<|HW.out A1 B1 HT.out;clear hb3 CA CH QX HW;cases OY:Gf us [] c.b.gs with
 | false=>
  rw[OY]at iD;have HQ:AF (¬ HR):=⟨fun q=>by have:=(iD.out.2 q).1;cases this⟩;clear iD xZ z0 z1 z2 z3 OY;go_wp2
  go_ret
  exact⟨false,F1,rfl,⟨fun q=>(by cases q),fun q=>absurd q HQ.out⟩,DJ.out w3 UA.out⟩
 | true=>
  rw[OY]at iD;clear OY;unfold D7 at xZ;go_wp2_with fail
  refine xZ.out.mono ?_;rintro e w4 ⟨⟨bb,rfl,E6⟩,hb4⟩;have HQ:AF (bb=true↔HR):=⟨E6.trans ⟨fun q=>iD.out.1 ⟨by trivial,q⟩,fun q=>(iD.out.2 q).2⟩⟩;have U6:=tr UA hb4;clear E6 hb4 xZ z0 z1 z2 z3 iD;go_wp2
  go_ret
  exact⟨bb,F1,rfl,HQ.out,DJ.out w4 U6.out⟩
end Go.P
namespace Go.W
open Classical in
noncomputable def Je (P:Fc->Prop):List T->List R->Bool×List T
 | vs,[]=>(false,vs)
 | vs,r::rs=>if jW P vs r then(true,(Jg vs r).1)else Je P (Jg vs r).1 rs
noncomputable def Su (P:Fc->Prop):List T->List (List R)->Bool×List T
 | vs,[]=>(true,vs)
 | vs,c::cs=>if(Je P vs c).1=true then Su P (Je P vs c).2 cs else(false,(Je P vs c).2)
noncomputable def ZL (P:Fc->Prop):List T->List Dk->Bool×List T
 | vs,[]=>(false,vs)
 | vs,p::ps=>if(Je P vs p.either).1=true then(p.allow,(Je P vs p.either).2)else ZL P (Je P vs p.either).2 ps
def Zuv {P:Fc->Prop}: ∀ (rs:List R) (vs:List T),(∀ r,r∈rs->Jj r)->vs.length+38*rs.length+100<100000->vs.length<=(Je P vs rs).2.length/\(Je P vs rs).2.length<=vs.length+38*rs.length
 | [],vs,_,_=>⟨EO _,EO _⟩
 | r::rs,vs,h,hl=>by
  rw[DU]at hl⊢;obtain⟨h1,h2,_⟩:=(h r zw).pQ (vs:=vs) zx
  have:=Zuv (P:=P) rs (Jg vs r).1 (fun x q=>h x (by simp[q])) zx
  rw[Je];split
  ·dsimp only;omega
  ·omega
end Go.W
namespace Go.P
variable {rs:List R}
attribute [local go_sem] Me
section
variable {a:Nat->Addr} {w:World} {B p D c:Nat} {fs:List Fc} {vs:List T} {F:List Nat} {pr:Option Addr}
def Yjh (b:Bool) (e:Ending):Prop:= ∃ i:Int,e= .returned (zo i)/\decide (0<=i)=b
def Z6c (h:GA a B p fs vs F w)(hr:Ap 4 (FJ B w<|D+2) pr rs)(Aq: ∀ r,r∈rs->Jj r)(hl:vs.length+38*rs.length+100<100000):
  Calls prog 188 #[.slice pr rs.length c,.func (.func 152) #[zq p 0] #[]] w fun e w'=>Yjh (Je (·∈fs) vs rs).1 e/\ ∃ F',GA a B p fs (Je (·∈fs) vs rs).2 F' w'/\Mv F F' w w':=by
 have hen: ∀ args w,(callFunc 152 args).run prog w= .ok (.enter 152 args) w:=EH func152 zt rfl;obtain⟨n,hn⟩: ∃ n,AF (rs.length=n):=⟨_,⟨rfl⟩⟩;rw[hn.out]at hl⊢;have H:=AC h;have HR:=AC hr;have HO:=AC Aq;have tX:=hr.len;rw[hn.out]at tX;clear h hr Aq;go_in
 go_wp2
 go_loopw [8] (fun iv wr=> ∃ (k:Nat) (us:List T) (F':List Nat),k<=n/\iv= zo (k:Int)/\GA a B p fs us F' wr/\Mv F F' w wr/\us.length<=vs.length+38*k/\Je (·∈fs) vs rs=Je (·∈fs) us (rs.drop k)) (fun iv _=>n-(intOf iv).toNat)
 case atStart=>exact⟨0,vs,F,Eg _,rfl,H.out,Mv.refl _ _,zx,rfl⟩
 case round=>
  obtain⟨k,us,F',hk,rfl,hwd,Pg,hul,Ce⟩:=hrel;by_cases hlt:k<n
  ·have g:(k:Int)<(n:Int):=zx
   obtain⟨r,hrk⟩: ∃ r,rs[k]?=some r:=⟨_,A8 (by have:=hn.out;omega)⟩;have hro:=HO.out r<|Ej hrk;obtain⟨b,o,rfl,hA⟩:=HR.out.at_ k r hrk;obtain⟨VO,p1,c1,p2,c2,p3,c3,z0,z1,z2,z3,hS⟩:=(FJ.carry (H.out.carry Pg) lr hA).vals;have hdr:rs.drop k=r::rs.drop (k+1):=by rw[<- (DW.1 hrk).2,List.drop_eq_getElem_cons (by have:=hn.out;omega)]
   rw[hdr,Je]at Ce;obtain⟨m1,m2,_⟩:=hro.pQ (vs:=us) zx;have CH:=AC<|Z67 hwd hS hro zx;have Ao:=AC<|AJ hwd<|AJ Pg<|AJ Ce<|AJ m1 m2;clear hwd Pg Ce hA hS hdr hrk hro m1 m2;go_wp2_with fail
   refine CH.out.mono ?_;rintro e w1 ⟨bb,F1,rfl,E6,BI,NP⟩;have W1:=AC<|Ao.out.1.next BI NP Ao.out.2.2.2.1;have M1:=AC<|Ao.out.2.1.trans NP;have HI:=AC E6;clear E6 BI NP;cases bb with
   | true=>
    have E:=AC<|Ao.out.2.2.1.trans<|if_pos<|HI.out.1 rfl;go_wp2
    go_ret
    rw[E.out];exact⟨⟨_,rfl,zw⟩,F1,W1.out,M1.out⟩
   | false=>
    have E:=AC<|Ao.out.2.2.1.trans (if_neg fun q=>by have:=HI.out.2 q;cases this);go_wp2
    exact⟨⟨k+1,_,F1,zx,zw,W1.out,M1.out,by have:=Ao.out.2.2.2.2;omega,E.out⟩,by simp[intOf];omega⟩
  ·obtain rfl:k=n:=zx
   have hdr:rs.drop k=[]:=List.drop_eq_nil_of_le (by have:=hn.out;omega);rw[hdr,Je]at Ce;have Ao:=AC<|AJ hwd<|AJ Pg Ce;clear hwd Pg Ce hdr;go_wp2
   go_ret
   rw[Ao.out.2.2];exact⟨⟨-1,rfl,rfl⟩,F',Ao.out.1,Ao.out.2.1⟩
def Zv2 (h:GA a B p fs vs F w)(hr:Ap 4 (FJ B w<|D+2) pr rs)(Aq: ∀ r,r∈rs->Jj r)(hl:vs.length+38*rs.length+100<100000):
  Calls prog 151 #[.slice pr rs.length c,.func (.func 152) #[zq p 0] #[]] w fun e w'=>e= .returned (.bool (Je (·∈fs) vs rs).1)/\ ∃ F',GA a B p fs (Je (·∈fs) vs rs).2 F' w'/\Mv F F' w w':=by
 have C:=AC<|Z6c (c:=c) h hr Aq hl;clear h hr Aq hl;generalize rs.length=n at*;go_in
 go_wp2_with fail
 refine C.out.mono ?_;rintro e w1 ⟨⟨i,rfl,hi⟩,j⟩;have J1:=AC j;clear j C;go_wp2
 go_ret
 first | exact⟨rfl,J1.out⟩ | exact⟨by rw[hi],J1.out⟩
def Zoc (h:GA a B p fs vs F w)(hr:Ap 4 (FJ B w<|D+2) pr rs)(Aq: ∀ r,r∈rs->Jj r)(hl:vs.length+38*rs.length+100<100000):
  Calls prog 102 #[zq p 0,.slice pr rs.length c] w fun e w'=>e= .returned (.bool (Je (·∈fs) vs rs).1)/\ ∃ F',GA a B p fs (Je (·∈fs) vs rs).2 F' w'/\Mv F F' w w':=by
 have C:=AC<|Zv2 (c:=c) h hr Aq hl;have Ho:=fun(fn:Fn) (first cap:Array Value) (w:World)=>(rfl:(Instr.makeFunc fn first cap).run prog w= .ok (.func fn first cap) w);clear h hr Aq hl;generalize rs.length=n at*;go_in
 go_wp2_with fail
 refine mq C.out ?_;rintro w1 j;have J1:=AC j;clear j C;go_wp2
 go_ret
 exact⟨rfl,J1.out⟩
def Z55 (h:GA a B p fs vs F w){cs:List (List R)}(hr:Ap 1 (Go.W.Rw B w<|D+3) pr cs)(Aq: ∀ x,x∈cs->x.length<=4/\ ∀ r,r∈x->Jj r)(zC:cs.length<=24)(hl:vs.length<90000):
  Calls prog 59 #[zq p 0,.slice pr cs.length c] w fun e w'=>e= .returned (.bool (Su (·∈fs) vs cs).1)/\ ∃ F',GA a B p fs (Su (·∈fs) vs cs).2 F' w'/\Mv F F' w w'/\(Su (·∈fs) vs cs).2.length<=vs.length+4000:=by
 obtain⟨n,hn⟩: ∃ n,AF (cs.length=n):=⟨_,⟨rfl⟩⟩;rw[hn.out]at zC⊢;have H:=AC h;have HR:=AC hr;have HO:=AC Aq;clear h hr Aq;go_in
 go_wp2
 go_loopw [9] (fun iv wr=> ∃ (k:Nat) (us:List T) (F':List Nat),k<=n/\iv= zo (k:Int)/\GA a B p fs us F' wr/\Mv F F' w wr/\us.length<=vs.length+152*k/\Su (·∈fs) vs cs=Su (·∈fs) us (cs.drop k)) (fun iv _=>n-(intOf iv).toNat)
 case atStart=>exact⟨0,vs,F,Eg _,rfl,H.out,Mv.refl _ _,zx,rfl⟩
 case round=>
  obtain⟨k,us,F',hk,rfl,hwd,Pg,hul,Ce⟩:=hrel;by_cases hlt:k<n
  ·have g:(k:Int)<(n:Int):=zx
   obtain⟨x,GR⟩: ∃ x,cs[k]?=some x:=⟨_,A8 (by have:=hn.out;omega)⟩;obtain⟨hx4,Ou⟩:=HO.out x<|Ej GR;obtain⟨b,o,rfl,hA⟩:=HR.out.at_ k x GR;obtain⟨VO,p1,c1,z0,hS⟩:=(Go.W.Rw.carry (H.out.carry Pg) lr hA).vals;rw[Nat.mul_one]at z0;obtain⟨yC,Sn,e1,_,hrow⟩:=hS;injection e1 with e1 _;injection e1 with e1 _ e3;subst e1;subst e3;have hdr:cs.drop k=x::cs.drop (k+1):=by rw[<- (DW.1 GR).2,List.drop_eq_getElem_cons (by have:=hn.out;omega)]
   rw[hdr,Su]at Ce;have KM:=Zuv (P:=(·∈fs)) x us Ou zx;have CH:=AC fun u (hu:Bl wr u)=>Zoc (c:=c1) (hwd.below hu) (hrow.carry fun _ _ _ q=>FJ.carry (Bq hu hwd.hB) lr q) Ou zx;have Ao:=AC<|AJ hwd<|AJ Pg<|AJ Ce KM;generalize FY:x.length=nx at*;clear hwd Pg Ce hA hrow hdr GR Ou KM FY;go_wp2_with fail
   refine(CH.out _<|(AR _ wr).alloc lr _).mono ?_;rintro e w1 ⟨rfl,F1,BI,NP⟩;have W1:=AC<|AJ BI<|Ao.out.2.1.trans<|(Mv.below<|(AR _ wr).alloc lr _).trans NP;clear BI NP CH;generalize hab:Je (·∈fs) us x=av at*;obtain⟨bb,us'⟩:=av;clear hab;cases bb with
   | true=>
    have E:=AC<|Ao.out.2.2.1.trans<|if_pos rfl;go_wp2
    exact⟨⟨k+1,_,F1,zx,zw,W1.out.1,W1.out.2,by have:=Ao.out.2.2.2;omega,E.out⟩,by simp[intOf];omega⟩
   | false=>
    have E:=AC<|Ao.out.2.2.1.trans<|if_neg zw;go_wp2
    go_ret
    rw[E.out];exact⟨rfl,F1,W1.out.1,W1.out.2,by have:=Ao.out.2.2.2;dsimp only at*;omega⟩
  ·obtain rfl:k=n:=zx
   have hdr:cs.drop k=[]:=List.drop_eq_nil_of_le (by have:=hn.out;omega);rw[hdr,Su]at Ce;have Ao:=AC<|AJ hwd<|AJ Pg Ce;clear hwd Pg Ce hdr;go_wp2
   go_ret
   rw[Ao.out.2.2];exact⟨rfl,F',Ao.out.1,Ao.out.2.1,by dsimp only;omega⟩
def Z4g (h:GA a B p fs vs F w){ps:List Dk}(hr:Ap 2 (Jh B w<|D+3) pr ps)(Aq: ∀ x,x∈ps->x.either.length<=4/\ ∀ r,r∈x.either->Jj r)(zC:ps.length<=24)(hl:vs.length<90000):
  Calls prog 60 #[zq p 0,.slice pr ps.length c] w fun e w'=>e= .returned (.bool (ZL (·∈fs) vs ps).1)/\ ∃ F',Mv F F' w w':=by
 obtain⟨n,hn⟩: ∃ n,AF (ps.length=n):=⟨_,⟨rfl⟩⟩;rw[hn.out]at zC⊢;have H:=AC h;have HR:=AC hr;have HO:=AC Aq;clear h hr Aq;go_in
 go_wp2
 go_loopw [9] (fun iv wr=> ∃ (k:Nat) (us:List T) (F':List Nat),k<=n/\iv= zo (k:Int)/\GA a B p fs us F' wr/\Mv F F' w wr/\us.length<=vs.length+152*k/\ZL (·∈fs) vs ps=ZL (·∈fs) us (ps.drop k)) (fun iv _=>n-(intOf iv).toNat)
 case atStart=>exact⟨0,vs,F,Eg _,rfl,H.out,Mv.refl _ _,zx,rfl⟩
 case round=>
  obtain⟨k,us,F',hk,rfl,hwd,Pg,hul,Ce⟩:=hrel;by_cases hlt:k<n
  ·have g:(k:Int)<(n:Int):=zx
   obtain⟨x,GR⟩: ∃ x,ps[k]?=some x:=⟨_,A8 (by have:=hn.out;omega)⟩;obtain⟨hx4,Ou⟩:=HO.out x<|Ej GR;obtain⟨b,o,rfl,hA⟩:=HR.out.at_ k x GR;obtain⟨VO,p1,c1,z0,z1,hS⟩:=(Jh.carry (H.out.carry Pg) lr hA).vals;obtain⟨yC,Sn,e1,_,hrow⟩:=hS;injection e1 with _ e1;injection e1 with e1 _;injection e1 with e1 _ e3;subst e1;subst e3;have hdr:ps.drop k=x::ps.drop (k+1):=by rw[<- (DW.1 GR).2,List.drop_eq_getElem_cons (by have:=hn.out;omega)]
   rw[hdr,ZL]at Ce;have KM:=Zuv (P:=(·∈fs)) x.either us Ou zx;have CH:=AC fun u (hu:Bl wr u)=>Zoc (c:=c1) (hwd.below hu) (hrow.carry fun _ _ _ q=>FJ.carry (Bq hu hwd.hB) lr q) Ou zx;have Ao:=AC<|AJ hwd<|AJ Pg<|AJ Ce KM;generalize FY:x.either.length=nx at*;generalize mM:x.allow=ba at*;clear hwd Pg Ce hA hrow hdr GR Ou KM FY;go_wp2_with fail
   refine(CH.out _<|(AR _ wr).alloc lr _).mono ?_;rintro e w1 ⟨rfl,F1,BI,NP⟩;have hwF:wr.heap.size∉F':=fun q=>by have:=Ao.out.1.wd.lt _ q;omega
   have y0:=((AO.new wr #[.bool ba,.slice p1 nx c1] 128).of<|NP.1.block wr.heap.size zw hwF).two.1;have W1:=AC<|AJ BI<|Ao.out.2.1.trans<|(Mv.below<|(AR _ wr).alloc lr _).trans NP;clear BI NP CH hwF;generalize hab:Je (·∈fs) us x.either=av at*;obtain⟨bb,us'⟩:=av;clear hab;cases bb with
   | true=>
    have E:=AC<|Ao.out.2.2.1.trans<|if_pos rfl;go_wp2
    go_ret
    rw[E.out];exact⟨rfl,F1,W1.out.2⟩
   | false=>
    have E:=AC<|Ao.out.2.2.1.trans<|if_neg zw;go_wp2
    exact⟨⟨k+1,_,F1,zx,zw,W1.out.1,W1.out.2,by have:=Ao.out.2.2.2;omega,E.out⟩,by simp[intOf];omega⟩
  ·obtain rfl:k=n:=zx
   have hdr:ps.drop k=[]:=List.drop_eq_nil_of_le (by have:=hn.out;omega);rw[hdr,ZL]at Ce;have Ao:=AC<|AJ Pg Ce;clear hwd Pg Ce hdr;go_wp2
   go_ret
   rw[Ao.out.2];exact⟨rfl,F',Ao.out.1⟩
end
end Go.P
