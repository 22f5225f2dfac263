import Derived.Test.YtpmcefkhkkpnbaaGreatDoorW39
import Derived.Test.YtpmcefkhkkpnbaaGreatDoorW46
set_option linter.all false
set_option maxRecDepth 100000
set_option maxHeartbeats 8000000
open Go.Proofs Go.RowKit Go.W Tryz
namespace Go.W
variable {d b o:Nat}
abbrev Ypi (B:Nat) (w:Bb) (D:Nat):Mem:=⟨fun b o x=> @He Zst B w D b o x⟩
section
variable {B D:Nat} {w:Bb}
theorem He.lift: ∀ {d b o:Nat} {x:T},d<=D-> @He Zst B w d b o x-> @He (Ypi B w D) B w d b o x:=by
 intro d;induction d with
 | zero=>intro b o x _ h;exact h.elim
 | succ d ih=>
  intro b o x hd h;have h0:=h;obtain⟨hb,lv,c0,c1,c2,c3,hi⟩:=h;exact⟨⟨hb.1,He.cy (EG.up lr) hd h0⟩,lv,c0,c1,c2,c3,hi.imp fun b o y q=>ih zx q⟩
theorem rG.lift {v:Value}{l:List T}(hd:d<=D)(h: @rG Zst B w d v l): @rG (Ypi B w D) B w d v l:=h.imp fun _ _ _ _ q=>He.lift hd q
theorem Ep.lift {x:A}(hd:d<=D)(h: @Ep Zst B w d b o x): @Ep (Ypi B w D) B w d b o x:=by
 obtain⟨h1,h2,h3,v,h4,h5⟩:=h;exact @Ep.mk (Ypi B w D) _ _ _ _ _ _ h1 h2 h3 ⟨v,h4,rG.lift hd h5⟩
theorem QK.lift {x:G}(hd:d<=D)(h: @QK Zst B w d b o x): @QK (Ypi B w D) B w d b o x:=by
 obtain⟨h1,h2,h3,h4,h5⟩:=h;exact @QK.mk (Ypi B w D) _ _ _ _ _ _ h1 h2 h3 (He.lift hd h4)<|He.lift hd h5
theorem FJ.lift {x:R}(hd:d<=D)(h: @FJ Zst B w d b o x): @FJ (Ypi B w D) B w d b o x:=by
 obtain⟨h1,h2,⟨v,h3,h4⟩,u,h5,h6⟩:=h;exact @FJ.mk (Ypi B w D) _ _ _ _ _ _ h1 (Ep.lift hd h2) ⟨v,h3,h4.imp fun _ _ _ _ q=>Ep.lift hd q⟩ ⟨u,h5,h6.imp fun _ _ _ _ q=>QK.lift hd q⟩
end
variable {B D cf cr:Nat}{w:Bb}{a:Nat->Addr}{x:Bk}{pf pr:Bp}
theorem Df.tw {p:Nat}{u:Bb}{fs:List Fc}{vs:List T}{F:Cg}(h: @Df (Ypi B w D) u p fs vs F)(hB:B<=w.heap.size)(hu:Bl w u)(Aq: ∀ x,x∈vs->x.t.size<1000000000/\Gq x.k/\Gq x.i):Yp9 B u D p fs vs:=by
 obtain⟨k,r,fv,vv,Ff,Fv,hblk,hfacts,hvals,_⟩:=h;obtain⟨p1,c1,rfl,_,h1⟩:=AQ.rowX (Q':=Yqk u) hfacts fun b o cs x G hc _ _ ⟨_,e⟩ j v hj=>by
  subst e;have hj8:j<8:=(DW.1 hj).1;rw[hc j hj8];exact hj
 obtain⟨p2,c2,rfl,_,h2⟩:=AQ.rowX (Q':=Yqp B u D) hvals fun b o cs x G hc _ _ ⟨_,p,c,e,hr⟩=>by
  subst e;exact⟨p,c,hc 0 zx,hc 1 zx,hc 2 zx,hc 3 zx,hr.cy fun _ _ _ q=>He.cy (Go.W.Bq hu hB) lr q⟩
 exact⟨⟨p1,c1,hblk.cell 0,h1⟩,⟨p2,c2,hblk.cell 2,h2⟩,Aq⟩
def Yqr (a:Nat->Addr) (x:Bk) (D:Nat) (w:Bb) (e:Ending) (w':Bb):Prop:=Bl w w'/\(e=uY (.tuple #[zn,BG a 4])\/ ∃ q c out,e=uY (.tuple #[sP q (List.length out) c,.nilIface])/\out.length<=c/\out.length<=60/\out.Nodup/\Yno x.fa x.ru out/\(∀ y,y∈out-> ∀ t,t∈y.te->t.k≠1)/\Ap 2 (Ep w'.heap.size w'<|D+3) q out)
theorem Ypm (CL:Gg)(V:D9)(hG:Oq a w)(hB:B<=w.heap.size)(hx:IU x=0)(hi:QA x)(hf:Ap 2 (Ep B w<|D+2) pf x.fa)(hfc:x.fa.length<=cf)(hr:Ap 4 (FJ B w<|D+2) pr x.ru)(l9:x.ru.length<=cr):Calls prog 15 #[sP pf x.fa.length cf,sP pr x.ru.length cr] w fun e w'=>Yqr a x D w e w':=by
 have k:=kY.of hx;have CW:=AC fun u (hu:Bl w u)=>Zhn V (w:=u) (D:=D+1) (x:=⟨x.fa,x.ru,[]⟩) (hG.sent.be hu) (Ab hB hu.size) ⟨pf,cf,pr,cr,none,0,rfl,hfc,hf.cy fun _ _ _ q=>q.cy (Go.W.Bq hu hB) lr,l9,hr.cy fun _ _ _ q=>q.cy (Go.W.Bq hu hB) lr,EO _,zw,fun _ _ h=>by simp at h⟩;rw[show IU ⟨x.fa,x.ru,[]⟩=0 by
  unfold IU at hx⊢;obtain⟨h1,h2⟩:=NI (fun q=>q) hx;obtain⟨h3,h4⟩:=NI (fun q=>q) h2;rw[xd h1,xd h3]
  rfl]at CW
 have CC:AF (∀ u,Bl w u->Calls prog 25 #[sP pf x.fa.length cf,sP pr x.ru.length cr] u fun e w'=> ∃ p r fs F,e=uY (.tuple #[zq p 0,.bool r])/\Bl u w'/\(r=true->fs.length<=60/\fs.Nodup/\(∀ f,f∈fs->MM (Vb x.fa x.ru).1.length f)/\kR x.fa x.ru/\(∀ f,f∈fs↔Uc x.fa x.ru f)/\ @Df (Ypi B u<|D+2) w' p fs (Vb x.fa x.ru).1 F)):=⟨fun u hu=>by
  have:= @Zqb (Ypi B u<|D+2) a u (hG.of (F:=[]) (Off.of hu) fun _ h=>by cases h) B D (Ab hB hu.size) x.fa x.ru pf pr cf cr (hf.cy fun _ _ _ q=>Ep.lift lr (q.cy (Go.W.Bq hu hB) lr)) k.fo (fw (k.fl)) (hr.cy fun _ _ _ q=>FJ.lift lr (q.cy (Go.W.Bq hu hB) lr)) k.ro (fw (k.rl))
  refine this.mono fun e w' hq=>?_;obtain⟨p,r,fs,F,h1,h2,h3,h4,h5,_⟩:=hq;obtain⟨hwd,_,_,_,_,hl,hn⟩:=h4;exact⟨p,r,fs,F,h1,h5,fun q=>⟨hl,(h3 q).1,hn,h2.1 q,(h3 q).2,hwd⟩⟩⟩
 have HI:=AC<|AJ hx hi;have CL':=AC CL;have HG:=AC hG;clear hf hr hfc l9 hG hx hi k V;generalize x.fa.length=nf at*;generalize x.ru.length=nr at*;go_in
 go_wp2_with fail
 have b1:=zv w<|.cells #[sP pf nf cf,sP pr nr cr,zn] 38;generalize w.alloc (.cells #[sP pf nf cf,sP pr nr cr,zn] 38)=W1 at*;apply(CW.o _ b1).mono;rintro e w2 ⟨rfl,hb2⟩;have B2:=AC<|b1.trans<|hb2.mono b1.size;rw[JR];clear hb2 CW b1;go_wp2_with fail
 apply(CC.o _ B2.o).mono;rintro e w3 ⟨p,r,fs,F,rfl,hb3,h3⟩;have B3:=tr B2 hb3;have UA:=AC hb3;have H3:=AC h3;have z4:=Cb HG.o.sent.c4 B3.o;clear hb3 h3 CC;cases r with
 | false=>
  clear H3;go_wp2
  go_quiet (fail)
  go_wp2
  go_ret2
  exact⟨B3.o.CY _,.inl rfl⟩
 | true=>
  obtain⟨Fq,QW,Ci,hroom,hfs,hwd⟩:=H3.o rfl;obtain⟨q1,q2,q3⟩:=Ypl HI.o.1 HI.o.2 hroom QW hfs Ci;have CT:=AC<|Ypq CL'.o (Ab hB B3.o.size) (Df.tw hwd (Ab hB B2.o.size) UA.o q2) (l:=fs.map<|Yn1 (Vb x.fa x.ru).1) ⟨zw,fun i f y hf hy=>by
   rw[FK,hf]at hy;cases hy;have hm:=Ej hf;exact⟨(q1 f hm).1,(Ci f hm).name,(Ci f hm).len,(q1 f hm).2⟩⟩ Fq
  have Q3:=AC q3;have H60:=AC Fq;clear H3 QW Ci hroom hfs hwd q1 q2 q3 Fq z4;go_wp2_with fail
  apply CT.o.mono;rintro e w4 ⟨q,c,out,rfl,hle,hp,hrow,hb4⟩;have DJ:=AC<|AJ (Q3.o out hp)<|AJ hrow (tr B3 hb4).o;have Xc:AF (out.length<=60):=⟨by rw[hp.length_eq,Dj];exact H60.o⟩;clear CT hp hrow hb4;go_wp2
  go_ret2
  exact⟨DJ.o.2.2,.inr ⟨q,c,out,rfl,hle,Xc.o,DJ.o.1.1,DJ.o.1.2.1,DJ.o.1.2.2,DJ.o.2.1⟩⟩
theorem Yo8 (CL:Gg)(V:D9)(hG:Oq a w)(E:IL a w)(hB:B<=w.heap.size)(hx:IU x=0)(hi:QA x)(hf:Ap 2 (Ep B w<|D+2) pf x.fa)(hfc:x.fa.length<=cf)(hr:Ap 4 (FJ B w<|D+2) pr x.ru)(l9:x.ru.length<=cr):Calls prog 6 #[sP pf x.fa.length cf,sP pr x.ru.length cr] w fun e w'=>Yqb x D w e w':=by
 have CS:=AC<|Ypm CL V hG hB hx hi hf hfc hr l9;have CN:=AC fun u (hu:Bl w u)=>Z9y (n:=4) (hG.sent.be hu) (E.be hu) (.inr (by unfold PO;decide));have CZ:=AC fun u=>kD u;clear hf hr hfc l9 hG hx hi V CL E;generalize x.fa.length=nf at*;generalize x.ru.length=nr at*;go_in
 go_wp2_with fail
 apply CS.o.mono;rintro e w1 ⟨hb1,(rfl | ⟨q,c,out,rfl,h⟩)⟩
 .have B1:=AC hb1;clear hb1 CS;go_wp2_with fail
  apply(CN.o _ B1.o).mono;rintro e w2 ⟨rfl,hb2⟩;have B2:=tr B1 hb2;clear hb2;go_wp2
  go_ret2
  exact⟨B2.o,.inl rfl⟩
 .have B1:=AC hb1;have H:=AC h;clear hb1 h CS;go_wp2_with fail
  apply(CZ.o _).mono;rintro e w2 ⟨rfl,rfl⟩;go_wp2
  go_ret2
  exact⟨B1.o,.inr ⟨q,c,out,rfl,H.o⟩⟩
theorem Kp.clo {L n:Nat}{u:Bb}(h:Kp L u n)(hn:n<=65536)(hb:Bl u w): ∃ pb nb cb bs,Clo L w pb nb cb bs:=by
 obtain⟨vb,vp,vk,vc,vy,vr,vd,bs,ys,rs,ds,ps,Fb,Fy,Fr,Fd,Fp,H0,_,_,_,l1,l2,l3,l4,l5,_⟩:=h;have H:=H0.la hb;obtain⟨pb,cb,rfl,hcb,rb⟩:=AQ.rowOf (Q':=Iz w.heap.size w 4) H.rb H.nb.lt fun _ _ _ _ _ hcc G4 hG q=>Dx.at_ q hG G4 hcc;refine⟨pb,_,cb,bs,H.blk.cell 0,rfl,zx,rb,fun x hx=>?_⟩;obtain⟨t,ht⟩:=l5 x hx;obtain⟨i,hi⟩:=List.mem_iff_getElem?.1 hx;obtain⟨b,o,_,hat⟩:=rb.at_ i x hi;obtain⟨_,_,_,_,_,_,_,_,_,_,hS⟩:=hat.vals;exact⟨Yor ht,EZ.cZ zx hS⟩
theorem Yo6 {a:Nat->Addr}{p:Bp}{c:Nat}{zs:List (Int×Int×Ay)}(V:D9)(CL:Gg)(h:rJ w p zs)(hl:zs.length<140737488355328)(G:Oq a w)(E:IL a w):Calls prog 3 #[sP p zs.length c] w fun e w'=>e=uY (.bool true)/\Bl w w':=
 Ypb (R:=fun w1=>Kp w.heap.size w1 zs.length/\zs.length<=65536) ⟨(Z35 (c:=c) h hl G.sent E).mono fun _ _ q=>q.imp id fun q=>⟨q.1,⟨q.2.1,q.2.2.1⟩,q.2.2.2⟩⟩ ⟨fun _ hu=>Zww V CL (G.be hu) (E.be hu)⟩ ⟨fun _ hu _ _ _ _ _ h1 h2 h3 h4 h5 h6=>Yo8 CL V (G.be hu) (E.be hu) lr h1 h2 h3 h4 h5 h6⟩ ⟨fun _ _ hR hb=>hR.1.clo hR.2 hb⟩
end Go.W
