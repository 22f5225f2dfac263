import Derived.Test.YtghnjdpgbldlkaaGreatDoorW32
import Derived.Test.YtghnjdpgbldlkaaGreatDoorW38
set_option linter.defProp false
set_option maxRecDepth 100000
set_option maxHeartbeats 8000000
set_option linter.unusedSimpArgs false
open Go.Proofs Go.RowKit Go.W Tryz
namespace Go.P
attribute [local go_sem] MZ
def Zv4: ∀ (l:List A) (st:List T×List Pt),(l.foldl IL st).2.length=st.2.length+l.length
 | [],_=>rfl
 | a::l,st=>by rw[List.foldl_cons,Zv4 l];simp[IL];omega
def Zv3: ∀ (l:List G) (st:List T×List Gt),(l.foldl Qk st).2.length=st.2.length+l.length
 | [],_=>rfl
 | a::l,st=>by rw[List.foldl_cons,Zv3 l];simp[Qk];omega
abbrev XY (w w':World) (e:Ending) (p:Nat) (hn:ByteArray) (hd:Option (ByteArray×Nat)) (hm:Option ByteArray) (at_:List Pt) (gs:List Gt) (fs:List (ByteArray×Nat)) (vs:List T) (F:List Nat):Prop:= ∃ q m sv Fa gv Fg hv Gh ov Go F',e= .returned (.pointer<|Qb q 0)/\AJ w' q ((((Nk p m hn hv).setIfInBounds 3 sv).setIfInBounds 4 gv).setIfInBounds 5 ov) 344/\w'.heap[m]?=some (.map #[] 0)/\AO 323 2 LJ w' sv at_ Fa/\AO 373 5 Qw w' gv gs Fg/\QP w' hv hd Gh/\VH w' ov hm Go/\Bv w' p fs vs F'/\Off F w w'/\(∀ i,i∈F'->i∈F\/w.heap.size<=i)/\(∀ i,i∈q::m::(Fa++(Fg++(Gh++Go)))->w.heap.size<=i/\i<w'.heap.size/\i∉F')/\(∀ i,i∈Fa++(Fg++(Gh++Go))->i≠q/\i≠m)/\q≠m
def ug {w:World}{p:Nat}{fs:List (ByteArray×Nat)}{vs1:List T}{F:List Nat}{B D:Nat}{bd:List A}{gu:List G}{hn:ByteArray}{pt pb pg:Option Addr}{nt ct cb cg:Nat}(hb:Ap 2 (DX B w<|D+2) pb bd)(hB:B<=w.heap.size)(Ku: ∀ i,i∈F->B<=i)(F9: ∀ i,i∈F->i<w.heap.size)(h1: ∀ a,a∈bd-> ∃ t,a.terms=[t]/\A9 0 t=0)(hl4:bd.length<=4)(hlv: ∀ k,((bd.take k).foldl IL (vs1,[])).1.length<900)(hg:Ap 9 (JN B w<|D+2) pg gu)(h2: ∀ g,g∈gu->A9 0 g.a=0/\A9 0 g.b=0/\ ∃ n:Nat,g.op=(n:Int))(hg4:gu.length<=4)(zh: ∀ k,((gu.take k).foldl Qk ((bd.foldl IL (vs1,[])).1,[])).1.length<900)
  {hd:Option (ByteArray×Nat)} {hm:Option ByteArray} (CP: ∀ u,Bl w u->Calls prog 224 #[.pointer<|Qb p 0,.agg #[.string hn,.slice pt nt ct]] u fun e w'=> ∃ pa n c Gh,e= .returned (.agg #[.string hn,.slice pa n c])/\QP w' (.slice pa n c) hd Gh/\(∀ i,i∈Gh->u.heap.size<=i/\i<w'.heap.size)/\ ∃ F',Bv w' p fs vs1 F'/\Off F u w'/\(∀ i,i∈F'->i∈F\/u.heap.size<=i)/\ ∀ i,i∈Gh->i∉F')
  (CM: ∀ u hv Gh sv Fa,QP u hv hd Gh->AO 323 2 LJ u sv (bd.foldl IL (vs1,[])).2 Fa->Calls prog 252 #[.agg #[.string hn,hv],sv] u fun e w'=> ∃ po no co Go,e= .returned (.slice po no co)/\VH w' (.slice po no co) hm Go/\(∀ i,i∈Go->u.heap.size<=i/\i<w'.heap.size)/\Bl u w'):
  Calls prog 226 #[.pointer<|Qb p 0,.agg #[.string hn,.slice pt nt ct,.slice pb bd.length cb,.slice pg gu.length cg]] w fun e w'=>XY w w' e p hn hd hm (bd.foldl IL (vs1,[])).2 (gu.foldl Qk ((bd.foldl IL (vs1,[])).1,[])).2 fs (gu.foldl Qk ((bd.foldl IL (vs1,[])).1,[])).1 F:=by
 have aN: ∀ w,(Instr.makeMap 313 none).run prog w= .ok (.map<|some w.heap.size) (w.alloc<|.map #[] 0):=Zjc;have hbe:=Z8i;obtain⟨nb,VW⟩: ∃ nb,AC (bd.length=nb):=⟨_,⟨rfl⟩⟩;obtain⟨ng,hng⟩: ∃ ng,AC (gu.length=ng):=⟨_,⟨rfl⟩⟩;rw[VW.out]at hl4;rw[hng.out]at hg4;rw[VW.out,hng.out];have yA:=AA hb;have RE:=AA hlv;have H1:=AA h1;have HCP:=AA CP;have HCM:=AA CM;have HGD:=AA hg;have H2:=AA h2;have HLG:=AA zh;clear hb hlv h1 CP CM hg h2 zh;refine Qx func226 rfl ?_;simp only[ntmps226,E9,BO,D7,Nat.reduceAdd,Nat.reduceSub,Ju,Jv,Jr,Jt,FK,Gm];go_wp2_with fail
 refine(HCP.out _<|(AQ _ w).alloc lr _).mono ?_;rintro e w2 ⟨pa,n,c,Gh,rfl,hHh,rX,F1,hw2,EU,hs2,hG1⟩;have Xp:AC (∀ i,i∈Gh->w.heap.size+1<=i/\i<w2.heap.size/\i∉F1):=⟨fun i hi=>⟨by have:=(rX i hi).1;simpa using this,(rX i hi).2,hG1 i hi⟩⟩;clear rX hG1;have lF:w.heap.size∉F:=fun h=>by have:=F9 _ h;omega
 have R2:=(AJ.new w #[.string hn,.slice pt nt ct,.slice pb nb cb,.slice pg ng cg] 98).of<|EU.block w.heap.size zw lF;have l2:w.heap.size<w2.heap.size:=R2.lt;obtain⟨W0,hW0⟩: ∃ W0,AC ((w2.alloc<|.map #[] 0).alloc (.cells (Nk p w2.heap.size hn<|.slice pa n c) 344)=W0):=⟨_,⟨rfl⟩⟩;have B0:Bl w2 W0:=hW0.out▸((AQ _ w2).alloc lr _).alloc zw _;have S0:W0.heap.size=w2.heap.size+2:=by rw[<- hW0.out];simp
 have L1:AJ W0 (w2.heap.size+1) (Nk p w2.heap.size hn<|.slice pa n c) 344:=hW0.out▸Jd w2 _ _ _;have R0:=AA<|R2.of<|B0.block _ l2;obtain⟨r0,r1,r2,r3,rs⟩:=R0.out.four;have yl:=r2;rw[<- hW0.out]at yl;have hO0:Off F w W0:=(((Off.of<|(AQ _ w).alloc lr _).trans EU fun _ h=> .inl h)).trans (Off.of (F:=[]) B0) fun _ h=>(by cases h);have hs1: ∀ i,i∈F1->i∈F\/(w.heap.size+1<=i/\i<w2.heap.size):=fun i hi=>(hs2 i hi).imp id fun h=>⟨by simpa using h,hw2.lt i hi⟩;have CVs:(Nk p w2.heap.size hn<|.slice pa n c).size=972:=jO _ _ _ _;have CV3:(Nk p w2.heap.size hn<|.slice pa n c)[3]?=some (.slice none 0 0):=Uy _ _ _ _ 3 zx;have A0:xN W0 (w2.heap.size+1) p (Nk p w2.heap.size hn<|.slice pa n c) fs F1 (vs1,[]) W0:=by
  refine⟨.slice none 0 0,[],F1,hw2.of B0.size fun j hj=>B0.block j (hw2.lt j hj),?_,AO.nil,Af.nil _ _,fun _ h=> .inl h,fun _ h=>(by cases h),Off.refl _ _⟩;rw[uM CV3];exact L1
 have HA0:=AA A0;have HH:=AA<|AF hHh<|AF hw2<|AF hO0<|AF hs1 B0;have L1':=AA L1;have M0:AC (W0.heap[w2.heap.size]?=some (.map #[] 0)):=⟨hW0.out▸(Ah _ _ _ zw).trans (World.alloc_heap_new w2 _)⟩;clear hHh hw2 EU hs2 A0 L1 CV3 B0 hO0 hs1 R2;generalize Ei:Nk p w2.heap.size hn (.slice pa n c)=CV at*;have fV:=Ei;rw[<- hbe]at fV;clear hbe;go_wp2_with fail
 clear fV;rw[hW0.out];have lq:w2.heap.size+1<W0.heap.size:=zx
 have hBq:B<=w2.heap.size:=zx
 have j6: ∀ i,i∈F1->i<w2.heap.size/\B<=i:=fun i hi=>(HH.out.2.2.2.1 i hi).elim (fun h=>⟨by have:=F9 i h;omega,Ku i h⟩) fun h=>⟨h.2,zx⟩;have BC:AC (∀ wr,Off ((w2.heap.size+1)::F1) W0 wr->Below B w wr):=⟨fun wr ho=>(HH.out.2.2.1.below Ku hB).trans (ho.below (fun i hi=>by
  simp only[Be]at hi;rcases hi with rfl | hi
  ·omega
  ·exact(j6 i hi).2) zx)⟩
 clear yl aN;go_loopw [22] (fun iv wr=> ∃ k,k<=nb/\iv= .int .i64 ((k:Nat):Int)/\xN W0 (w2.heap.size+1) p CV fs F1 ((bd.take k).foldl IL (vs1,[])) wr) (fun iv _=>nb-OM iv)
 case atStart=>exact⟨0,Ii _,rfl,HA0.out⟩
 case round=>
  obtain⟨k,hk,rfl,sv,Fa,F',hwd,hblk,hrow,Gn,Di,NH,Dj⟩:=hrel;have hlv:=RE.out k;obtain⟨st,hst⟩: ∃ st,AC ((bd.take k).foldl IL (vs1,[])=st):=⟨_,⟨rfl⟩⟩;have hk2:st.2.length<=4:=by rw[<- hst.out,Zv4];simp;omega
  rw[hst.out]at hlv hwd hrow;have ae:=BC.out wr Dj;have lwr:W0.heap.size<=wr.heap.size:=Dj.size;obtain⟨ps,RV,rfl⟩:=hrow.form;have pQ:w2.heap.size+1∉F':=fun h=>by
   rcases Di _ h with h | h
   ·have:=(j6 _ h).1;omega
   ·omega
  have yo:w2.heap.size+1∉Fa:=fun h=>by have:=Gn.ge _ h;omega
  have ak: ∀ u,AJ u (w2.heap.size+1) (CV.setIfInBounds 3<|.slice ps st.2.length RV) 344->u.cell? ⟨w2.heap.size+1,3,none⟩=some (.slice ps st.2.length RV):=fun u hu=>by rw[hu.cell,Bc,if_pos rfl,if_pos zx]
  have HR:=AA<|AF hwd<|AF hblk<|AF hrow<|AF Gn<|AF Di<|AF NH Dj;by_cases hlt:k<nb
  ·obtain⟨a,hak⟩: ∃ a,bd[k]?=some a:=⟨_,DK (by have:=VW.out;omega)⟩;obtain⟨t,hat,Az⟩:=H1.out a<|U8 hak;obtain⟨bb,oo,rfl,hA⟩:=yA.out.at_ k a hak;obtain⟨IJ,pc,cc,z0,z1,rq⟩:=(DX.carry (Go.W.Below.carry ae lr) lr hA).vals;obtain⟨pc',cc',e1,_,_,hrt⟩:=rq;injection e1 with _ e1;injection e1 with e1 _;injection e1 with e1 _ e3;subst e1;subst e3;rw[hat]at z1 hrt;obtain⟨tb,ot,rfl,hT⟩:=hrt.at_ 0 t rfl;simp only[BO,D7,Hr,Ol,Oj]at z1 hT;have g:(k:Int)<(nb:Int):=zx
   have Wz:B<=wr.heap.size:=AU hB ae.size;have CS:=AA fun u (hu:Bl wr u)=>wI (c:=cc) (hwd.of hu.size fun j hj=>hu.block j (hwd.lt j hj)) (D6.carry (BJ hu Wz) lr hT) (AU Wz hu.size) Az zx a.name;have z3:=fun ob=>ak _ (hblk.alloc ob);have kE:w2.heap.size+1<wr.heap.size:=zx
   have AK:=AA<|AF hak hat;clear hwd hblk hrow Gn Di NH Dj hA hrt hT hak hat
   go_wp2_with fail
   have PZ: ∀ j,j∈Fa->j<wr.heap.size:=fun j hj=>HR.out.2.2.2.1.lt j hj;have kH: ∀ j,j∈F'->j<wr.heap.size:=fun j hj=>HR.out.1.lt j hj;have NJ:=AJ.new wr #[.string a.name,.slice (Qb tb ot) 1 cc] 95;obtain⟨WB,hWB⟩: ∃ WB,AC (wr.alloc (.cells #[.string a.name,.slice (Qb tb ot) 1 cc] 95)=WB):=⟨_,⟨rfl⟩⟩;rw[hWB.out]at NJ⊢;have szB:WB.heap.size=wr.heap.size+1:=by rw[<- hWB.out];simp
   have BB:Bl wr WB:=hWB.out▸(AQ _ wr).alloc lr _;have qB:=HR.out.2.1.of<|BB.block _ kE;have AV:=AF (ak _<|qB.of (w':=WB.drew) rfl)<|AF (NJ.of (w':=WB.drew) rfl).two.1 (NJ.of (w':=WB.drew) rfl).two.2.1;clear z3;refine Nv 12 (fun u=>u.cell? ⟨w2.heap.size+1,3,none⟩=some (.slice ps st.2.length RV)/\u.cell? ⟨wr.heap.size,0,none⟩=some (.string a.name)/\u.cell? ⟨wr.heap.size,1,none⟩=some (.slice (Qb tb ot) 1 cc)) zt ?_;refine tz 0 (.pointer<|Qb (w2.heap.size+1) 0) AV ?_;try simp only[zz]
   refine tz 1 (.pointer<|Qb (w2.heap.size+1) 0) AV ?_;try simp only[zz]
   refine tz 2 (.pointer<|Qb (w2.heap.size+1) 0) AV ?_;try simp only[zz]
   refine tz 3 (.pointer<|Qb (w2.heap.size+1) 3) AV ?_;try simp only[zz]
   refine tz 4 (.slice ps st.2.length RV) AV (hy:=fun _ ⟨s0,s1,s2⟩=>by go_simp) ?_;try simp only[zz]
   refine tz 5 (.pointer<|Qb p 0) AV ?_;try simp only[zz]
   refine tz 6 (.agg #[.string a.name,.slice (Qb tb ot) 1 cc]) AV (hy:=fun _ ⟨s0,s1,s2⟩=>by go_simp) ?_;try simp only[zz]
   refine rz 7 (h:=fun K' hK'=>?_);go_simp;refine(CS.out _ BB.drew).mono ?_;rintro e w5 ⟨g5,c5,rfl,QX,QV,F5,Oz,BQ,hs5,Yf⟩;have Pe:wr.heap.size+1<=w5.heap.size:=by have:WB.heap.size<=w5.heap.size:=BQ.size;omega
   have hg5':wr.heap.size+1<=g5:=by have:WB.heap.size<=g5:=QX;omega
   have K5:=(qB.of (w':=WB.drew) rfl).of<|BQ.block _ (by show _<WB.heap.size;omega) pQ;have X5:=(NJ.of (w':=WB.drew) rfl).of (BQ.block _ (by show _<WB.heap.size;omega) fun h=>by have:=kH _ h;omega);refine hK'.out _ _ ⟨ak _ K5,X5.two.1,X5.two.2.1⟩ ?_;try simp only[zz]
   refine rz 8 (h:=fun K' hK'=>?_);go_simp;obtain⟨W6,hW6⟩: ∃ W6,AC (w5.alloc (.cells #[.string a.name,.slice (Qb g5 0) 1 c5] 323)=W6):=⟨_,⟨rfl⟩⟩;rw[hW6.out];have yT:W6.heap.size=w5.heap.size+1:=by rw[<- hW6.out];simp
   have B6:Bl w5 W6:=hW6.out▸(AQ _ w5).alloc lr _;have N6:W6.heap[w5.heap.size]?=some (.cells #[.string a.name,.slice (Qb g5 0) 1 c5] 323):=hW6.out▸IC _ _;have K6:=K5.of<|B6.block _ K5.lt;have X6:=X5.of<|B6.block _ X5.lt;refine hK'.out _ _ ⟨ak _ K6,X6.two.1,X6.two.2.1⟩ ?_;try simp only[zz]
   have sl6:=QV.of B6.size<|B6.block _ QV.1;have R6:AO 323 2 LJ W6 (.slice ps st.2.length RV) st.2 Fa:=AO.stable LJ.stable _ _ _ _ _ HR.out.2.2.1 fun j hj=>((B6.block j (by have:=PZ j hj;omega)).trans<|BQ.block j (by have:=PZ j hj;show _<WB.heap.size;omega)<|HR.out.2.2.2.2.2.1 j hj).trans (BB.block j<|PZ j hj);refine rz 9 (h:=fun K' hK'=>?_);refine Ux Ybu rfl (.tmp 30) (.tmp 34) rfl LJ.stable LJ.one W0.heap.size (.slice ps st.2.length RV) st.2 Fa rfl R6 w5.heap.size #[.string a.name,.slice (Qb g5 0) 1 c5] 323 (0,0) (a.name,DF st.1 t) [g5] rfl N6 rfl ⟨g5,c5,rfl,rfl,sl6⟩ zx zx (HR.out.2.2.2.1.later lr zx) ⟨zw,fun i hi=>by simp at hi;omega,fun i hi=>by simp at hi;have:=QV.1;omega⟩ (fun i hi h=>by simp at h;have:=PZ i hi;omega) ?_;intro g6 Bt w6 F6 AM;have h6w:=AM.size;have K7:=K6.of<|AM.same _ K6.lt yo;have X7:=X6.of (AM.same _ X6.lt fun h=>by have:=PZ _ h;omega);have G9:=AF (ak _ K7)<|AF X7.two.1 X7.two.2.1;have ks7:=K7.soft;refine hK'.out _ _ G9 ?_;try simp only[zz]
   refine rz 10 (h:=fun K' hK'=>?_);go_simp;refine hK'.out _ _ G9 ?_;try simp only[zz]
   refine rz 11 (h:=fun K' hK'=>?_);go_simp;refine hK'.out _ _ G9 ?_;try simp only[zz]
   have c37:=G9.1;refine J6 (h:=fun K' hK'=>?_);go_simp;refine hK'.out _ _ ?_;try simp only[zz]
   refine dz (h:=?_);have FT: ∀ i,i∈F5->i∈F'\/wr.heap.size+1<=i:=fun i hi=>(hs5 i hi).imp id fun h=>by have:WB.heap.size<=i:=h;omega
   have dX: ∀ i,i∈F5->i≠w2.heap.size+1:=fun i hi e=>by
    subst e;rcases FT _ hi with h | h
    ·exact pQ h
    ·omega
   have X4: ∀ i,i∈F5->i∉Fa:=fun i hi h=>by
    rcases FT i hi with h' | h'
    ·exact HR.out.2.2.2.2.2.1 i h h'
    ·have:=PZ i h;omega
   have dW: ∀ i,i∈F6->i≠w2.heap.size+1:=fun i hi e=>by
    subst e;rcases AM.sub _ hi with h | h | h
    ·exact yo h
    ·simp at h;omega
    ·omega
   have l5: ∀ i,i∈F5->i<w5.heap.size:=fun i hi=>Oz.lt i hi;have EQ:(bd.take<|k+1).foldl IL (vs1,[])=(EC st.1 t,st.2++[(a.name,DF st.1 t)]):=by
    rw[PR,AK.out.1,List.foldl_append,hst.out];simp[IL,AK.out.2]
   have A1:xN W0 (w2.heap.size+1) p CV fs F1 ((bd.take<|k+1).foldl IL (vs1,[])) (w6.setCell ⟨w2.heap.size+1,3,none⟩<|.slice (Qb g6 0) (st.2.length+1) Bt):=by
    rw[EQ];have KS:=K7.set 3<|.slice (Qb g6 0) (st.2.length+1) Bt;rw[ja]at KS;refine⟨.slice (Qb g6 0) (st.2.length+1) Bt,F6,F5,Oz.of (by simp[World.setCell];omega) fun j hj=>(Au _ _ _ _<|dX j hj).trans ((AM.same j (by have:=l5 j hj;omega)<|X4 j hj).trans<|B6.block j<|l5 j hj),KS,AO.stable LJ.stable _ _ _ _ _ AM.row fun j hj=>Au _ _ _ _ (dW j hj),AM.new.later lr (by simp[World.setCell]),fun i hi=>?_,fun i hi h=>?_,?_⟩
    ·rcases FT i hi with h | h
     ·exact HR.out.2.2.2.2.1 i h
     ·exact .inr zx
    ·rcases AM.sub i hi with h' | h' | h'
     ·exact X4 i h h'
     ·simp at h';subst h';exact Yf h
     ·have:=l5 i h;omega
    ·refine Off.set ((((HR.out.2.2.2.2.2.2.trans (Off.of (F:=[]) BB) fun _ h=>(by cases h)).drew).trans BQ fun i hi=>?_).trans (G:=Fa) ?_ fun i hi=> .inr (HR.out.2.2.2.1.ge i hi)) _ _ _<|.inl zw
     ·rcases HR.out.2.2.2.2.1 i hi with h | h
      ·exact .inl (by simp[h])
      ·exact .inr h
     ·exact(Off.of B6).trans ⟨AM.os,AM.tape,AM.output,AM.size,AM.same⟩ fun _ h=> .inl h
   have yD:=AA A1;clear A1 EQ FT dX X4 dW l5 AM Oz BQ hs5 G9 K7 X7 c37 R6 K6 X6 K5 X5;go_wp2
   exact⟨⟨k+1,zx,zw,yD.out⟩,by simp[OM];omega⟩
  ·have g: ¬ (k:Int)<(nb:Int):=zx
   obtain rfl:k=nb:=zx
   rw[<- hst.out]at HR;have e3:=(BC.out wr Dj);clear ak;have rc:=R0.out.of<|Dj.block w.heap.size zx (fun h=>by
    simp only[Be]at h;rcases h with h | h
    ·omega
    ·rcases HH.out.2.2.2.1 _ h with h | h
     ·exact lF h
     ·omega)
   obtain⟨x0,x1,x2,x3,xs⟩:=rc.four;have e4:(CV.setIfInBounds 3<|.slice ps st.2.length RV)[4]?=some (.slice none 0 0):=by rw[Bc,if_neg zx,<- Ei];exact Uy _ _ _ _ 4 zx
   have QQ:=AA<|AF hwd<|AF hblk<|AF hrow<|AF Gn<|AF Di<|AF NH Dj;have aj:bd.foldl IL (vs1,[])=st:=by rw[<- hst.out,Rx (by have:=VW.out;omega)]
   rw[aj]at HLG HCM;have HE:=AA aj;clear aj;obtain⟨CW,hCW⟩: ∃ CW,AC (CV.setIfInBounds 3 (.slice ps st.2.length RV)=CW):=⟨_,⟨rfl⟩⟩;have CWs:CW.size=972:=by rw[<- hCW.out];simpa using CVs
   rw[hCW.out]at hblk e4;have HG0:AC (xM wr (w2.heap.size+1) p CW fs F' (st.1,[]) wr):=⟨.slice none 0 0,[],F',hwd,by rw[uM e4];exact hblk,AO.nil,Af.nil _ _,fun _ h=> .inl h,fun _ h=>(by cases h),Off.refl _ _⟩;have kE:w2.heap.size+1<wr.heap.size:=zx
   have kH: ∀ j,j∈F'->j<wr.heap.size/\B<=j:=fun j hj=>⟨hwd.lt j hj,(Di j hj).elim (fun h=>(j6 j h).2) zx⟩;clear hwd hblk hrow Gn Di NH Dj;go_wp2_with fail
   obtain⟨W1,rfl⟩: ∃ W1,W1=wr:=⟨_,rfl⟩;have BC1:AC (∀ wr,Off ((w2.heap.size+1)::F') W1 wr->Below B w wr):=⟨fun wr ho=>ae.trans (ho.below (fun i hi=>by
    simp only[Be]at hi;rcases hi with rfl | hi
    ·omega
    ·exact(kH i hi).2) zx)⟩
   go_loopw [42] (fun iv wr=> ∃ k,k<=ng/\iv= .int .i64 ((k:Nat):Int)/\xM W1 (w2.heap.size+1) p CW fs F' ((gu.take k).foldl Qk (st.1,[])) wr) (fun iv _=>ng-OM iv)
   case atStart=>exact⟨0,Ii _,rfl,HG0.out⟩
   case round=>
   clear x0 x1 x2 x3 xs rc e3;obtain⟨i,hi,rfl,gsv,Fg,F2,hwd,hblk,hrow,Gn,Di,NH,Dj⟩:=hrel;have qg:=HLG.out i;obtain⟨sg,hsg⟩: ∃ sg,AC ((gu.take i).foldl Qk (st.1,[])=sg):=⟨_,⟨rfl⟩⟩;have hk3:sg.2.length<=4:=by rw[<- hsg.out,Zv3];simp;omega
   rw[hsg.out]at qg hwd hrow;have gq:=BC1.out wr Dj;have lwr2:W1.heap.size<=wr.heap.size:=Dj.size;obtain⟨UT,Vm,rfl⟩:=hrow.form;have jy:w2.heap.size+1∉F2:=fun h=>by
    rcases Di _ h with h | h
    ·exact pQ h
    ·omega
   have ym:w2.heap.size+1∉Fg:=fun h=>by have:=Gn.ge _ h;omega
   have cq4: ∀ u,AJ u (w2.heap.size+1) (CW.setIfInBounds 4<|.slice UT sg.2.length Vm) 344->u.cell? ⟨w2.heap.size+1,4,none⟩=some (.slice UT sg.2.length Vm):=fun u hu=>by rw[hu.cell,Bc,if_pos rfl,if_pos zx]
   have BF:=AA<|AF hwd<|AF hblk<|AF hrow<|AF Gn<|AF Di<|AF NH Dj;by_cases hlt:i<ng
   ·obtain⟨x,OG⟩: ∃ x,gu[i]?=some x:=⟨_,DK (by have:=hng.out;omega)⟩;obtain⟨hoa,hob,xo,zN⟩:=H2.out x<|U8 OG;obtain⟨bb,oo,rfl,hG⟩:=HGD.out.at_ i x OG;obtain⟨IJ,p1,c1,p2,c2,v0,v1,v2,v3,v4,v5,v6,v7,v8,gW⟩:=(JN.carry (Go.W.Below.carry gq lr) lr hG).vals;have g:(i:Int)<(ng:Int):=zx
    have Wz:B<=wr.heap.size:=AU hB gq.size;have aF: ∀ j,j∈F2->j<wr.heap.size/\B<=j:=fun j hj=>⟨hwd.lt j hj,(Di j hj).elim (fun h=>(kH j h).2) zx⟩;have CS:=AA fun u (hu:Bl wr u)=>Zq4 (hwd.of hu.size fun j hj=>hu.block j (hwd.lt j hj)) (LY.carry gW<|BJ hu Wz) (AU Wz hu.size) (fun j hj=>(aF j hj).2) hoa hob zx;have kE:w2.heap.size+1<wr.heap.size:=zx
    have UU: ∀ j,j∈Fg->j<wr.heap.size:=fun j hj=>Gn.lt j hj;have AK:=AA OG;have HXO:=AA zN;clear hwd hblk hrow Gn Di NH Dj hG gW OG zN;go_wp2_with fail
    have NJ:=AJ.new wr #[.int .i64 x.op,.int .i64 x.a.k,.int .i64 x.a.i,.string x.a.t,.slice p1 x.a.l.length c1,.int .i64 x.b.k,.int .i64 x.b.i,.string x.b.t,.slice p2 x.b.l.length c2] 102;obtain⟨WB,hWB⟩: ∃ WB,AC (wr.alloc (.cells #[.int .i64 x.op,.int .i64 x.a.k,.int .i64 x.a.i,.string x.a.t,.slice p1 x.a.l.length c1,.int .i64 x.b.k,.int .i64 x.b.i,.string x.b.t,.slice p2 x.b.l.length c2] 102)=WB):=⟨_,⟨rfl⟩⟩;rw[hWB.out]at NJ⊢;have szB:WB.heap.size=wr.heap.size+1:=by rw[<- hWB.out];simp
    have BB:Bl wr WB:=hWB.out▸(AQ _ wr).alloc lr _;have qB:=BF.out.2.1.of<|BB.block _ kE;have oq:AC (∀ u,AJ u (w2.heap.size+1) (CW.setIfInBounds 4<|.slice UT sg.2.length Vm) 344->AJ u wr.heap.size #[.int .i64 x.op,.int .i64 x.a.k,.int .i64 x.a.i,.string x.a.t,.slice p1 x.a.l.length c1,.int .i64 x.b.k,.int .i64 x.b.i,.string x.b.t,.slice p2 x.b.l.length c2] 102->u.cell? ⟨w2.heap.size+1,4,none⟩=some (.slice UT sg.2.length Vm)/\u.cell? ⟨wr.heap.size,0,none⟩=some (.int .i64 x.op)/\u.cell? ⟨wr.heap.size,1,none⟩=some (.int .i64 x.a.k)/\u.cell? ⟨wr.heap.size,2,none⟩=some (.int .i64 x.a.i)/\u.cell? ⟨wr.heap.size,3,none⟩=some (.string x.a.t)/\u.cell? ⟨wr.heap.size,4,none⟩=some (.slice p1 x.a.l.length c1)/\u.cell? ⟨wr.heap.size,5,none⟩=some (.int .i64 x.b.k)/\u.cell? ⟨wr.heap.size,6,none⟩=some (.int .i64 x.b.i)/\u.cell? ⟨wr.heap.size,7,none⟩=some (.string x.b.t)/\u.cell? ⟨wr.heap.size,8,none⟩=some (.slice p2 x.b.l.length c2)):=⟨fun u h1 h2=>⟨cq4 u h1,(h2.cell 0).trans rfl,(h2.cell 1).trans rfl,(h2.cell 2).trans rfl,(h2.cell 3).trans rfl,(h2.cell 4).trans rfl,(h2.cell 5).trans rfl,(h2.cell 6).trans rfl,(h2.cell 7).trans rfl,(h2.cell 8).trans rfl⟩⟩;have AV:=oq.out WB.drew (qB.of (w':=WB.drew) rfl)<|NJ.of (w':=WB.drew) rfl;clear v0 v1 v2 v3 v4 v5 v6 v7 v8;refine Nv 12 (fun u=>u.cell? ⟨w2.heap.size+1,4,none⟩=some (.slice UT sg.2.length Vm)/\u.cell? ⟨wr.heap.size,0,none⟩=some (.int .i64 x.op)/\u.cell? ⟨wr.heap.size,1,none⟩=some (.int .i64 x.a.k)/\u.cell? ⟨wr.heap.size,2,none⟩=some (.int .i64 x.a.i)/\u.cell? ⟨wr.heap.size,3,none⟩=some (.string x.a.t)/\u.cell? ⟨wr.heap.size,4,none⟩=some (.slice p1 x.a.l.length c1)/\u.cell? ⟨wr.heap.size,5,none⟩=some (.int .i64 x.b.k)/\u.cell? ⟨wr.heap.size,6,none⟩=some (.int .i64 x.b.i)/\u.cell? ⟨wr.heap.size,7,none⟩=some (.string x.b.t)/\u.cell? ⟨wr.heap.size,8,none⟩=some (.slice p2 x.b.l.length c2)) zt ?_;refine tz 0 (.pointer<|Qb (w2.heap.size+1) 0) AV ?_;try simp only[zz]
    refine tz 1 (.pointer<|Qb (w2.heap.size+1) 0) AV ?_;try simp only[zz]
    refine tz 2 (.pointer<|Qb (w2.heap.size+1) 0) AV ?_;try simp only[zz]
    refine tz 3 (.pointer<|Qb (w2.heap.size+1) 4) AV ?_;try simp only[zz]
    refine tz 4 (.slice UT sg.2.length Vm) AV (hy:=fun _ ⟨s0,s1,s2,s3,s4,s5,s6,s7,s8,s9⟩=>by go_simp) ?_;try simp only[zz]
    refine tz 5 (.pointer<|Qb p 0) AV ?_;try simp only[zz]
    refine tz 6 (.agg #[.int .i64 x.op,.int .i64 x.a.k,.int .i64 x.a.i,.string x.a.t,.slice p1 x.a.l.length c1,.int .i64 x.b.k,.int .i64 x.b.i,.string x.b.t,.slice p2 x.b.l.length c2]) AV (hy:=fun _ ⟨s0,s1,s2,s3,s4,s5,s6,s7,s8,s9⟩=>by go_simp) ?_;try simp only[zz]
    refine rz 7 (h:=fun K' hK'=>?_);go_simp;refine(CS.out _ BB.drew).mono ?_;rintro e w5 ⟨rfl,F5,Oz,BQ,hs5⟩;have Pe:wr.heap.size+1<=w5.heap.size:=by have:WB.heap.size<=w5.heap.size:=BQ.size;omega
    have K5:=(qB.of (w':=WB.drew) rfl).of<|BQ.block _ (by show _<WB.heap.size;omega) jy;have X5:=(NJ.of (w':=WB.drew) rfl).of (BQ.block _ (by show _<WB.heap.size;omega) fun h=>by have:=(aF _ h).1;omega);refine hK'.out _ _ (oq.out _ K5 X5) ?_;try simp only[zz]
    refine rz 8 (h:=fun K' hK'=>?_);go_simp;obtain⟨W6,hW6⟩: ∃ W6,AC (w5.alloc (.cells #[.int .i64 x.op,.string (DF sg.1 x.a).1,.int .i64 ((DF sg.1 x.a).2:Int),.string (DF (EC sg.1 x.a) x.b).1,.int .i64 ((DF (EC sg.1 x.a) x.b).2:Int)] 373)=W6):=⟨_,⟨rfl⟩⟩;rw[hW6.out];have yT:W6.heap.size=w5.heap.size+1:=by rw[<- hW6.out];simp
    have B6:Bl w5 W6:=hW6.out▸(AQ _ w5).alloc lr _;have N6:W6.heap[w5.heap.size]?=some (.cells #[.int .i64 x.op,.string (DF sg.1 x.a).1,.int .i64 ((DF sg.1 x.a).2:Int),.string (DF (EC sg.1 x.a) x.b).1,.int .i64 ((DF (EC sg.1 x.a) x.b).2:Int)] 373):=hW6.out▸IC _ _;have K6:=K5.of<|B6.block _ K5.lt;have X6:=X5.of<|B6.block _ X5.lt;refine hK'.out _ _ (oq.out _ K6 X6) ?_;try simp only[zz]
    have R6:AO 373 5 Qw W6 (.slice UT sg.2.length Vm) sg.2 Fg:=AO.stable Qw.stable _ _ _ _ _ BF.out.2.2.1 fun j hj=>((B6.block j (by have:=UU j hj;omega)).trans<|BQ.block j (by have:=UU j hj;show _<WB.heap.size;omega)<|BF.out.2.2.2.2.2.1 j hj).trans (BB.block j<|UU j hj);refine rz 9 (h:=fun K' hK'=>?_);refine Ux Ybs rfl (.tmp 50) (.tmp 54) rfl Qw.stable Qw.one W1.heap.size (.slice UT sg.2.length Vm) sg.2 Fg rfl R6 w5.heap.size #[.int .i64 x.op,.string (DF sg.1 x.a).1,.int .i64 ((DF sg.1 x.a).2:Int),.string (DF (EC sg.1 x.a) x.b).1,.int .i64 ((DF (EC sg.1 x.a) x.b).2:Int)] 373 (0,0) (x.op.toNat,DF sg.1 x.a,DF (EC sg.1 x.a) x.b) [] rfl N6 rfl ⟨rfl,by rw[HXO.out];simp⟩ zx zx (BF.out.2.2.2.1.later lr zx) (Af.nil _ _) (fun _ _ h=>(by cases h)) ?_;intro g6 Bt w6 F6 AM;have h6w:=AM.size;have K7:=K6.of<|AM.same _ K6.lt ym;have X7:=X6.of (AM.same _ X6.lt fun h=>by have:=UU _ h;omega);have G9:=oq.out _ K7 X7;have ks7:=K7.soft;refine hK'.out _ _ G9 ?_;try simp only[zz]
    refine rz 10 (h:=fun K' hK'=>?_);go_simp;refine hK'.out _ _ G9 ?_;try simp only[zz]
    refine rz 11 (h:=fun K' hK'=>?_);go_simp;refine hK'.out _ _ G9 ?_;try simp only[zz]
    have c37:=G9.1;refine J6 (h:=fun K' hK'=>?_);go_simp;refine hK'.out _ _ ?_;try simp only[zz]
    refine dz (h:=?_);have FT: ∀ i,i∈F5->i∈F2\/wr.heap.size+1<=i:=fun i hi=>(hs5 i hi).imp id fun h=>by have:WB.heap.size<=i:=h;omega
    have dX: ∀ i,i∈F5->i≠w2.heap.size+1:=fun i hi e=>by
     subst e;rcases FT _ hi with h | h
     ·exact jy h
     ·omega
    have X4: ∀ i,i∈F5->i∉Fg:=fun i hi h=>by
     rcases FT i hi with h' | h'
     ·exact BF.out.2.2.2.2.2.1 i h h'
     ·have:=UU i h;omega
    have dW: ∀ i,i∈F6->i≠w2.heap.size+1:=fun i hi e=>by
     subst e;rcases AM.sub _ hi with h | h | h
     ·exact ym h
     ·cases h
     ·omega
    have l5: ∀ i,i∈F5->i<w5.heap.size:=fun i hi=>Oz.lt i hi;have EQ:(gu.take<|i+1).foldl Qk (st.1,[])=(EC (EC sg.1 x.a) x.b,sg.2++[(x.op.toNat,DF sg.1 x.a,DF (EC sg.1 x.a) x.b)]):=by
     rw[PR,AK.out,List.foldl_append,hsg.out];simp[Qk]
    have A1:xM W1 (w2.heap.size+1) p CW fs F' ((gu.take<|i+1).foldl Qk (st.1,[])) (w6.setCell ⟨w2.heap.size+1,4,none⟩<|.slice (Qb g6 0) (sg.2.length+1) Bt):=by
     rw[EQ];have KS:=K7.set 4<|.slice (Qb g6 0) (sg.2.length+1) Bt;rw[ja]at KS;refine⟨.slice (Qb g6 0) (sg.2.length+1) Bt,F6,F5,Oz.of (by simp[World.setCell];omega) fun j hj=>(Au _ _ _ _<|dX j hj).trans ((AM.same j (by have:=l5 j hj;omega)<|X4 j hj).trans<|B6.block j<|l5 j hj),KS,AO.stable Qw.stable _ _ _ _ _ AM.row fun j hj=>Au _ _ _ _ (dW j hj),AM.new.later lr (by simp[World.setCell]),fun i hi=>?_,fun i hi h=>?_,?_⟩
     ·rcases FT i hi with h | h
      ·exact BF.out.2.2.2.2.1 i h
      ·exact .inr zx
     ·rcases AM.sub i hi with h' | h' | h'
      ·exact X4 i h h'
      ·cases h'
      ·have:=l5 i h;omega
     ·refine Off.set ((((BF.out.2.2.2.2.2.2.trans (Off.of (F:=[]) BB) fun _ h=>(by cases h)).drew).trans BQ fun i hi=>?_).trans (G:=Fg) ?_ fun i hi=> .inr (BF.out.2.2.2.1.ge i hi)) _ _ _<|.inl zw
      ·rcases BF.out.2.2.2.2.1 i hi with h | h
       ·exact .inl (by simp[h])
       ·exact .inr h
      ·exact(Off.of B6).trans ⟨AM.os,AM.tape,AM.output,AM.size,AM.same⟩ fun _ h=> .inl h
    have yD:=AA A1;clear A1 EQ FT dX X4 dW l5 AM Oz BQ hs5 G9 K7 X7 c37 R6 K6 X6 K5 X5;go_wp2
    exact⟨⟨i+1,zx,zw,yD.out⟩,by simp[OM];omega⟩
   ·have g: ¬ (i:Int)<(ng:Int):=zx
    obtain rfl:i=ng:=zx
    have e1: ∀ j,j<4->(CW.setIfInBounds 4<|.slice UT sg.2.length Vm)[j]?=(CV.setIfInBounds 3<|.slice ps st.2.length RV)[j]?:=fun j hj=>by rw[Bc,if_neg zx,hCW.out]
    have q1:wr.cell? ⟨w2.heap.size+1,1,none⟩=some (.string hn):=by rw[hblk.cell,e1 1 zx,Bc,if_neg zx,<- Ei];exact Uy _ _ _ _ 1 zx
    have q2:wr.cell? ⟨w2.heap.size+1,2,none⟩=some (.slice pa n c):=by rw[hblk.cell,e1 2 zx,Bc,if_neg zx,<- Ei];exact Uy _ _ _ _ 2 zx
    have q3:wr.cell? ⟨w2.heap.size+1,3,none⟩=some (.slice ps st.2.length RV):=by rw[hblk.cell,e1 3 zx,Bc,if_pos rfl,if_pos zx]
    have qs:=hblk.soft;have zG:=hblk.lt;have esg:gu.foldl Qk (st.1,[])=sg:=by rw[<- hsg.out,Rx (by have:=hng.out;omega)]
    have HE2:=AA esg;clear esg;clear hwd hblk hrow Gn Di NH Dj cq4 e1;go_wp2_with fail
    have AV:=AF q1<|AF q2 q3;refine Nv 12 (fun u=>u.cell? ⟨w2.heap.size+1,1,none⟩=some (.string hn)/\u.cell? ⟨w2.heap.size+1,2,none⟩=some (.slice pa n c)/\u.cell? ⟨w2.heap.size+1,3,none⟩=some (.slice ps st.2.length RV)) zt ?_;refine tz 0 (.pointer<|Qb (w2.heap.size+1) 0) AV ?_;try simp only[zz]
    refine tz 1 (.pointer<|Qb (w2.heap.size+1) 0) AV ?_;try simp only[zz]
    refine tz 2 (.pointer<|Qb (w2.heap.size+1) 0) AV ?_;try simp only[zz]
    refine tz 3 (.pointer<|Qb (w2.heap.size+1) 1) AV ?_;try simp only[zz]
    refine tz 4 (.agg #[.string hn,.slice pa n c]) AV (hy:=fun _ ⟨s0,s1,s2⟩=>by go_simp) ?_;try simp only[zz]
    refine tz 5 (.pointer<|Qb (w2.heap.size+1) 0) AV ?_;try simp only[zz]
    refine tz 6 (.pointer<|Qb (w2.heap.size+1) 0) AV ?_;try simp only[zz]
    refine tz 7 (.pointer<|Qb (w2.heap.size+1) 3) AV ?_;try simp only[zz]
    refine tz 8 (.slice ps st.2.length RV) AV (hy:=fun _ ⟨s0,s1,s2⟩=>by go_simp) ?_;try simp only[zz]
    have UU: ∀ j,j∈Fg->W1.heap.size<=j/\j<wr.heap.size:=fun j hj=>⟨BF.out.2.2.2.1.ge j hj,BF.out.2.2.2.1.lt j hj⟩;have PZ: ∀ j,j∈Fa->W0.heap.size<=j/\j<W1.heap.size/\j∉F':=fun j hj=>⟨QQ.out.2.2.2.1.ge j hj,QQ.out.2.2.2.1.lt j hj,QQ.out.2.2.2.2.2.1 j hj⟩;have pN: ∀ j,j<W0.heap.size->j≠w2.heap.size+1->j∉F1->wr.heap[j]?=W0.heap[j]?:=fun j h1 h2 h3=>(BF.out.2.2.2.2.2.2.block j zx fun h=>by
     simp only[Be]at h;rcases h with h | h
     ·exact h2 h
     ·rcases QQ.out.2.2.2.2.1 j h with h | h
      ·exact h3 h
      ·omega).trans (QQ.out.2.2.2.2.2.2.block j h1 fun h=>by
     simp only[Be]at h;rcases h with h | h
     ·exact h2 h
     ·exact h3 h)
    have yS: ∀ j,j∈Fa->wr.heap[j]?=W1.heap[j]?:=fun j hj=>BF.out.2.2.2.2.2.2.block j (PZ j hj).2.1 fun h=>by
     simp only[Be]at h;rcases h with h | h
     ·have:=(PZ j hj).1;omega
     ·exact(PZ j hj).2.2 h
    have rW:QP wr (.slice pa n c) hd Gh:=HH.out.1.of (by have:=HH.out.2.2.2.2.size;omega) fun j hj=>(pN j (by have:=(Xp.out j hj).2.1;omega) (by have:=(Xp.out j hj).2.1;omega) (Xp.out j hj).2.2).trans (HH.out.2.2.2.2.block j (Xp.out j hj).2.1);have rM:=AO.stable LJ.stable _ wr _ _ _ QQ.out.2.2.1 yS;have CMr:=AA<|HCM.out wr.drew _ Gh _ Fa (rW.of (w':=wr.drew) lr fun _ _=>rfl) (AO.stable LJ.stable _ wr.drew _ _ _ rM fun _ _=>rfl);refine rz 9 (h:=fun K' hK'=>?_);go_simp;refine CMr.out.mono ?_;rintro e w8 ⟨po,no,co,Go,rfl,YZ,hGo,Gq⟩;have B8:Bl wr w8:=(AQ _ wr).drew.trans Gq;have K8:=BF.out.2.1.of<|B8.block _ zG;have cell: ∀ j,w8.cell? ⟨w2.heap.size+1,j,none⟩=wr.cell? ⟨w2.heap.size+1,j,none⟩:=fun j=>Am (a:=⟨w2.heap.size+1,j,none⟩) (B8.block _ zG);have Yr:=AF ((cell 1).trans q1)<|AF ((cell 2).trans q2)<|(cell 3).trans q3;clear cell;refine hK'.out _ _ Yr ?_;try simp only[zz]
    refine rz 10 (h:=fun K' hK'=>?_);go_simp;refine hK'.out _ _ Yr ?_;try simp only[zz]
    refine rz 11 (h:=fun K' hK'=>?_);go_simp;refine hK'.out _ _ Yr ?_;try simp only[zz]
    have ks8:=K8.soft;have k58:w8.cell? ⟨w2.heap.size+1,5,none⟩=some (.slice none 0 0):=by rw[K8.cell,Bc,if_neg zx,<- hCW.out,Bc,if_neg zx,<- Ei];exact Uy _ _ _ _ 5 zx
    refine J6 (h:=fun K' hK'=>?_);go_simp;refine hK'.out _ _ ?_;try simp only[zz]
    refine dz (h:=?_);have K9:=K8.set 5<|.slice po no co;rw[<- hCW.out,<- Ei]at K9;have nq: ∀ j,j≠w2.heap.size+1->(w8.setCell ⟨w2.heap.size+1,5,none⟩<|.slice po no co).heap[j]?=w8.heap[j]?:=fun j hj=>Au _ _ _ _ hj;have kG: ∀ j,j∈Go->wr.heap.size<=j/\j<w8.heap.size:=fun j hj=>hGo j hj;have aF: ∀ j,j∈F2->j<wr.heap.size:=fun j hj=>BF.out.1.lt j hj;have yY:(w8.setCell ⟨w2.heap.size+1,5,none⟩<|.slice po no co).heap.size=w8.heap.size:=by simp[World.setCell]
    have l8:=B8.size;have jw: ∀ i,i∈F2->i∈F1\/W0.heap.size<=i:=fun i hi=>(BF.out.2.2.2.2.1 i hi).elim (QQ.out.2.2.2.2.1 i) fun h=> .inr zx;have sF: ∀ i,i∈F1->i∈F\/w.heap.size<=i:=fun i hi=>(HH.out.2.2.2.1 i hi).imp id zx;have pW: ∀ i,w2.heap.size<=i->i∉F1:=fun i hi h=>by have:=(j6 i h).1;omega
    have nm:w2.heap.size∉F2:=fun h=>by
     rcases jw _ h with h | h
     ·exact pW _ lr h
     ·omega
    have Do:AC (∃ q m sv Fa gv Fg hv Gh ov Go F',(.pointer (Qb (w2.heap.size+1) 0):Value)= .pointer (Qb q 0)/\AJ (w8.setCell ⟨w2.heap.size+1,5,none⟩<|.slice po no co) q ((((Nk p m hn hv).setIfInBounds 3 sv).setIfInBounds 4 gv).setIfInBounds 5 ov) 344/\(w8.setCell ⟨w2.heap.size+1,5,none⟩<|.slice po no co).heap[m]?=some (.map #[] 0)/\AO 323 2 LJ (w8.setCell ⟨w2.heap.size+1,5,none⟩<|.slice po no co) sv st.2 Fa/\AO 373 5 Qw (w8.setCell ⟨w2.heap.size+1,5,none⟩<|.slice po no co) gv sg.2 Fg/\QP (w8.setCell ⟨w2.heap.size+1,5,none⟩<|.slice po no co) hv hd Gh/\VH (w8.setCell ⟨w2.heap.size+1,5,none⟩<|.slice po no co) ov hm Go/\Bv (w8.setCell ⟨w2.heap.size+1,5,none⟩<|.slice po no co) p fs sg.1 F'/\Off F w (w8.setCell ⟨w2.heap.size+1,5,none⟩<|.slice po no co)/\(∀ i,i∈F'->i∈F\/w.heap.size<=i)/\(∀ i,i∈q::m::(Fa++(Fg++(Gh++Go)))->w.heap.size<=i/\i<(w8.setCell ⟨w2.heap.size+1,5,none⟩<|.slice po no co).heap.size/\i∉F')/\(∀ i,i∈Fa++(Fg++(Gh++Go))->i≠q/\i≠m)/\q≠m):=by
     refine⟨w2.heap.size+1,w2.heap.size,_,Fa,_,Fg,_,Gh,_,Go,F2,rfl,K9,?_,AO.stable LJ.stable _ _ _ _ _ rM fun j hj=>(nq j (by have:=(PZ j hj).1;omega)).trans (B8.block j (by have:=(PZ j hj).2.1;omega)),AO.stable Qw.stable _ _ _ _ _ BF.out.2.2.1 fun j hj=>(nq j (by have:=(UU j hj).1;omega)).trans (B8.block j (UU j hj).2),rW.of zx fun j hj=>(nq j (by have:=(Xp.out j hj).2.1;omega)).trans (B8.block j (by have:=(Xp.out j hj).2.1;omega)),YZ.of fun j hj=>nq j (by have:=(kG j hj).1;omega),BF.out.1.of zx fun j hj=>(nq j fun e=>jy (e▸hj)).trans (B8.block j<|aF j hj),?_,fun i hi=>(jw i hi).elim (sF i) fun h=> .inr zx,?_,?_,zx⟩
     ·exact((nq _ zx).trans<|B8.block _ zx).trans<|(pN _ zx zx<|pW _ lr).trans M0.out
     ·refine Off.set ((((HH.out.2.2.1.trans QQ.out.2.2.2.2.2.2 fun i hi=>?_).trans BF.out.2.2.2.2.2.2 fun i hi=>?_).trans (Off.of (F:=[]) B8) fun _ h=>(by cases h))) _ _ _<|.inr zx
      ·simp only[Be]at hi;rcases hi with rfl | hi
       ·exact .inr zx
       ·exact sF i hi
      ·simp only[Be]at hi;rcases hi with rfl | hi
       ·exact .inr zx
       ·exact(QQ.out.2.2.2.2.1 i hi).elim (sF i) fun h=> .inr zx
     ·intro i hi;simp only[Be,CY]at hi;rw[yY];rcases hi with rfl | rfl | hi | hi | hi | hi
      ·exact⟨zx,zx,jy⟩
      ·exact⟨zx,zx,nm⟩
      ·have h1:=PZ i hi;refine⟨zx,zx,fun h=>?_⟩;rcases BF.out.2.2.2.2.1 i h with h | h
       ·exact h1.2.2 h
       ·omega
      ·have h1:=UU i hi;exact⟨zx,zx,BF.out.2.2.2.2.2.1 i hi⟩
      ·have h1:=Xp.out i hi;refine⟨zx,zx,fun h=>?_⟩;rcases jw i h with h | h
       ·exact h1.2.2 h
       ·omega
      ·have h1:=kG i hi;exact⟨zx,zx,fun h=>by have:=aF i h;omega⟩
     ·intro i hi;simp only[CY]at hi;rcases hi with hi | hi | hi | hi
      ·have:=PZ i hi;omega
      ·have:=UU i hi;omega
      ·have:=Xp.out i hi;omega
      ·have:=kG i hi;omega
    clear Yr ks8 k58 K9 nq kG aF yY jw sF pW nm K8 YZ hGo Gq rW rM pN yS;go_wp2
    go_ret
    rw[HE.out,HE2.out];obtain⟨q,m,sv,Fa,gv,Fg,hv,Gh,ov,Go,F',h1,h2⟩:=Do.out;exact⟨q,m,sv,Fa,gv,Fg,hv,Gh,ov,Go,F',congrArg Ending.returned h1,h2⟩
end Go.P
namespace Go.P
variable {x:Pt}
section
variable {w w':World} {p:Nat} {hn:ByteArray} {hd:Option (ByteArray×Nat)} {hm:Option ByteArray} {at_:List Pt} {gs:List Gt} {fs:List (ByteArray×Nat)} {vs:List T} {F:List Nat}
def XY.ctx {e:Ending}(h:XY w w' e p hn hd hm at_ gs fs vs F)(hG:JG w)(hF: ∀ i,i∈F->23<=i)(hsz: ∀ y,y∈gs->y.2.1.1.size<1000000000/\y.2.2.1.size<1000000000):
  ∃ q m cs S F' hv Gh ov Go,e= .returned (.pointer<|Qb q 0)/\Ctx w' q p m cs at_ gs S fs vs F' [] (.slice none 0 0) []/\cs[1]?=some (.string hn)/\cs[2]?=some hv/\QP w' hv hd Gh/\cs[5]?=some ov/\VH w' ov hm Go/\(∀ i,i∈Gh++Go->i∈S)/\(∀ j,8<=j->j<972->cs[j]?=some (.int .u64 0))/\Off F w w'/\(∀ i,i∈F'->i∈F\/w.heap.size<=i)/\w.heap.size<=q/\w.heap.size<=m/\ ∀ i,i∈S->w.heap.size<=i:=by
 obtain⟨q,m,sv,Fa,gv,Fg,hv,Gh,ov,Go,F',h1,h2,h3,h4,h5,h6,h7,h8,h9,hA,hB,hC,hD⟩:=h;obtain⟨cs,hcs⟩: ∃ cs,(((Nk p m hn hv).setIfInBounds 3 sv).setIfInBounds 4 gv).setIfInBounds 5 ov=cs:=⟨_,rfl⟩;have sz:cs.size=972:=by rw[<- hcs];simp[jO]
 have lo: ∀ j,j≠3->j≠4->j≠5->cs[j]?=(Nk p m hn hv)[j]?:=fun j j3 j4 j5=>by rw[<- hcs,Bc,if_neg zx,Bc,if_neg zx,Bc,if_neg zx]
 have l3:cs[3]?=some sv:=by rw[<- hcs,Bc,if_neg zx,Bc,if_neg zx,Bc,if_pos rfl,if_pos (by simp[jO])]
 have l4:cs[4]?=some gv:=by rw[<- hcs,Bc,if_neg zx,Bc,if_pos rfl,if_pos (by simp[jO])]
 have l5:cs[5]?=some ov:=by rw[<- hcs,Bc,if_pos rfl,if_pos (by simp[jO])]
 have l7:cs[7]?=some (.slice none 0 0):=(lo 7 zx zx zx).trans<|Uy _ _ _ _ 7 zx;rw[hcs]at h2;have hlw:23<=w.heap.size:=hG.2.2;refine⟨q,m,cs,Fa++(Fg++(Gh++Go)),F',hv,Gh,ov,Go,h1,⟨⟨by rw[uM l7];exact h2,(lo 6 zx zx zx).trans<|Uy _ _ _ _ 6 zx,zx,AO.nil,⟨#[],0,h3,rfl⟩,hD,Af.nil _ _,zw,zw⟩,⟨sz,(lo 0 zx zx zx).trans<|Uy _ _ _ _ 0 zx,?_,?_,fun j hj=>(hB j (by simp only[Be];exact .inr<|.inr hj)).2.1⟩,h8,hG.of h9 hF,fun j hj=>?_,fun j hj=>⟨fun h=>(hB j (by simp only[Be];exact .inr<|.inr h)).2.2 hj,(hA j hj).elim (hF j) fun h=>zx⟩⟩,(lo 1 zx zx zx).trans<|Uy _ _ _ _ 1 zx,(lo 2 zx zx zx).trans<|Uy _ _ _ _ 2 zx,h6,l5,h7,fun i hi=>by simp only[CY]at hi⊢;exact .inr<|.inr hi,fun j h1 h2=>(lo j zx zx zx).trans (Z1r _ _ _ _ j h1 h2),h9,hA,(hB q zw).1,(hB m zw).1,fun i hi=>(hB i (by simp only[Be];exact .inr<|.inr hi)).1⟩
 ·obtain⟨pa,ca,rfl⟩:=h4.form;refine⟨pa,ca,l3,fun i x hx=>?_⟩;obtain⟨ga,cap,c,G,e1,aS,⟨⟨g,c',rfl,rfl,hs⟩,hGF⟩,key⟩:=h4.dK.nth i x hx;injection e1 with e1 _ _;exact⟨ga,g,c',e1,by simp[aS],by simp[hGF g zw],key 0 _ rfl,key 1 _ rfl,hs⟩
 ·obtain⟨pa,ca,rfl⟩:=h5.form;refine⟨pa,ca,l4,fun i x hx=>?_⟩;obtain⟨ga,cap,c,G,e1,aS,⟨_,rfl⟩,key⟩:=h5.nth i x hx;injection e1 with e1 _ _
  have:=hsz x<|U8 hx
  exact⟨ga,e1,by simp[aS],key 0 _ rfl,key 1 _ rfl,key 2 _ rfl,key 3 _ rfl,key 4 _ rfl,this.1,this.2⟩
 ·simp only[Be,SA,or_false]at hj;rcases hj with rfl | rfl
  ·exact⟨(hB _ zw).2.2,fun h=>(hC _ h).1 rfl,by have:=(hB j zw).1;omega⟩
  ·exact⟨(hB _ zw).2.2,fun h=>(hC _ h).2 rfl,by have:=(hB j zw).1;omega⟩
def Z43 (h:Bv w p fs vs F)(q:Option Addr)(c:Nat): ∀ u,Bl w u->Calls prog 224 #[.pointer<|Qb p 0,.agg #[.string hn,.slice q 0 c]] u fun e w'=> ∃ pa n c Gh,e= .returned (.agg #[.string hn,.slice pa n c])/\QP w' (.slice pa n c) none Gh/\(∀ i,i∈Gh->u.heap.size<=i/\i<w'.heap.size)/\ ∃ F',Bv w' p fs vs F'/\Off F u w'/\(∀ i,i∈F'->i∈F\/u.heap.size<=i)/\ ∀ i,i∈Gh->i∉F':=fun u hu=>by
 refine(Zwr q hn c).mono ?_;rintro e w' ⟨rfl,hb⟩;have h':=h.of hu.size fun j hj=>hu.block j (h.lt j hj);exact⟨none,0,0,[],rfl,⟨rfl,rfl⟩,fun _ h=>(by cases h),F,h'.of hb.size fun j hj=>hb.block j (h'.lt j hj),Off.of hb,fun _ h=> .inl h,fun _ h=>(by cases h)⟩
def Yea (h:Bv w p fs vs F){B D b o c:Nat}{x:T}(hx:D6 B w (D+1) b o x)(hB:B<=w.heap.size)(Az:A9 0 x=0)(hl:vs.length<1000): ∀ u,Bl w u->Calls prog 224 #[.pointer<|Qb p 0,.agg #[.string hn,.slice (Qb b o) 1 c]] u fun e w'=> ∃ pa n c Gh,e= .returned (.agg #[.string hn,.slice pa n c])/\QP w' (.slice pa n c) (some<|DF vs x) Gh/\(∀ i,i∈Gh->u.heap.size<=i/\i<w'.heap.size)/\ ∃ F',Bv w' p fs (EC vs x) F'/\Off F u w'/\(∀ i,i∈F'->i∈F\/u.heap.size<=i)/\ ∀ i,i∈Gh->i∉F':=fun u hu=>by
 refine(wI (c:=c) (h.of hu.size fun j hj=>hu.block j (h.lt j hj)) (D6.carry (BJ hu hB) lr hx) (AU hB hu.size) Az hl hn).mono ?_;rintro e w' ⟨g,cap,rfl,hg,hs,F',h1,h2,h3,h4⟩;exact⟨_,_,_,[g],rfl,⟨g,cap,rfl,rfl,hs⟩,fun i hi=>by simp at hi;subst hi;exact⟨hg,hs.1⟩,F',h1,h2,h3,fun i hi=>by simp at hi;subst hi;exact h4⟩
def Ybp {y n':ByteArray}{k:Nat}(hy:(y.toList==[])=false)(u:World)(hv:Value)(Gh:List Nat)(sv:Value)(Fa:List Nat)(h1:QP u hv (some (y,k)) Gh)(h2:AO 323 2 LJ u sv [(n',(y,k))] Fa):Calls prog 252 #[.agg #[.string hn,hv],sv] u fun e w'=> ∃ po no co Go,e= .returned (.slice po no co)/\VH w' (.slice po no co) (some y) Go/\(∀ i,i∈Go->u.heap.size<=i/\i<w'.heap.size)/\Bl u w':=by
 obtain⟨g,c,rfl,rfl,hs⟩:=h1;obtain⟨ga,cap,cs,G,rfl,_,⟨g',c',rfl,rfl,hs'⟩,key⟩:=h2.nth 0 _ rfl;refine(Z5q hy hs (by simpa using key 0 _ rfl) (by simpa using key 1 _ rfl) hs').mono ?_;rintro e w' ⟨gh,ch,rfl,hg,c0,c1,c2,hb⟩;exact⟨_,_,_,[gh],rfl,⟨gh,ch,rfl,rfl,c0,c1,c2⟩,fun i hi=>by simp at hi;subst hi;exact⟨hg,Ll c0⟩,hb⟩
def Yd8 (hx:(x.2.1.toList==[])=true)(u:World)(hv:Value)(Gh:List Nat)(sv:Value)(Fa:List Nat)(h1:QP u hv none Gh)(h2:AO 323 2 LJ u sv [x] Fa):Calls prog 252 #[.agg #[.string hn,hv],sv] u fun e w'=> ∃ po no co Go,e= .returned (.slice po no co)/\VH w' (.slice po no co) none Go/\(∀ i,i∈Go->u.heap.size<=i/\i<w'.heap.size)/\Bl u w':=by
 obtain⟨rfl,rfl⟩:=h1;obtain⟨ga,cap,cs,G,rfl,_,⟨g',c',rfl,rfl,hs'⟩,key⟩:=h2.nth 0 _ rfl;refine(Z5p hx (by simpa using key 0 _ rfl) (by simpa using key 1 _ rfl) hs').mono ?_;rintro e w' ⟨rfl,hb⟩;exact⟨_,_,_,[],rfl,⟨rfl,rfl⟩,fun i hi=>(by cases hi),hb⟩
def Yd9 {x1:Pt}(hx:(x.2.1.toList==[])=true)(hx1:(x1.2.1.toList==[])=false)(u:World)(hv:Value)(Gh:List Nat)(sv:Value)(Fa:List Nat)(h1:QP u hv none Gh)(h2:AO 323 2 LJ u sv [x,x1] Fa):Calls prog 252 #[.agg #[.string hn,hv],sv] u fun e w'=> ∃ po no co Go,e= .returned (.slice po no co)/\VH w' (.slice po no co) none Go/\(∀ i,i∈Go->u.heap.size<=i/\i<w'.heap.size)/\Bl u w':=by
 obtain⟨rfl,rfl⟩:=h1;obtain⟨ga,cap,cs,G,e0,_,⟨g0,c0,rfl,rfl,hs0⟩,key⟩:=h2.nth 0 x rfl;obtain⟨ga',cap',cs',G',e1,_,⟨g1,c1,rfl,rfl,hs1⟩,dZ⟩:=h2.nth 1 x1 rfl;subst e0;injection e1 with e1 _ _;injection e1 with e1;injection e1 with e1;subst e1;refine(Z5r hx hx1 (by simpa using key 0 _ rfl) (by simpa using key 1 _ rfl) (by simpa using dZ 0 _ rfl) (by simpa using dZ 1 _ rfl) hs0 hs1).mono ?_;rintro e w' ⟨rfl,hb⟩;exact⟨_,_,_,[],rfl,⟨rfl,rfl⟩,fun i hi=>(by cases hi),hb⟩
end
end Go.P
namespace Go.P
variable {at_:List Pt}{gs:List Gt}{a0 a1 q:Nat}{Z:Array Value->Prop}{u:World}{hn:ByteArray}
section
variable {w:World} {p:Nat} {fs:List (ByteArray×Nat)} {vs:List T} {F:List Nat} {B D:Nat}
def Bv.len (h:Bv w p fs vs F): ∃ g c,w.cell? ⟨p,0,none⟩=some (.slice g fs.length c):=by
 obtain⟨k,r,fv,vv,Ff,Fv,hw⟩:=h;obtain⟨pv,cv,rfl⟩:=hw.facts.form;exact⟨pv,cv,hw.blk.four.1⟩
def Uk (w:World) (p:Nat) (at_:List Pt) (gs:List Gt) (fs:List (ByteArray×Nat)) (vs:List T) (F:List Nat) (a0 a1:Nat) (Z:Array Value->Prop) (q:Nat) (u:World):Prop:= ∃ m cs S F' ov Fo,Ctx u q p m cs at_ gs S fs vs F' [] ov Fo/\cs[8]?=some (.int .u64 (a0:Int))/\cs[9]?=some (.int .u64 (a1:Int))/\cs[10]?=some (.int .u64 0)/\cs[11]?=some (.int .u64 0)/\Z cs/\Off F w u/\(∀ i,i∈F'->i∈F\/w.heap.size<=i)/\w.heap.size<=q/\w.heap.size<=m/\ ∀ i,i∈Fo->w.heap.size<=i
def Uk.below {v:World}(h:Uk w p at_ gs fs vs F a0 a1 Z q u)(hb:Bl u v):Uk w p at_ gs fs vs F a0 a1 Z q v:=by
 obtain⟨m,cs,S,F',ov,Fo,h1,h2,h3,h4,h5,h6,h7,h8⟩:=h;exact⟨m,cs,S,F',ov,Fo,h1.below hb,h2,h3,h4,h5,h6,h7.trans (Off.of (F:=[]) hb) fun _ h=>(by cases h),h8⟩
def Uk.cells (h:Uk w p at_ gs fs vs F a0 a1 Z q u):u.cell? ⟨q,8,none⟩=some (.int .u64 (a0:Int))/\u.cell? ⟨q,9,none⟩=some (.int .u64 (a1:Int))/\u.cell? ⟨q,10,none⟩=some (.int .u64 ((0:Nat):Int))/\u.cell? ⟨q,11,none⟩=some (.int .u64 ((0:Nat):Int)):=by
 obtain⟨m,cs,S,F',ov,Fo,h1,h2,h3,h4,h5,_⟩:=h;exact⟨(h1.cell 8 zx).trans h2,(h1.cell 9 zx).trans h3,(h1.cell 10 zx).trans h4,(h1.cell 11 zx).trans h5⟩
def XY.rests {e:Ending}{w':World}{hd:Option (ByteArray×Nat)}{hm:Option ByteArray}(h:XY u w' e p hn hd hm at_ gs fs vs F)(hu:Bl w u)(hG:JG w)(hF: ∀ i,i∈F->23<=i)(hsz: ∀ y,y∈gs->y.2.1.1.size<1000000000/\y.2.2.1.size<1000000000): ∃ q,e= .returned (.pointer<|Qb q 0)/\Uk w p at_ gs fs vs F 0 0 (fun cs=> ∀ j,8<=j->j<972->cs[j]?=some (.int .u64 0)) q w':=by
 obtain⟨q,m,cs,S,F',hv,Gh,ov,Go,h1,h2,_,_,_,_,_,_,h9,hA,hB,hC,hD,_⟩:=h.ctx (hG.of (F:=[]) (Off.of hu) fun _ h=>(by cases h)) hF hsz;exact⟨q,h1,m,cs,S,F',_,_,h2,h9 8 zx zx,h9 9 zx zx,h9 10 zx zx,h9 11 zx zx,h9,(Off.of hu).trans hA fun _ h=> .inl h,fun i hi=>(hB i hi).imp id (AU hu.size),AU hu.size hC,AU hu.size hD,fun _ h=>(by cases h)⟩
def wQ (n:Nat)(hn:n<=3):bits BinOp.andNot IntKind.u64 ((2 ^ n-1:Nat):Int) ((2 ^ 0-1:Nat):Int)=((2 ^ n-1:Nat):Int):=by
 have:n=0\/n=1\/n=2\/n=3:=zx
 rcases this with rfl | rfl | rfl | rfl <;> rfl
def bW (n:Nat)(hn:n<=3):2 ^ n-1<8/\ ∀ k,k∈BR (2 ^ n-1)->k<n:=by
 have:n=0\/n=1\/n=2\/n=3:=zx
 rcases this with rfl | rfl | rfl | rfl <;> exact⟨zu,zu⟩
def Z34 (h:Bv w p fs vs F)(hG:JG w)(hF: ∀ i,i∈F->23<=i)(Ku: ∀ i,i∈F->B<=i)(hB:B<=w.heap.size){a:A}{t:T}{pt pb pg:Option Addr}{ct cb cg:Nat}(hb:Ap 2 (DX B w<|D+2) pb [a])(hat:a.terms=[t])(Az:A9 0 t=0)(Gy:(EC vs t).length<900)(qD:vs.length<900)(hx:((DF vs t).1.toList==[])=true)(hl:fs.length<=3){fit n:Nat}{r:List Nat}(BG:GJ fs a.name (DF vs t) (BR<|2 ^ fs.length-1)=fit)(hf2: ∀ k,k∈BR fit->k<fs.length)(G8:BR fit=n::r):
  Calls prog 195 #[.pointer<|Qb p 0,.agg #[.string hn,.slice pt 0 ct,.slice pb 1 cb,.slice pg 0 cg]] w fun e w'=>e= .returned (.bool true)/\ ∃ F',Bv w' p fs (EC vs t) F'/\Off F w w'/\ ∀ i,i∈F'->i∈F\/w.heap.size<=i:=by
 have IZ:fit<8:=BG▸Uu _ _ _ fun k hk=>Nq hk;refine(Zxe (n:=fs.length) (a0:=fit) (a1:=0) (a2:=0) (a3:=0) (J:=Uk w p [(a.name,DF vs t)] [] fs (EC vs t) F 0 0 (fun cs=> ∀ j,8<=j->j<972->cs[j]?=some (.int .u64 0))) (J2:=Uk w p [(a.name,DF vs t)] [] fs (EC vs t) F fit 0 fun _=>True) (fun _ _ _ h hb=>h.below hb) (fun _ _ _ h hb=>h.below hb) (fun u hu=>?_) (fun q u h=>?_) (fun q u h=>?_) (fun q u h=>?_) (fun _ _ h=>h.cells) fun q u h=>?_).mono ?_
 ·have hc:=Go.W.Below.carry (hu.mono hB) lr;have WV:=h.of hu.size fun j hj=>hu.block j (h.lt j hj);refine(ug (bd:=[a]) (gu:=[]) (hb.carry fun _ _ _ hA=>DX.carry hc lr hA) (AU hB hu.size) Ku (fun i hi=>WV.lt i hi) (fun x hx=>⟨t,by simp at hx;subst hx;exact⟨hat,Az⟩⟩) zw (vs1:=vs) (fun k=>?_) (D:=D) (pg:=pg) ⟨zw,fun i x hx=>by simp at hx⟩ (fun _ h=>(by cases h)) zw (fun k=>?_) (Z43 WV pt ct) fun u' hv Gh sv Fa h1 h2=>Yd8 (x:=(a.name,DF vs t)) hx u' hv Gh sv Fa h1 (by simpa[IL,hat]using h2)).mono ?_
  ·cases k with
   | zero=>simpa using qD
   | succ k=>simpa[IL,hat]using Gy
  ·simpa[IL,hat]using Gy
  ·intro e w' hm;have S8:XY u w' e p hn none none [(a.name,DF vs t)] [] fs (EC vs t) F:=by simpa[IL,hat]using hm
   exact S8.rests hu hG hF fun _ h=>(by cases h)
 ·obtain⟨m,cs,S,F',ov,Fo,h1,_⟩:=h;exact h1.wd.len
 ·obtain⟨m,cs,S,F',ov,Fo,h1,h8,h9,h10,h11,hz,hO,hs,hq,hm,gX⟩:=h;refine(Zwh h1 zw (seen:=0) (now:=fs.length) (sN:=2 ^ fs.length-1) (a0:=0) (fit:=fit) zx zx (wQ _ hl) (bW _ hl).1 h8 zx (bW _ hl).2 (fun _ _ _ y hy=>(by cases hy)) BG fun k hk=>hf2 k (by rwa [Nat.zero_or]at hk)).mono ?_;rintro e w' ⟨rfl,Aw,Aj,hc,ho,hs'⟩;have hlt:=h1.bd.lt;rw[Nat.zero_or]at hc;refine⟨rfl,m,_,S,F',Aw,Aj,hc,?_,?_,?_,?_,trivial,hO.trans ho fun i hi=> .inr ?_,hs,hq,hm,fun i hi=>(hs' i hi).elim (gX i) fun h=>AU hO.size h⟩
  ·rw[Bc,if_pos rfl,if_pos (by have:=h1.rd.sz;omega)]
  ·rw[Bc,if_neg zx];exact h9
  ·rw[Bc,if_neg zx];exact h10
  ·rw[Bc,if_neg zx];exact h11
  ·simp only[Be]at hi;rcases hi with rfl | rfl | hi
   ·exact hq
   ·exact hm
   ·exact gX i hi
 ·obtain⟨m,cs,S,F',ov,Fo,h1,_⟩:=h;exact wR h1 zw fun _ h=>(by cases h)
 ·obtain⟨m,cs,S,F',ov,Fo,h1,_⟩:=h;exact vB h1 fit 0 0 0 IZ G8
 ·rintro e w' ⟨rfl,q,m,cs,S,F',ov,Fo,h1,_,_,_,_,_,hO,hs,_⟩;exact⟨rfl,F',h1.wd,hO,hs⟩
end
end Go.P
namespace Go.P
def Nh (w:World) (p:Nat) (x:Pt) (pn y:ByteArray) (kk:Nat) (vs:List T) (F:List Nat) (fs:List (ByteArray×Nat)) (a0:Nat) (q:Nat) (Y:Nat->List Nat->Prop) (u:World):Prop:= ∃ m cs S F' ov Fo,Ctx u q p m cs [x] [] S fs vs F' [] ov Fo/\Hm u cs S pn y kk/\cs[8]?=some (.int .u64 (a0:Int))/\cs[9]?=some (.int .u64 ((0:Nat):Int))/\cs[10]?=some (.int .u64 ((0:Nat):Int))/\cs[11]?=some (.int .u64 ((0:Nat):Int))/\Off F w u/\(∀ i,i∈F'->i∈F\/w.heap.size<=i)/\(∀ i,i∈q::m::Fo->w.heap.size<=i)/\Y u.heap.size (q::m::Fo++F')
def RZ (k n:Nat) (l:List Nat):Prop:=k<n/\k∉l
section
variable {w u:World} {p:Nat} {x:Pt} {pn y:ByteArray} {kk:Nat} {vs:List T} {F:List Nat} {fs:List (ByteArray×Nat)} {a0 q k:Nat}
def Nh.len {Y:Nat->List Nat->Prop}(h:Nh w p x pn y kk vs F fs a0 q Y u): ∃ g c,u.cell? ⟨p,0,none⟩=some (.slice g fs.length c):=by
 obtain⟨m,cs,S,F',ov,Fo,h1,_⟩:=h;exact h1.wd.len
def Nh.other {v:World}(h:Nh w p x pn y kk vs F fs a0 q (fun _ _=>True) u)(hb:Bl u v)(h1:u.heap.size<=k)(h2:k<v.heap.size):Nh w p x pn y kk vs F fs a0 q (RZ k) v:=by
 obtain⟨m,cs,S,F',ov,Fo,hc,hm,h8,h9,h10,h11,hO,hs,hl,_⟩:=h;refine⟨m,cs,S,F',ov,Fo,hc.below hb,hm.of hb.size (fun j hj=>hb.block j (hc.rd.lS j hj)) fun _ _=>rfl,h8,h9,h10,h11,hO.trans (Off.of (F:=[]) hb) fun _ h=>(by cases h),hs,hl,h2,fun h=>?_⟩;rcases CY.1 h with h | h
 ·have:=hc.bd.lt k h;omega
 ·have:=hc.wd.lt k h;omega
def Zpu (h:Nh w p x pn y kk vs F fs a0 q (RZ k) u){seen now sN fit:Nat}(MB:seen<=60)(hno:now<=60)(qK:bits BinOp.andNot IntKind.u64 ((2 ^ now-1:Nat):Int) ((2 ^ seen-1:Nat):Int)=(sN:Int))(RN:sN<8)(aU:a0<8)(hb: ∀ n,n∈BR sN->n<fs.length)(BG:GJ fs x.1 x.2 (BR sN)=fit)(hb2: ∀ n,n∈BR (a0 ||| fit)->n<fs.length):
  Calls prog 227 #[.pointer<|Qb q 0,.int .i64 (seen:Int),.int .i64 (now:Int)] u fun e w'=>e= .returned (.tuple #[])/\Nh w p x pn y kk vs F fs (a0 ||| fit) q (RZ k) w'/\w'.heap[k]?=u.heap[k]?:=by
 obtain⟨m,cs,S,F',ov,Fo,hc,hm,h8,h9,h10,h11,hO,hs,hl,AZ,hk2⟩:=h;refine(Zwh hc zw MB hno qK RN h8 aU hb (fun _ _ _ z hz=>(by cases hz)) BG hb2).mono ?_;rintro e w' ⟨rfl,Aw,Aj,hc',ho,hs'⟩;have kU:k∉q::m::Fo:=fun h=>hk2 (UF _ h);have hsz:=hc.rd.sz;refine⟨rfl,⟨m,_,S,F',Aw,Aj,hc',hm.of ho.size (fun j hj=>ho.block j (hc.rd.lS j hj) fun h=>(hc.dB j h).2.1 hj) (fun j hj=>by rw[Bc,if_neg zx]),?_,?_,?_,?_,hO.trans ho fun i hi=> .inr (hl i hi),hs,fun i hi=>?_,Ba AZ ho.size,fun h=>?_⟩,ho.block k AZ kU⟩
 ·rw[Bc,if_pos rfl,if_pos zx]
 ·rw[Bc,if_neg zx];exact h9
 ·rw[Bc,if_neg zx];exact h10
 ·rw[Bc,if_neg zx];exact h11
 ·simp only[Be]at hi;rcases hi with rfl | rfl | hi
  ·exact hl _ zw
  ·exact hl _ zw
  ·exact(hs' i hi).elim (fun h=>hl i (by simp[h])) fun h=>AU hO.size h
 ·rcases CY.1 h with h | h
  ·simp only[Be]at h;rcases h with rfl | rfl | h
   ·exact kU zw
   ·exact kU zw
   ·exact(hs' k h).elim (fun h=>kU (by simp[h])) zx
  ·exact hk2<|UH _ h
def Zv5 (h:Nh w p x pn y kk vs F fs a0 q (RZ k) u){seen s0 n:Nat}{fx:ByteArray×Nat}(MB:seen<=60)(ha:bits BinOp.andNot IntKind.u64 (a0:Int) ((2 ^ seen-1:Nat):Int)=(s0:Int))(RN:s0<8)(hn:BR s0=[n])(hf:fs[n]?=some fx)(hN:OU (pn,fx.2) fs)(hlen:fs.length<60):
  Calls prog 228 #[.pointer<|Qb q 0,.int .i64 (seen:Int)] u fun e w'=>e= .returned (.bool true)/\Nh w p x pn y kk vs F (fs++[(pn,fx.2)]) a0 q (RZ k) w'/\w'.heap[k]?=u.heap[k]?:=by
 obtain⟨m,cs,S,F',ov,Fo,hc,hm,h8,h9,h10,h11,hO,hs,hl,AZ,hk2⟩:=h;refine(Zyf hc hm MB h8 h9 h10 h11 ha RN hn hf hN hlen).mono ?_;rintro e w' ⟨rfl,Aw,Aj,F2,hc',ho,zR,zQ⟩;have hnS: ∀ j,j∈S->j∉q::m::Fo++F':=fun j hj h=>by
  rcases CY.1 h with h | h
  ·exact(hc.dB j h).2.1 hj
  ·exact(hc.dF j h).1 hj
 refine⟨rfl,⟨m,cs,S,F2,Aw,Aj,hc',hm.of ho.size (fun j hj=>ho.block j (hc.rd.lS j hj) (hnS j hj)) fun _ _=>rfl,h8,h9,h10,h11,hO.trans ho fun i hi=>?_,fun i hi=>(zR i hi).elim (hs i) fun h=> .inr (AU hO.size h),fun i hi=>?_,Ba AZ ho.size,fun h=>?_⟩,ho.block k AZ hk2⟩
 ·rcases CY.1 hi with h | h
  ·exact .inr<|hl i h
  ·exact hs i h
 ·simp only[Be]at hi;rcases hi with rfl | rfl | hi
  ·exact hl _ zw
  ·exact hl _ zw
  ·exact(zQ i hi).elim (fun h=>hl i (by simp[h])) fun h=>AU hO.size h
 ·rcases CY.1 h with h | h
  ·simp only[Be]at h;rcases h with rfl | rfl | h
   ·exact hk2 zw
   ·exact hk2 zw
   ·exact(zQ k h).elim (fun h=>hk2 (by simp[h])) zx
  ·exact(zR k h).elim (fun h=>hk2 (by simp[h])) zx
def Zto (h:Nh w p x pn y kk vs F fs a0 q (RZ k) u){seen:Nat}(MB:seen<=60)(ha:bits BinOp.andNot IntKind.u64 (a0:Int) ((2 ^ seen-1:Nat):Int)=((0:Nat):Int)):
  Calls prog 228 #[.pointer<|Qb q 0,.int .i64 (seen:Int)] u fun e w'=>e= .returned (.bool true)/\Nh w p x pn y kk vs F fs a0 q (RZ k) w'/\w'.heap[k]?=u.heap[k]?:=by
 obtain⟨m,cs,S,F',ov,Fo,hc,hm,h8,h9,h10,h11,hO,hs,hl,AZ,hk2⟩:=h;refine(Zyg hc MB h8 h9 h10 h11 ha).mono ?_;rintro e w' ⟨rfl,hb⟩;exact⟨rfl,⟨m,cs,S,F',ov,Fo,hc.below hb,hm.of hb.size (fun j hj=>hb.block j (hc.rd.lS j hj)) fun _ _=>rfl,h8,h9,h10,h11,hO.trans (Off.of (F:=[]) hb) fun _ h=>(by cases h),hs,hl,Ba AZ hb.size,hk2⟩,hb.block k AZ⟩
end
end Go.P
namespace Go.P
section
variable {w:World} {p:Nat} {fs:List (ByteArray×Nat)} {vs:List T} {F:List Nat} {B D:Nat}
def Z1x (h:Bv w p fs vs F)(hG:JG w)(hF: ∀ i,i∈F->23<=i)(Ku: ∀ i,i∈F->B<=i)(hB:B<=w.heap.size){b o c:Nat}{r:R}(hR:E5 B w (D+2) b o r){th t:T}{a:A}(qI:r.head.terms=[th])(Kt:r.body=[a])(hat:a.terms=[t])(Ye:r.guards=[])(Az:A9 0 th=0/\A9 0 t=0){y:ByteArray}{kk:Nat}{v1 v2:List T}(e1:EC vs th=v1)(e2:EC v1 t=v2)(s1:DF vs th=(y,kk))(s2:DF v1 t=(y,kk))(Gy:vs.length<900/\v1.length<900/\v2.length<900)(hy:(y.toList==[])=false/\y.size≠0)(hl:fs.length<=2)
  {fit JZ US k0:Nat} {fx:ByteArray×Nat} (BG:GJ fs a.name (y,kk) (BR<|2 ^ fs.length-1)=fit) (qp: ∀ k,k∈BR fit->k<fs.length) (ha:bits BinOp.andNot IntKind.u64 (fit:Int) ((2 ^ 0-1:Nat):Int)=(fit:Int)) (hn:BR fit=[k0]) (QY:fs[k0]?=some fx) (hN:OU (r.head.name,fx.2) fs) (YL:bits BinOp.andNot IntKind.u64 ((2 ^ (fs.length+1)-1:Nat):Int) ((2 ^ fs.length-1:Nat):Int)=(US:Int)) (YP:US<8) (hb2: ∀ k,k∈BR US->k<fs.length+1) (TI:GJ (fs++[(r.head.name,fx.2)]) a.name (y,kk) (BR US)=JZ) (hf2: ∀ k,k∈BR (fit ||| JZ)->k<fs.length+1) (ha2:bits BinOp.andNot IntKind.u64 ((fit ||| JZ:Nat):Int) ((2 ^ fs.length-1:Nat):Int)=((0:Nat):Int)):
  Calls prog 193 #[.pointer<|Qb p 0,.slice (Qb b o) 1 c] w fun e w'=>e= .returned (.bool true)/\ ∃ F',Bv w' p (fs++[(r.head.name,fx.2)]) v2 F'/\Off F w w'/\ ∀ i,i∈F'->i∈F\/w.heap.size<=i:=by
 obtain⟨_,pt,ct,pb,cb,pg,cg,r0,r1,r2,r3,hRS⟩:=hR.vals;obtain⟨va,pb',cb',UT,cg',e,⟨pt',ct',rfl,_,_,hrt⟩,_,UW,_,hrg⟩:=hRS;simp only[Gm,FK,List.cons.injEq,Value.slice.injEq,true_and,and_true]at e;obtain⟨⟨rfl,rfl⟩,⟨rfl,rfl⟩,rfl,rfl⟩:=e;have IZ:fit<8:=BG▸Uu _ _ _ fun k hk=>Nq hk;rw[qI]at r1 hrt;rw[Kt]at r2 UW;rw[Ye]at r3 hrg;obtain⟨tb,ot,rfl,hT⟩:=hrt.at_ 0 th rfl;simp only[Ol,Oj]at hT;refine(Z8m (n:=fs.length) (n3:=fs.length+1) (J0:=fun q u=>Nh w p (a.name,(y,kk)) r.head.name y kk v2 F fs 0 q (fun _ _=>True) u) (J1:=fun q k u=>Nh w p (a.name,(y,kk)) r.head.name y kk v2 F fs 0 q (RZ k) u) (J2:=fun q k u=>Nh w p (a.name,(y,kk)) r.head.name y kk v2 F fs fit q (RZ k) u) (J3:=fun q k u=>Nh w p (a.name,(y,kk)) r.head.name y kk v2 F (fs++[(r.head.name,fx.2)]) fit q (RZ k) u) (J4:=fun q k u=>Nh w p (a.name,(y,kk)) r.head.name y kk v2 F (fs++[(r.head.name,fx.2)]) (fit ||| JZ) q (RZ k) u) (J5:=fun q k u=>Nh w p (a.name,(y,kk)) r.head.name y kk v2 F (fs++[(r.head.name,fx.2)]) (fit ||| JZ) q (RZ k) u) r0 r1 r2 r3 (by rw[BK];omega) (fun u hu=>?_) (fun q u v k h hb h1 h2=>h.other hb h1 h2) (fun q k u h=>h.len) (fun q k u h=>by simpa using h.len) (fun q k u h=>by simpa using h.len) (fun q k u h=>?_) (fun q k u h=>?_) (fun q k u h=>?_) fun q k u h=>?_).mono ?_
 ·have hc:=Go.W.Below.carry (hu.mono hB) lr;have WV:=h.of hu.size fun j hj=>hu.block j (h.lt j hj);have f1:[a].foldl IL (v1,[])=(v2,[(a.name,(y,kk))]):=by simp[IL,hat,e2,s2]
  have CP:=Yea (hn:=r.head.name) (c:=ct) WV (D6.carry hc lr hT) (AU hB hu.size) Az.1 zx;rw[s1,e1]at CP;refine(ug (bd:=[a]) (gu:=[]) (UW.carry fun _ _ _ hA=>DX.carry hc lr hA) (AU hB hu.size) Ku (fun i hi=>WV.lt i hi) (fun z hz=>⟨t,by simp at hz;subst hz;exact⟨hat,Az.2⟩⟩) zw (vs1:=v1) (fun k=>?_) (D:=D) (pg:=pg) ⟨zw,fun i x hx=>by simp at hx⟩ (fun _ h=>(by cases h)) zw (fun k=>?_) CP fun u' hv Gh sv Fa h1 h2=>Ybp hy.1 u' hv Gh sv Fa h1 (n':=a.name) (by rw[f1]at h2;exact h2)).mono ?_
  ·cases k with
   | zero=>exact Gy.2.1
   | succ k=>simpa[IL,hat,e2]using Gy.2.2
  ·simpa[IL,hat,e2]using Gy.2.2
  ·intro e w' hm;rw[f1]at hm;obtain⟨q,m,cs,S,F',hv,Gh,ov,Go,h1,h2,h3,h4,h5,h6,h7,h8,h9,hA,Qc,hC,hD,_⟩:=XY.ctx hm (hG.of (F:=[]) (Off.of hu) fun _ h=>(by cases h)) hF fun _ h=>(by cases h);obtain⟨g,cg',rfl,rfl,hs⟩:=h5;obtain⟨gh,ch,rfl,rfl,g0,g1,g2⟩:=h7;refine⟨q,h1,m,cs,S,F',_,_,h2,⟨⟨gh,ch,h6,h8 gh zw,g0,g1,g2⟩,⟨h3,g,cg',h4,h8 g zw,hs⟩,hy.2⟩,h9 8 zx zx,h9 9 zx zx,h9 10 zx zx,h9 11 zx zx,(Off.of hu).trans hA fun _ h=> .inl h,fun i hi=>(Qc i hi).imp id (AU hu.size),fun i hi=>?_,trivial⟩;simp only[Be,SA,or_false]at hi;rcases hi with rfl | rfl
   ·exact AU hu.size hC
   ·exact AU hu.size hD
 ·have:=Zpu h (seen:=0) (now:=fs.length) zx zx (wQ _ zx) (bW _ zx).1 zx (bW _ zx).2 BG (fun k hk=>qp k (by rwa [Nat.zero_or]at hk))
  rwa [Nat.zero_or]at this
 ·exact Zv5 h (seen:=0) zx ha IZ hn QY hN zx
 ·exact Zpu h zx zx YL YP IZ (by simpa using hb2) TI (by simpa using hf2)
 ·exact Zto h zx ha2
 ·rintro e w' ⟨rfl,q,k,m,cs,S,F',ov,Fo,hc,_,_,_,_,_,hO,hs,_⟩;exact⟨rfl,F',hc.wd,hO,hs⟩
end
end Go.P
namespace Go.W
def Je (st:List (ByteArray×Nat)×List T) (a:A):List (ByteArray×Nat)×List T:=(st.1++[(a.name,(GK []<|DF st.2<|a.terms.headD T0).1)],EC st.2<|a.terms.headD T0)
end Go.W
namespace Go.P
attribute [local go_sem] MZ
def Z70 {w:World}{p:Nat}{fs:List (ByteArray×Nat)}{vs:List T}{F:List Nat}(h:Bv w p fs vs F){B D:Nat}{l:List A}{pl:Option Addr}{cl:Nat}(hb:Ap 2 (DX B w<|D+2) pl l)(hB:B<=w.heap.size)(Ku: ∀ i,i∈F->B<=i)(h1: ∀ a,a∈l-> ∃ t,a.terms=[t]/\A9 0 t=0)(hl:l.length<=50)(hlv: ∀ k,((l.take k).foldl Je (fs,vs)).2.length<900)(Yc: ∀ k,((l.take k).foldl Je (fs,vs)).1.length<60)(hN: ∀ k a,l[k]?=some a->OU (a.name,(GK []<|DF ((l.take k).foldl Je (fs,vs)).2<|a.terms.headD T0).1) ((l.take k).foldl Je (fs,vs)).1):
  Calls prog 192 #[.pointer<|Qb p 0,.slice pl l.length cl] w fun e w'=>e= .returned (.bool true)/\ ∃ F',Bv w' p (l.foldl Je (fs,vs)).1 (l.foldl Je (fs,vs)).2 F'/\Off F w w'/\ ∀ i,i∈F'->i∈F\/w.heap.size<=i:=by
 obtain⟨nl,M9⟩: ∃ nl,AC (l.length=nl):=⟨_,⟨rfl⟩⟩;rw[M9.out]at hl;rw[M9.out];have yA:=AA hb;have RE:=AA hlv;have HLF:=AA Yc;have HN:=AA hN;have H1:=AA h1;have H:=AA h;clear hb hlv Yc hN h1 h;refine Qx func192 rfl ?_;simp only[ntmps192,E9,BO,D7,Nat.reduceAdd,Nat.reduceSub,Ju,Jv,Jr,Jt,FK,Gm];go_wp2
 go_loopw [9] (fun iv wr=> ∃ k,k<=nl/\iv= .int .i64 ((k:Nat):Int)/\ ∃ F',Bv wr p ((l.take k).foldl Je (fs,vs)).1 ((l.take k).foldl Je (fs,vs)).2 F'/\Off F w wr/\ ∀ i,i∈F'->i∈F\/w.heap.size<=i) (fun iv _=>nl-OM iv)
 case atStart=>exact⟨0,Ii _,rfl,F,H.out,Off.refl _ _,fun _ h=> .inl h⟩
 case round=>
  obtain⟨k,hk,rfl,F',hwd,Dj,Di⟩:=hrel;have hlv:=RE.out k;have Yc:=HLF.out k;have Ve:=HN.out k;obtain⟨st,hst⟩: ∃ st,AC ((l.take k).foldl Je (fs,vs)=st):=⟨_,⟨rfl⟩⟩;rw[hst.out]at hlv Yc hwd Ve;by_cases hlt:k<nl
  ·obtain⟨a,hak⟩: ∃ a,l[k]?=some a:=⟨_,DK (by have:=M9.out;omega)⟩;obtain⟨t,hat,Az⟩:=H1.out a<|U8 hak;have lD:=Ve a hak;rw[hat]at lD;simp only[List.headD_cons]at lD;obtain⟨bb,oo,rfl,hA⟩:=yA.out.at_ k a hak;have ae:Below B w wr:=Dj.below Ku hB;obtain⟨IJ,pc,cc,z0,z1,rq⟩:=(DX.carry (Go.W.Below.carry ae lr) lr hA).vals;obtain⟨pc',cc',e1,_,_,hrt⟩:=rq;injection e1 with _ e1;injection e1 with e1 _;injection e1 with e1 _ e3;subst e1;subst e3;rw[hat]at z1 hrt;obtain⟨tb,ot,rfl,hT⟩:=hrt.at_ 0 t rfl;simp only[BO,D7,Hr,Ol,Oj]at z1 hT;have g:(k:Int)<(nl:Int):=zx
   have Wz:B<=wr.heap.size:=AU hB ae.size;have CS:=AA fun u (hu:Bl wr u)=>wI (c:=cc) (hwd.of hu.size fun j hj=>hu.block j (hwd.lt j hj)) (D6.carry (BJ hu Wz) lr hT) (AU Wz hu.size) Az zx a.name;have HR:=AA<|AF hwd<|AF Dj Di;have AK:=AA<|AF hak hat;have HNA:=AA lD;clear hwd Dj Di hA hrt hT hak hat Ve lD;go_wp2_with fail
   refine(CS.out _<|(AQ _ wr).alloc lr _).mono ?_;rintro e w5 ⟨g5,c5,rfl,QX,QV,F5,Oz,BQ,hs5,Yf⟩;have CF:=AA<|Zr1 (w:=w5) (mv:= .map none) (xs:=[]) (.inl ⟨rfl,rfl⟩) (fun m e=>by cases e) none 0 0 (c:=c5) QV a.name;have FT: ∀ i,i∈F5->i∈F'\/wr.heap.size+1<=i:=fun i hi=>(hs5 i hi).imp id fun h=>by simpa using h
   have P5:=AA<|AF Oz<|AF BQ FT;obtain⟨val,hval⟩: ∃ val,AC ((GK []<|DF st.2 t).1=val):=⟨_,⟨rfl⟩⟩;rw[hval.out]at CF HNA;clear Oz BQ hs5 QV QX Yf FT;go_wp2_with fail
   refine mq CF.out ?_;rintro w6 Gs;have CJ:=AA<|Z0q (P5.out.1.of Gs.size fun j hj=>Gs.block j (P5.out.1.lt j hj)) (a.name,val) HNA.out Yc;have HB6:=AA Gs;clear Gs;go_wp2_with fail
   refine CJ.out.mono ?_;rintro e w7 ⟨rfl,F7,aI,FU,MC⟩;have EQ:(l.take<|k+1).foldl Je (fs,vs)=(st.1++[(a.name,val)],EC st.2 t):=by
    rw[PR,AK.out.1,List.foldl_append,hst.out];simp[Je,AK.out.2,hval.out]
   have l5:wr.heap.size+1<=w5.heap.size:=by have:=P5.out.2.1.size;simpa using this
   have HF:AC (∃ F',Bv w7 p ((l.take<|k+1).foldl Je (fs,vs)).1 ((l.take<|k+1).foldl Je (fs,vs)).2 F'/\Off F w w7/\ ∀ i,i∈F'->i∈F\/w.heap.size<=i):=by
    rw[EQ];have lw:=HR.out.2.1.size;have aX: ∀ i,i∈F5->i∈F\/w.heap.size<=i:=fun i hi=>(P5.out.2.2 i hi).elim (HR.out.2.2 i) fun h=> .inr zx;refine⟨F7,aI,(((HR.out.2.1.trans (Off.of (F:=[])<|(AQ _ wr).alloc lr _) fun _ h=>(by cases h)).trans P5.out.2.1 fun i hi=>HR.out.2.2 i hi).trans (Off.of (F:=[]) HB6.out) fun _ h=>(by cases h)).trans FU aX,fun i hi=>(MC i hi).elim (aX i) fun h=> .inr (by have:=HB6.out.size;omega)⟩
   clear EQ aI FU MC;go_wp2
   exact⟨⟨k+1,zx,zw,HF.out⟩,by simp[OM];omega⟩
  ·have g: ¬ (k:Int)<(nl:Int):=zx
   obtain rfl:k=nl:=zx
   have aj:l.foldl Je (fs,vs)=st:=by rw[<- hst.out,Rx (by have:=M9.out;omega)]
   have HE:=AA aj;have HR:=AA<|AF hwd<|AF Dj Di;clear aj hwd Dj Di Ve;go_wp2
   go_ret
   rw[HE.out];exact⟨rfl,F',HR.out.1,HR.out.2.1,HR.out.2.2⟩
end Go.P
namespace Go.P
variable {w:World}
attribute [local go_sem] MZ
def Ye9 (w:World):Bv (((w.alloc<|.map #[] 0).alloc<|.map #[] 0).alloc<|.cells #[.slice none 0 0,.map<|some w.heap.size,.slice none 0 0,.map<|some<|w.heap.size+1] 316) (w.heap.size+2) [] [] [w.heap.size+2,w.heap.size,w.heap.size+1]:=by
 refine⟨w.heap.size,w.heap.size+1,.slice none 0 0,.slice none 0 0,[],[],UC w _ _ _ _,AO.nil,AO.nil,⟨#[],0,?_,rfl⟩,⟨#[],0,?_,rfl⟩,rfl,⟨zw,fun _ _=>Ii _,fun k hk=>by simp at hk;simp;omega⟩⟩
 ·exact(Ah _ _ _ (by simp;omega)).trans<|(Ah _ _ _ zw).trans<|World.alloc_heap_new w _
 ·exact(Ah _ _ _ zw).trans (by have:=World.alloc_heap_new (w.alloc<|.map #[] 0)<|.map #[] 0;rwa [EH]at this)
def Zq3 {fv rv:Value}{J0 J1:World->Prop}
  (CT: ∀ u,Bl w u->Bv u (w.heap.size+2) [] [] [w.heap.size+2,w.heap.size,w.heap.size+1]->Calls prog 192 #[.pointer<|Qb (w.heap.size+2) 0,fv] u fun e w'=>e= .returned (.bool true)/\J0 w')
  (CC: ∀ u,J0 u->Calls prog 193 #[.pointer<|Qb (w.heap.size+2) 0,rv] u fun e w'=>e= .returned (.bool true)/\J1 w'):
  Calls prog 142 #[fv,rv] w fun e w'=>e= .returned (.tuple #[.pointer<|Qb (w.heap.size+2) 0,.bool true])/\J1 w':=by
 have HT:=AA<|CT _ ((((AQ _ w).alloc lr _).alloc zw _).alloc (by simp;omega) _)<|Ye9 w;have HC:=AA CC;have CN:=AA<|Zwl w;clear CT CC;refine Qx func142 rfl ?_;simp only[ntmps142,E9,BO,D7,Nat.reduceAdd,Nat.reduceSub,Ju,Jv,Jr,Jt,FK,Gm];go_wp2_with fail
 refine mq CN.out ?_;rintro w1 Ag;go_wp2_with fail
 refine mq HT.out ?_;rintro w2 j0;have J0':=AA j0;clear j0 Ag;go_wp2_with fail
 refine(HC.out _ J0'.out).mono ?_;rintro e w3 ⟨rfl,j1⟩;have xX:=AA j1;clear j1;go_wp2
 go_ret2
 exact⟨rfl,xX.out⟩
def Zxz (hG:JG w){B D:Nat}(hB:B<=w.heap.size){l:List A}{pl:Option Addr}{cl:Nat}(hl:Ap 2 (DX B w<|D+2) pl l)(h1: ∀ a,a∈l-> ∃ t,a.terms=[t]/\A9 0 t=0)(hl2:l.length<=50)(hlv: ∀ k,((l.take k).foldl Je ([],[])).2.length<900)(Yc: ∀ k,((l.take k).foldl Je ([],[])).1.length<60)(hNl: ∀ k a,l[k]?=some a->OU (a.name,(GK []<|DF ((l.take k).foldl Je ([],[])).2<|a.terms.headD T0).1) ((l.take k).foldl Je ([],[])).1)
  {fs:List (ByteArray×Nat)} {vs:List T} (hst:l.foldl Je ([],[])=(fs,vs)) {b o c:Nat} {r:R} (hR:E5 B w (D+2) b o r) {th t:T} {a:A} (qI:r.head.terms=[th]) (Kt:r.body=[a]) (hat:a.terms=[t]) (Ye:r.guards=[]) (Az:A9 0 th=0/\A9 0 t=0) {y:ByteArray} {kk:Nat} {v1 v2:List T} (e1:EC vs th=v1) (e2:EC v1 t=v2) (s1:DF vs th=(y,kk)) (s2:DF v1 t=(y,kk)) (Gy:vs.length<900/\v1.length<900/\v2.length<900) (hy:(y.toList==[])=false/\y.size≠0) (hlen:fs.length<=2)
  {fit JZ US k0:Nat} {fx:ByteArray×Nat} (BG:GJ fs a.name (y,kk) (BR<|2 ^ fs.length-1)=fit) (qp: ∀ k,k∈BR fit->k<fs.length) (ha:bits BinOp.andNot IntKind.u64 (fit:Int) ((2 ^ 0-1:Nat):Int)=(fit:Int)) (hn:BR fit=[k0]) (QY:fs[k0]?=some fx) (hN:OU (r.head.name,fx.2) fs) (YL:bits BinOp.andNot IntKind.u64 ((2 ^ (fs.length+1)-1:Nat):Int) ((2 ^ fs.length-1:Nat):Int)=(US:Int)) (YP:US<8) (hb2: ∀ k,k∈BR US->k<fs.length+1) (TI:GJ (fs++[(r.head.name,fx.2)]) a.name (y,kk) (BR US)=JZ) (hf2: ∀ k,k∈BR (fit ||| JZ)->k<fs.length+1) (ha2:bits BinOp.andNot IntKind.u64 ((fit ||| JZ:Nat):Int) ((2 ^ fs.length-1:Nat):Int)=((0:Nat):Int)):
  Calls prog 142 #[.slice pl l.length cl,.slice (Qb b o) 1 c] w fun e w'=>e= .returned (.tuple #[.pointer<|Qb (w.heap.size+2) 0,.bool true])/\ ∃ F',Bv w' (w.heap.size+2) (fs++[(r.head.name,fx.2)]) v2 F'/\Bl w w'/\ ∀ i,i∈F'->w.heap.size<=i:=by
 have hg:=hG.2.2;refine Zq3 (J0:=fun u=> ∃ F',Bv u (w.heap.size+2) fs vs F'/\Bl w u/\ ∀ i,i∈F'->w.heap.size<=i) (fun u hu hw=>?_) fun u ⟨F',hw,hu,hF⟩=>?_
 ·have hc:=Go.W.Below.carry (hu.mono hB) lr;refine(Z70 (cl:=cl) hw (hl.carry fun _ _ _ hA=>DX.carry hc lr hA) (AU hB hu.size) (fun i hi=>by simp at hi;omega) h1 hl2 hlv Yc hNl).mono ?_;rintro e w' ⟨rfl,F',h1,h2,h3⟩;rw[hst]at h1;exact⟨rfl,F',h1,hu.trans<|h2.below (fun i hi=>by simp at hi;omega) hu.size,fun i hi=>(h3 i hi).elim (fun h=>by simp at h;omega) (AU hu.size)⟩
 ·have hc:=Go.W.Below.carry (hu.mono hB) lr;refine(Z1x (c:=c) hw (hG.of (F:=[]) (Off.of hu) fun _ h=>(by cases h)) (fun i hi=>AU hg (hF i hi)) (fun i hi=>AU hB (hF i hi)) (AU hB hu.size) (E5.carry hc lr hR) qI Kt hat Ye Az e1 e2 s1 s2 Gy hy hlen BG qp ha hn QY hN YL YP hb2 TI hf2 ha2).mono ?_;rintro e w' ⟨rfl,F2,h1,h2,h3⟩;exact⟨rfl,F2,h1,hu.trans<|h2.below hF hu.size,fun i hi=>(h3 i hi).elim (hF i) (AU hu.size)⟩
end Go.P
namespace Go.W
def jU:ByteArray:=⟨#[116,105,109,101]⟩
def iN:ByteArray:=⟨#[114,105,103,104,116]⟩
def Xk:ByteArray:=⟨#[109,97,121]⟩
def vX:T:= .mk 1 0 ⟨#[120]⟩ []
def vT:T:= .mk 1 0 ⟨#[116]⟩ []
def sA:T:= .mk 3 0 ⟨#[97]⟩ []
def dN (n:Int):T:= .mk 5 n ⟨#[]⟩ []
def jW:A:=⟨jU,[dN 4]⟩
def bE:A:=⟨iN,[sA]⟩
def Yfx:A:=⟨Xk,[sA]⟩
def bq:R:=⟨⟨Xk,[vX]⟩,[⟨iN,[vX]⟩],[]⟩
def ww:R:=⟨⟨⟨#[]⟩,[]⟩,[Yfx,⟨jU,[vT]⟩],[⟨3,vT,dN 5⟩]⟩
def xB:R:=⟨⟨⟨#[]⟩,[]⟩,[Yfx],[]⟩
def GA:Bk:=⟨[bE],[bq],[]⟩
def Ia:Bk:=⟨[],[],[[ww]]⟩
def ai:List (ByteArray×Nat):=[(jU,0),(iN,1)]
def vs2:List T:=[dN 4,sA]
end Go.W
namespace Go.P
def tZ {x y:ByteArray×Nat}(h: ∀ w,(Op.equal 320 (.agg (He x).toArray)<|.agg (He y).toArray).run prog w= .ok false w){fs:List (ByteArray×Nat)}(hf:OU x fs):OU x (y::fs):=fun z hz=>by
 rcases List.mem_cons.mp hz with rfl | hz
 ·exact h
 ·exact hf z hz
def tq (x:ByteArray×Nat):OU x []:=fun y hy=>by cases hy
def Zsq {α:Type}{P:List α->Prop}{x y:α}(h0:P [])(h1:P [x])(h2:P [x,y])(k:Nat):P ([x,y].take k):=by
 match k with
 | 0=>exact h0
 | 1=>exact h1
 | k+2=>rw[Rx zw];exact h2
def Zrw {w:World}(hG:JG w){B D:Nat}(hB:B<=w.heap.size){pl:Option Addr}{cl:Nat}(hl:Ap 2 (DX B w<|D+2) pl [jW,bE]){b o c:Nat}(hR:E5 B w (D+2) b o bq):
  Calls prog 142 #[.slice pl 2 cl,.slice (Qb b o) 1 c] w fun e w'=>e= .returned (.tuple #[.pointer<|Qb (w.heap.size+2) 0,.bool true])/\ ∃ F',Bv w' (w.heap.size+2) (ai++[(Xk,1)]) vs2 F'/\Bl w w'/\ ∀ i,i∈F'->w.heap.size<=i:=by
 refine Zxz (fs:=ai) (vs:=vs2) (v1:=vs2) (v2:=vs2) (y:=⟨#[120]⟩) (kk:=0) (fit:=2) (JZ:=0) (US:=4) (k0:=1) (fx:=(iN,1)) hG hB hl ?_ zu ?_ ?_ ?_ zt hR rfl rfl rfl rfl ⟨zt,zt⟩ zt zt zt zt ⟨zu,zu,zu⟩ ⟨by rw[Lr];decide,zu⟩ zu zt zu zt zt rfl ?_ zt zu zu zt zu zt
 ·intro a ha;rcases List.mem_cons.mp ha with rfl | ha
  ·exact⟨_,rfl,zt⟩
  ·obtain rfl:=List.mem_singleton.mp ha;exact⟨_,rfl,zt⟩
 ·exact Zsq (P:=fun l=>(l.foldl Je ([],[])).2.length<900) zu zu zu
 ·exact Zsq (P:=fun l=>(l.foldl Je ([],[])).1.length<60) zu zu zu
 ·intro k a hk;match k with
  | 0=>exact tq _
  | 1=>
   cases hk;exact tZ (x:=(iN,1)) (y:=(jU,0)) (fun w=>zt) (tq _)
  | k+2=>simp at hk
 ·exact tZ (fun w=>zt)<|tZ (fun w=>zt)<|tq _
end Go.P
namespace Go.W
variable {s:Nat}{p:Option Addr}
def ZO {α:Type}{Q:Nat->Nat->α->Prop}:Ap s Q p []:=⟨zw,fun i x hx=>by simp at hx⟩
def wu {α:Type}{Q:Nat->Nat->α->Prop}{b o:Nat}{x:α}(h:Q b o x):Ap s Q (Qb b o) [x]:=⟨zw,fun i y hy=>by
 cases i with
 | zero=>cases hy;exact⟨b,o,rfl,by simpa using h⟩
 | succ i=>simp at hy⟩
def XR {α:Type}{Q:Nat->Nat->α->Prop}{x:α}{l:List α}(h:Ap s Q p (x::l)): ∃ b o,p=some ⟨b,o,none⟩/\Q b o x:=by
 obtain⟨b,o,h1,h2⟩:=h.at_ 0 x rfl;exact⟨b,o,h1,by simpa using h2⟩
def Z8j {B B':Nat}{u v:World}(h:B<=B')(hb: ∀ k,k<B->v.heap[k]?=u.heap[k]?):Dy B B' u v:=⟨h,fun b o hl=>Am (a:=⟨b,o,none⟩) (hb b hl)⟩
end Go.W
namespace Go.P
variable {u v:World}{B D:Nat}
def JG.same (h:JG u)(hs:u.heap.size<=v.heap.size)(hb: ∀ k,k<23->v.heap[k]?=u.heap[k]?):JG v:=by
 obtain⟨⟨h0,h1,h2⟩,h3,h4⟩:=h;exact⟨⟨(Am<|hb _ zu).trans h0,(Am<|hb _ zu).trans h1,(Am<|hb _ zu).trans h2⟩,(Am<|hb _ zu).trans h3,AU h4 hs⟩
def Yc5 {g t:Nat}(hg:g<B)(ht:t<B)(h1:AJ u g #[.string ⟨#[116,105,109,101]⟩,.slice (Qb t 0) 1 1] 95)(h2:AJ u t #[.int .i64 5,.int .i64 4,.string ⟨#[]⟩,.slice none 0 0] 100):DX B u (D+2) g 0 jW:=
 ⟨hg,h1.two.1,zu,_,h1.two.2.1,_,_,rfl,JB _,wu ⟨ht,_,h2.four.1,h2.four.2.1,h2.four.2.2.1,h2.four.2.2.2.1,rfl,rfl,rfl,⟨zu,zu⟩,⟨zu,zu⟩,zu,_,_,rfl,JB _,ZO⟩⟩
def Vw (D:Nat) (pf:Option Addr) (nf:Nat) (pr:Option Addr) (nr n:Nat) (u:World):Prop:=nf=2/\nr=1/\Ap 2 (DX n u<|D+2) pf [jW,bE]/\Ap 4 (E5 n u<|D+2) pr [bq]/\23<=n/\JG u
def Vw.of {pf:Option Addr}{nf:Nat}{pr:Option Addr}{nr n n':Nat}(h:Vw D pf nf pr nr n u)(hn:n<=n')(hs:u.heap.size<=v.heap.size)(hb: ∀ k,k<n->v.heap[k]?=u.heap[k]?):Vw D pf nf pr nr n' v:=by
 obtain⟨h1,h2,h3,h4,h5,h6⟩:=h;have hc:=Z8j hn hb;exact⟨h1,h2,h3.carry fun _ _ _ q=>q.carry hc lr,h4.carry fun _ _ _ q=>q.carry hc lr,AU h5 hn,h6.same hs fun k hk=>hb k zx⟩
def Two (c n m z p1 p2:Nat) (u:World):Prop:= ∃ F1 F2,Bv u p1 (ai++[(Xk,1)]) vs2 F1/\Bv u p2 (ai++[(Xk,1)]) vs2 F2/\(∀ i,i∈F1->c<=i/\i<n)/\ ∀ i,i∈F2->m<=i/\i<z
def Z37 {w:World}(hG:JG w)(hB:B<=w.heap.size){b o c:Nat}{fb rb kb fc rc kc:Option Addr}{G4 Gf PY Jb Vn Vl QT Qd:Nat}(k0:w.cell? ⟨b,o,none⟩=some (.slice fb 1 G4))(k1:w.cell? ⟨b,o+1,none⟩=some (.slice rb 1 Gf))(k2:w.cell? ⟨b,o+2,none⟩=some (.slice kb PY Jb))(k3:w.cell? ⟨b,o+3,none⟩=some (.slice fc 0 Vn))(k4:w.cell? ⟨b,o+4,none⟩=some (.slice rc 0 Vl))(k5:w.cell? ⟨b,o+5,none⟩=some (.slice kc QT Qd))(hc:2<=c)(h1:Ap 2 (DX B w<|D+2) fb [bE])(h2:Ap 4 (E5 B w<|D+2) rb [bq]):
  Calls prog 93 #[.slice (Qb b o) 2 c,.agg #[.int .i64 4,.slice none 0 0,.slice none 0 0]] w fun e w'=> ∃ g p1 p2 cw n m z,e= .returned (.tuple #[.slice (Qb g 0) 2 cw,.bool true])/\(w'.cell? ⟨g,0,none⟩=some (.pointer<|Qb p1 0)/\w'.cell? ⟨g,1,none⟩=some (.pointer<|Qb p2 0))/\Two w.heap.size n m z p1 p2 w'/\n<=m/\m<=z/\(n<=g/\g<m\/z<=g)/\g<w'.heap.size/\Bl w w':=by
 refine Zzu k0 k1 k2 k3 k4 k5 hc (J1:=fun pf nf _ pr nr _ u=>Vw D pf nf pr nr u.heap.size u/\w.heap.size<=u.heap.size) (J2:=fun pf nf _ pr nr _ Lx OE _ Lu OD _ u=>(Vw D pf nf pr nr u.heap.size u/\Vw D Lx OE Lu OD u.heap.size u)/\w.heap.size<=u.heap.size) (J3:=fun pf nf _ pr nr _ p1 n u=>Vw D pf nf pr nr n u/\ ∃ F1,Bv u p1 (ai++[(Xk,1)]) vs2 F1/\ ∀ i,i∈F1->w.heap.size<=i/\i<n) (J4:=fun p1 p2 n m z u=>Two w.heap.size n m z p1 p2 u) ?_ ?_ ?_ ?_ ?_ ?_ ?_ ?_
 ·exact fun pf nf cf pr nr cr u v ⟨h,hw⟩ hb=>⟨h.of hb.size hb.size hb.block,AU hw hb.size⟩
 ·intro u g t hg ht hu hb q1 q2;have VZ:=Go.W.Below.carry (hb.mono hB) (B':=w.heap.size+5) zx;refine(Zqo (ra:=none) (rb:=rb) (xs:=[jW]) (ys:=[bE]) (rs:=[]) (ss:=[bq]) hu (wu<|Yc5 hg ht q1 q2) (h1.carry fun _ _ _ q=>q.carry VZ lr) ZO (h2.carry fun _ _ _ q=>q.carry VZ lr) zu).mono ?_;rintro e w' ⟨pf,cf,pr,cr,rfl,hv,hb'⟩;have hsz:=hb.size;have hsz':=hb'.size;have qm:=hG.2.2;have gl: ∀ v:World,w'.heap.size<=v.heap.size->(∀ j,j<w.heap.size+5->v.heap[j]?=w'.heap[j]?)->JG v:=fun v hs hj=>hG.same zx fun k hk=>((hj k zx).trans<|hb'.block k zx).trans (hb.block k zx);refine⟨pf,_,cf,pr,_,cr,rfl,⟨⟨rfl,rfl,(hv w' lr (fun _ _=>rfl) fun _ _ _=>rfl).1,(hv w' lr (fun _ _=>rfl) fun _ _ _=>rfl).2,zx,gl w' lr fun _ _=>rfl⟩,zx⟩,fun k v0 v1 v2 hk hku=>?_,hb'⟩;have e3: ∀ j,j≠k->(((w'.setCell ⟨k,0,none⟩ v0).setCell ⟨k,1,none⟩ v1).setCell ⟨k,2,none⟩ v2).heap[j]?=w'.heap[j]?:=fun j hj=>(Au _ _ _ _ hj).trans ((Au _ _ _ _ hj).trans<|Au _ _ _ _ hj);have sz:(((w'.setCell ⟨k,0,none⟩ v0).setCell ⟨k,1,none⟩ v1).setCell ⟨k,2,none⟩ v2).heap.size=w'.heap.size:=by simp[World.setCell]
  have q:=hv _ (Nat.le_of_eq sz.symm) (fun j hj=>e3 j zx) fun j hj _=>e3 j zx;exact⟨⟨rfl,rfl,q.1,q.2,zx,gl _ zx fun j hj=>e3 j zx⟩,zx⟩
 ·rintro pf nf cf pr nr cr u ⟨⟨rfl,rfl,r1,r2,Ye,gu⟩,hw⟩;refine(Zqo (xs:=[jW,bE]) (ys:=[]) (rs:=[bq]) (ss:=[]) lr r1 ZO r2 ZO zu).mono ?_;rintro e w' ⟨Lx,OK,Lu,OJ,rfl,hv,hb'⟩;have q:=hv w' lr (fun _ _=>rfl) fun _ _ _=>rfl;have r:Vw D pf 2 pr 1 w'.heap.size w':=Vw.of ⟨rfl,rfl,r1,r2,Ye,gu⟩ hb'.size hb'.size hb'.block;exact⟨Lx,_,OK,Lu,_,OJ,rfl,⟨⟨r,rfl,rfl,q.1,q.2,r.2.2.2.2.1,r.2.2.2.2.2⟩,AU hw hb'.size⟩,hb'⟩
 ·exact fun _ _ _ _ _ _ _ _ _ _ _ _ u v ⟨⟨h,h'⟩,hw⟩ hb=>⟨⟨h.of hb.size hb.size hb.block,h'.of hb.size hb.size hb.block⟩,AU hw hb.size⟩
 ·exact fun _ _ _ _ _ _ p1 n u v ⟨h,F1,hw,hF⟩ hs hb=>⟨h.of lr hs hb,F1,hw.of hs fun k hk=>hb k (hF k hk).2,hF⟩
 ·rintro p1 p2 n m z u v ⟨F1,F2,h1,h2,h3,h4⟩ hs hb;exact⟨F1,F2,h1.of hs fun k hk=>hb k (h1.lt k hk) (.inl (h3 k hk).2),h2.of hs fun k hk=>hb k (h2.lt k hk) (.inr (h4 k hk).1),h3,h4⟩
 ·rintro pf nf cf pr nr cr Lx OE OK Lu OD OJ u ⟨⟨⟨rfl,rfl,r1,r2,Ye,gu⟩,r'⟩,hw⟩;obtain⟨b1,o1,rfl,hr⟩:=XR r2;refine(Zrw gu lr r1 hr).mono ?_;rintro e w' ⟨rfl,F',hF,hb,kY⟩;exact⟨_,rfl,⟨r'.of hb.size hb.size hb.block,F',hF,fun i hi=>⟨AU hw<|kY i hi,hF.lt i hi⟩⟩,hb⟩
 ·rintro pf nf cf pr nr cr p1 n u hn ⟨⟨rfl,rfl,r1,r2,Ye,gu⟩,F1,h1,h3⟩;obtain⟨b1,o1,rfl,hr⟩:=XR r2;refine(Zrw gu hn r1 hr).mono ?_;rintro e w' ⟨rfl,F',hF,hb,kY⟩;exact⟨_,rfl,⟨F1,F',h1.of hb.size fun k hk=>hb.block k (h1.lt k hk),hF,h3,fun i hi=>⟨kY i hi,hF.lt i hi⟩⟩,hb⟩
end Go.P
