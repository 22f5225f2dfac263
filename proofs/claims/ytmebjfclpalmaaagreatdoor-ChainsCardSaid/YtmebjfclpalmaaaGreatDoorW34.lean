import Derived.Test.YtmebjfclpalmaaaGreatDoorW33
set_option maxRecDepth 100000
set_option maxHeartbeats 8000000
set_option linter.unusedSimpArgs false
open Go.Proofs Go.RowKit Go.W Tryz
namespace Go.P
attribute [local go_sem] Yea
theorem Zt4: ∀ (l:List A) (st:List T×List Pt),(l.foldl Zfh st).2.length=st.2.length+l.length
 | [],_=>rfl
 | a::l,st=>by rw[List.foldl_cons,Zt4 l];simp[Zfh];omega
theorem Zt3: ∀ (l:List G) (st:List T×List Gt),(l.foldl Zhd st).2.length=st.2.length+l.length
 | [],_=>rfl
 | a::l,st=>by rw[List.foldl_cons,Zt3 l];simp[Zhd];omega
abbrev Zl1 (w w':World) (e:Ending) (p:Nat) (hn:ByteArray) (hd:Option (ByteArray×Nat)) (hm:Option ByteArray) (at_:List Pt) (gs:List Gt) (fs:List (ByteArray×Nat)) (vs:List T) (F:List Nat):Prop:= ∃ q m sv Fa gv Fg hv Gh ov Go F',e= .returned (.pointer (some ⟨q,0,none⟩))/\Blk w' q ((((Zih p m hn hv).setIfInBounds 3 sv).setIfInBounds 4 gv).setIfInBounds 5 ov) 345/\w'.heap[m]?=some (.map #[] 0)/\Zag 324 2 Zrm w' sv at_ Fa/\Zag 371 5 Zzl w' gv gs Fg/\HdO w' hv hd Gh/\HmO w' ov hm Go/\Zd3 w' p fs vs F'/\Off F w w'/\(∀ i,i∈F'->i∈F\/w.heap.size<=i)/\(∀ i,i∈q::m::(Fa++(Fg++(Gh++Go)))->w.heap.size<=i/\i < w'.heap.size/\i∉F')/\(∀ i,i∈Fa++(Fg++(Gh++Go))->i≠q/\i≠m)/\q≠m
theorem Zrp {w:World}{p:Nat}{fs:List (ByteArray×Nat)}{vs1:List T}{F:List Nat}{B D:Nat}{bd:List A}{gu:List G}{hn:ByteArray}{pt pb pg:Option Addr}{nt ct cb cg:Nat}(hb:Zan 2 (Zbb B w (D+2)) pb bd)(hB:B<=w.heap.size)(hFB: ∀ i,i∈F->B<=i)(hFl: ∀ i,i∈F->i < w.heap.size)(h1: ∀ a,a∈bd-> ∃ t,a.terms=[t]/\Zau 0 t=0)(hl4:bd.length<=4)(hlv: ∀ k,((bd.take k).foldl Zfh (vs1,[])).1.length < 900)(hg:Zan 9 (Zct B w (D+2)) pg gu)(h2: ∀ g,g∈gu->Zau 0 g.a=0/\Zau 0 g.b=0/\ ∃ n:Nat,g.op=(n:Int))(hg4:gu.length<=4)(hlg: ∀ k,((gu.take k).foldl Zhd ((bd.foldl Zfh (vs1,[])).1,[])).1.length < 900)
  {hd:Option (ByteArray×Nat)} {hm:Option ByteArray} (CP: ∀ u,Below w.heap.size w u->Calls prog 215 #[.pointer (some ⟨p,0,none⟩),.agg #[.string hn,.slice pt nt ct]] u fun e w'=> ∃ pa n c Gh,e= .returned (.agg #[.string hn,.slice pa n c])/\HdO w' (.slice pa n c) hd Gh/\(∀ i,i∈Gh->u.heap.size<=i/\i < w'.heap.size)/\ ∃ F',Zd3 w' p fs vs1 F'/\Off F u w'/\(∀ i,i∈F'->i∈F\/u.heap.size<=i)/\ ∀ i,i∈Gh->i∉F')
  (CM: ∀ u hv Gh sv Fa,HdO u hv hd Gh->Zag 324 2 Zrm u sv (bd.foldl Zfh (vs1,[])).2 Fa->Calls prog 244 #[.agg #[.string hn,hv],sv] u fun e w'=> ∃ po no co Go,e= .returned (.slice po no co)/\HmO w' (.slice po no co) hm Go/\(∀ i,i∈Go->u.heap.size<=i/\i < w'.heap.size)/\Below u.heap.size u w'):
  Calls prog 217 #[.pointer (some ⟨p,0,none⟩),.agg #[.string hn,.slice pt nt ct,.slice pb bd.length cb,.slice pg gu.length cg]] w fun e w'=>Zl1 w w' e p hn hd hm (bd.foldl Zfh (vs1,[])).2 (gu.foldl Zhd ((bd.foldl Zfh (vs1,[])).1,[])).2 fs (gu.foldl Zhd ((bd.foldl Zfh (vs1,[])).1,[])).1 F:=by
 have hmk: ∀ w,(Instr.makeMap 314 none).run prog w= .ok (.map (some w.heap.size)) (w.alloc (.map #[] 0)):=Ziv;have hbe:=Z5y;obtain⟨nb,hnb⟩: ∃ nb,Box (bd.length=nb):=⟨_,⟨rfl⟩⟩;obtain⟨ng,hng⟩: ∃ ng,Box (gu.length=ng):=⟨_,⟨rfl⟩⟩;rw[hnb.out]at hl4;rw[hng.out]at hg4;rw[hnb.out,hng.out];have HBD:=Zaa hb;have HLV:=Zaa hlv;have H1:=Zaa h1;have HCP:=Zaa CP;have HCM:=Zaa CM;have HGD:=Zaa hg;have H2:=Zaa h2;have HLG:=Zaa hlg;clear hb hlv h1 CP CM hg h2 hlg;refine Yfn func217 rfl ?_;simp only[ntmps217,Ydn,Ydp,Ydt,Nat.reduceAdd,Nat.reduceSub,Ydx,Ydw,Yd2,Ydz,Ydy,Ydv];go_wp2_with fail
 refine(HCP.out _ ((Ydb _ w).alloc lr _)).mono ?_;rintro e w2 ⟨pa,n,c,Gh,rfl,hHh,hGh,F1,hw2,ho2,hs2,hG1⟩;have HGh:Box (∀ i,i∈Gh->w.heap.size+1<=i/\i < w2.heap.size/\i∉F1):=⟨fun i hi=>⟨by have:=(hGh i hi).1;simpa using this,(hGh i hi).2,hG1 i hi⟩⟩;clear hGh hG1;have lF:w.heap.size∉F:=fun h=>by have:=hFl _ h;omega
 have R2:=(Blk.new w #[.string hn,.slice pt nt ct,.slice pb nb cb,.slice pg ng cg] 115).of (ho2.block w.heap.size (by simp) lF);have l2:w.heap.size < w2.heap.size:=R2.lt;obtain⟨W0,hW0⟩: ∃ W0,Box ((w2.alloc (.map #[] 0)).alloc (.cells (Zih p w2.heap.size hn (.slice pa n c)) 345)=W0):=⟨_,⟨rfl⟩⟩;have B0:Below w2.heap.size w2 W0:=hW0.out▸((Ydb _ w2).alloc lr _).alloc (by simp) _;have S0:W0.heap.size=w2.heap.size+2:=by rw[<- hW0.out];simp
 have L1:Blk W0 (w2.heap.size+1) (Zih p w2.heap.size hn (.slice pa n c)) 345:=hW0.out▸Zpo w2 _ _ _;have R0:=Zaa (R2.of (B0.block _ l2));obtain⟨r0,r1,r2,r3,rs⟩:=R0.out.four;have r2':=r2;rw[<- hW0.out]at r2';have hO0:Off F w W0:=(((Off.of ((Ydb _ w).alloc lr _)).trans ho2 fun _ h=> .inl h)).trans (Off.of (F:=[]) B0) fun _ h=>(by cases h);have hs1: ∀ i,i∈F1->i∈F\/(w.heap.size+1<=i/\i < w2.heap.size):=fun i hi=>(hs2 i hi).imp id fun h=>⟨by simpa using h,hw2.lt i hi⟩;have CVs:(Zih p w2.heap.size hn (.slice pa n c)).size=972:=Zg0 _ _ _ _;have CV3:(Zih p w2.heap.size hn (.slice pa n c))[3]?=some (.slice none 0 0):=Zdx _ _ _ _ 3 (by omega);have A0:Z8g W0 (w2.heap.size+1) p (Zih p w2.heap.size hn (.slice pa n c)) fs F1 (vs1,[]) W0:=by
  refine⟨.slice none 0 0,[],F1,hw2.of B0.size fun j hj=>B0.block j (hw2.lt j hj),?_,Zag.nil,Za7.nil _ _,fun _ h=> .inl h,fun _ h=>(by cases h),Off.refl _ _⟩;rw[Zsr CV3];exact L1
 have HA0:=Zaa A0;have HH:=Zaa (Yda hHh (Yda hw2 (Yda hO0 (Yda hs1 B0))));have L1':=Zaa L1;have M0:Box (W0.heap[w2.heap.size]?=some (.map #[] 0)):=⟨hW0.out▸(Ydf _ _ _ (by simp)).trans (World.alloc_heap_new w2 _)⟩;clear hHh hw2 ho2 hs2 A0 L1 CV3 B0 hO0 hs1 R2;generalize hCV:Zih p w2.heap.size hn (.slice pa n c)=CV at*;have hbe2:=hCV;rw[<- hbe]at hbe2;clear hbe;go_wp2_with fail
 clear hbe2;rw[hW0.out];have lq:w2.heap.size+1 < W0.heap.size:=by omega
 have hBq:B<=w2.heap.size:=by omega
 have qF1: ∀ i,i∈F1->i < w2.heap.size/\B<=i:=fun i hi=>(HH.out.2.2.2.1 i hi).elim (fun h=>⟨by have:=hFl i h;omega,hFB i h⟩) fun h=>⟨h.2,by omega⟩;have BC:Box (∀ wr,Off ((w2.heap.size+1)::F1) W0 wr->Below B w wr):=⟨fun wr ho=>(HH.out.2.2.1.below hFB hB).trans (ho.below (fun i hi=>by
  simp only[Ydj]at hi;rcases hi with rfl | hi
  ·omega
  ·exact(qF1 i hi).2) (by omega))⟩
 clear r2' hmk;go_loopw [22] (fun iv wr=> ∃ k,k<=nb/\iv= .int .i64 ((k:Nat):Int)/\Z8g W0 (w2.heap.size+1) p CV fs F1 ((bd.take k).foldl Zfh (vs1,[])) wr) (fun iv _=>nb - Zyz iv)
 case atStart=>exact⟨0,Yej _,rfl,HA0.out⟩
 case round=>
  obtain⟨k,hk,rfl,sv,Fa,F',hwd,hblk,hrow,hnew,hsub,hdis,hoff⟩:=hrel;have hlv:=HLV.out k;obtain⟨st,hst⟩: ∃ st,Box ((bd.take k).foldl Zfh (vs1,[])=st):=⟨_,⟨rfl⟩⟩;have hk2:st.2.length<=4:=by rw[<- hst.out,Zt4];simp;omega
  rw[hst.out]at hlv hwd hrow;have hBr:=BC.out wr hoff;have lwr:W0.heap.size<=wr.heap.size:=hoff.size;obtain⟨ps,cps,rfl⟩:=hrow.form;have qF':w2.heap.size+1∉F':=fun h=>by
   rcases hsub _ h with h | h
   ·have:=(qF1 _ h).1;omega
   ·omega
  have qFa:w2.heap.size+1∉Fa:=fun h=>by have:=hnew.ge _ h;omega
  have cq3: ∀ u,Blk u (w2.heap.size+1) (CV.setIfInBounds 3 (.slice ps st.2.length cps)) 345->u.cell? ⟨w2.heap.size+1,3,none⟩=some (.slice ps st.2.length cps):=fun u hu=>by rw[hu.cell,Ydd,if_pos rfl,if_pos (by omega)]
  have HR:=Zaa (Yda hwd (Yda hblk (Yda hrow (Yda hnew (Yda hsub (Yda hdis hoff))))));by_cases hlt:k < nb
  ·obtain⟨a,hak⟩: ∃ a,bd[k]?=some a:=⟨_,Ydi (by have:=hnb.out;omega)⟩;obtain⟨t,hat,hok⟩:=H1.out a (Yeq hak);obtain⟨bb,oo,rfl,hA⟩:=HBD.out.at_ k a hak;obtain⟨hbb,pc,cc,z0,z1,hAS⟩:=(Zbb.carry (Go.W.Below.carry hBr lr) lr hA).vals;obtain⟨pc',cc',e1,_,_,hrt⟩:=hAS;injection e1 with _ e1;injection e1 with e1 _;injection e1 with e1 _ e3;subst e1;subst e3;rw[hat]at z1 hrt;obtain⟨tb,ot,rfl,hT⟩:=hrt.at_ 0 t rfl;simp only[Ydp,Ydt,Yd7,Yex,Yey]at z1 hT;have g:(k:Int) < (nb:Int):=by omega
   have hBw:B<=wr.heap.size:=Ydc hB hBr.size;have CS:=Zaa (fun u (hu:Below wr.heap.size wr u)=>Zj5 (c:=cc) (hwd.of hu.size fun j hj=>hu.block j (hwd.lt j hj)) (Zbl.carry (Za4 hu hBw) lr hT) (Ydc hBw hu.size) hok (by omega) a.name);have z3:=fun ob=>cq3 _ (hblk.alloc ob);have lqr:w2.heap.size+1 < wr.heap.size:=by omega
   have AK:=Zaa (Yda hak hat);clear hwd hblk hrow hnew hsub hdis hoff hA hrt hT hak hat
   go_wp2_with fail
   have lFa: ∀ j,j∈Fa->j < wr.heap.size:=fun j hj=>HR.out.2.2.2.1.lt j hj;have lF': ∀ j,j∈F'->j < wr.heap.size:=fun j hj=>HR.out.1.lt j hj;have hbox:=Blk.new wr #[.string a.name,.slice (some ⟨tb,ot,none⟩) 1 cc] 112;obtain⟨WB,hWB⟩: ∃ WB,Box (wr.alloc (.cells #[.string a.name,.slice (some ⟨tb,ot,none⟩) 1 cc] 112)=WB):=⟨_,⟨rfl⟩⟩;rw[hWB.out]at hbox⊢;have szB:WB.heap.size=wr.heap.size+1:=by rw[<- hWB.out];simp
   have BB:Below wr.heap.size wr WB:=hWB.out▸(Ydb _ wr).alloc lr _;have qB:=HR.out.2.1.of (BB.block _ lqr);have hS0:=Yda (cq3 _ (qB.of (w':=WB.drew) rfl)) (Yda (hbox.of (w':=WB.drew) rfl).two.1 (hbox.of (w':=WB.drew) rfl).two.2.1);clear z3;refine Zat 12 (fun u=>u.cell? ⟨w2.heap.size+1,3,none⟩=some (.slice ps st.2.length cps)/\u.cell? ⟨wr.heap.size,0,none⟩=some (.string a.name)/\u.cell? ⟨wr.heap.size,1,none⟩=some (.slice (some ⟨tb,ot,none⟩) 1 cc)) (by kernel_rfl) ?_;refine tz 0 (.pointer (some ⟨w2.heap.size+1,0,none⟩)) hS0 ?_;try simp only[zz]
   refine tz 1 (.pointer (some ⟨w2.heap.size+1,0,none⟩)) hS0 ?_;try simp only[zz]
   refine tz 2 (.pointer (some ⟨w2.heap.size+1,0,none⟩)) hS0 ?_;try simp only[zz]
   refine tz 3 (.pointer (some ⟨w2.heap.size+1,3,none⟩)) hS0 ?_;try simp only[zz]
   refine tz 4 (.slice ps st.2.length cps) hS0 (hy:=fun _ ⟨s0,s1,s2⟩=>by go_simp) ?_;try simp only[zz]
   refine tz 5 (.pointer (some ⟨p,0,none⟩)) hS0 ?_;try simp only[zz]
   refine tz 6 (.agg #[.string a.name,.slice (some ⟨tb,ot,none⟩) 1 cc]) hS0 (hy:=fun _ ⟨s0,s1,s2⟩=>by go_simp) ?_;try simp only[zz]
   refine rz 7 (h:=fun K' hK'=>?_);go_simp;refine(CS.out _ BB.drew).mono ?_;rintro e w5 ⟨g5,c5,rfl,hg5,hsl5,F5,hd5,ho5,hs5,hgF5⟩;have hw5:wr.heap.size+1<=w5.heap.size:=by have:WB.heap.size<=w5.heap.size:=ho5.size;omega
   have hg5':wr.heap.size+1<=g5:=by have:WB.heap.size<=g5:=hg5;omega
   have K5:=(qB.of (w':=WB.drew) rfl).of (ho5.block _ (by show _ < WB.heap.size;omega) qF');have X5:=(hbox.of (w':=WB.drew) rfl).of (ho5.block _ (by show _ < WB.heap.size;omega) fun h=>by have:=lF' _ h;omega);refine hK'.out _ _ ⟨cq3 _ K5,X5.two.1,X5.two.2.1⟩ ?_;try simp only[zz]
   refine rz 8 (h:=fun K' hK'=>?_);go_simp;obtain⟨W6,hW6⟩: ∃ W6,Box (w5.alloc (.cells #[.string a.name,.slice (some ⟨g5,0,none⟩) 1 c5] 324)=W6):=⟨_,⟨rfl⟩⟩;rw[hW6.out];have sz6:W6.heap.size=w5.heap.size+1:=by rw[<- hW6.out];simp
   have B6:Below w5.heap.size w5 W6:=hW6.out▸(Ydb _ w5).alloc lr _;have N6:W6.heap[w5.heap.size]?=some (.cells #[.string a.name,.slice (some ⟨g5,0,none⟩) 1 c5] 324):=hW6.out▸Zaw _ _;have K6:=K5.of (B6.block _ K5.lt);have X6:=X5.of (B6.block _ X5.lt);refine hK'.out _ _ ⟨cq3 _ K6,X6.two.1,X6.two.2.1⟩ ?_;try simp only[zz]
   have sl6:=hsl5.of B6.size (B6.block _ hsl5.1);have R6:Zag 324 2 Zrm W6 (.slice ps st.2.length cps) st.2 Fa:=Zag.stable Zrm.stable _ _ _ _ _ HR.out.2.2.1 fun j hj=>((B6.block j (by have:=lFa j hj;omega)).trans (ho5.block j (by have:=lFa j hj;show _ < WB.heap.size;omega) (HR.out.2.2.2.2.2.1 j hj))).trans (BB.block j (lFa j hj));refine rz 9 (h:=fun K' hK'=>?_);refine Zdz Z85 rfl (.tmp 30) (.tmp 34) rfl Zrm.stable Zrm.one W0.heap.size (.slice ps st.2.length cps) st.2 Fa rfl R6 w5.heap.size #[.string a.name,.slice (some ⟨g5,0,none⟩) 1 c5] 324 (0,0) (a.name,Zby st.1 t) [g5] rfl N6 rfl ⟨g5,c5,rfl,rfl,sl6⟩ (by omega) (by omega) (HR.out.2.2.2.1.later lr (by omega)) ⟨by simp,fun i hi=>by simp at hi;omega,fun i hi=>by simp at hi;have:=hsl5.1;omega⟩ (fun i hi h=>by simp at h;have:=lFa i hi;omega) ?_;intro g6 cap6 w6 F6 happ;have h6w:=happ.size;have K7:=K6.of (happ.same _ K6.lt qFa);have X7:=X6.of (happ.same _ X6.lt fun h=>by have:=lFa _ h;omega);have hS7:=Yda (cq3 _ K7) (Yda X7.two.1 X7.two.2.1);have ks7:=K7.soft;refine hK'.out _ _ hS7 ?_;try simp only[zz]
   refine rz 10 (h:=fun K' hK'=>?_);go_simp;refine hK'.out _ _ hS7 ?_;try simp only[zz]
   refine rz 11 (h:=fun K' hK'=>?_);go_simp;refine hK'.out _ _ hS7 ?_;try simp only[zz]
   have c37:=hS7.1;refine rzl (h:=fun K' hK'=>?_);go_simp;refine hK'.out _ _ ?_;try simp only[zz]
   refine dz (h:=?_);have hs5': ∀ i,i∈F5->i∈F'\/wr.heap.size+1<=i:=fun i hi=>(hs5 i hi).imp id fun h=>by have:WB.heap.size<=i:=h;omega
   have nq5: ∀ i,i∈F5->i≠w2.heap.size+1:=fun i hi e=>by
    subst e;rcases hs5' _ hi with h | h
    ·exact qF' h
    ·omega
   have na5: ∀ i,i∈F5->i∉Fa:=fun i hi h=>by
    rcases hs5' i hi with h' | h'
    ·exact HR.out.2.2.2.2.2.1 i h h'
    ·have:=lFa i h;omega
   have nq6: ∀ i,i∈F6->i≠w2.heap.size+1:=fun i hi e=>by
    subst e;rcases happ.sub _ hi with h | h | h
    ·exact qFa h
    ·simp at h;omega
    ·omega
   have l5: ∀ i,i∈F5->i < w5.heap.size:=fun i hi=>hd5.lt i hi;have EQ:(bd.take (k+1)).foldl Zfh (vs1,[])=(Zcv st.1 t,st.2++[(a.name,Zby st.1 t)]):=by
    rw[Yes,AK.out.1,List.foldl_append,hst.out];simp[Zfh,AK.out.2]
   have A1:Z8g W0 (w2.heap.size+1) p CV fs F1 ((bd.take (k+1)).foldl Zfh (vs1,[])) (w6.setCell ⟨w2.heap.size+1,3,none⟩ (.slice (some ⟨g6,0,none⟩) (st.2.length+1) cap6)):=by
    rw[EQ];have KS:=K7.set 3 (.slice (some ⟨g6,0,none⟩) (st.2.length+1) cap6);rw[Yew]at KS;refine⟨.slice (some ⟨g6,0,none⟩) (st.2.length+1) cap6,F6,F5,hd5.of (by simp[World.setCell];omega) fun j hj=>(Ydg _ _ _ _ (nq5 j hj)).trans ((happ.same j (by have:=l5 j hj;omega) (na5 j hj)).trans (B6.block j (l5 j hj))),KS,Zag.stable Zrm.stable _ _ _ _ _ happ.row fun j hj=>Ydg _ _ _ _ (nq6 j hj),happ.new.later lr (by simp[World.setCell]),fun i hi=>?_,fun i hi h=>?_,?_⟩
    ·rcases hs5' i hi with h | h
     ·exact HR.out.2.2.2.2.1 i h
     ·exact .inr (by omega)
    ·rcases happ.sub i hi with h' | h' | h'
     ·exact na5 i h h'
     ·simp at h';subst h';exact hgF5 h
     ·have:=l5 i h;omega
    ·refine Off.set ((((HR.out.2.2.2.2.2.2.trans (Off.of (F:=[]) BB) fun _ h=>(by cases h)).drew).trans ho5 fun i hi=>?_).trans (G:=Fa) ?_ fun i hi=> .inr (HR.out.2.2.2.1.ge i hi)) _ _ _ (.inl (by simp))
     ·rcases HR.out.2.2.2.2.1 i hi with h | h
      ·exact .inl (by simp[h])
      ·exact .inr h
     ·exact(Off.of B6).trans ⟨happ.os,happ.tape,happ.output,happ.size,happ.same⟩ fun _ h=> .inl h
   have HA1:=Zaa A1;clear A1 EQ hs5' nq5 na5 nq6 l5 happ hd5 ho5 hs5 hS7 K7 X7 c37 R6 K6 X6 K5 X5;go_wp2
   exact⟨⟨k+1,by omega,by simp,HA1.out⟩,by simp[Zyz];omega⟩
  ·have g: ¬ (k:Int) < (nb:Int):=by omega
   obtain rfl:k=nb:=by omega
   rw[<- hst.out]at HR;have e3:=(BC.out wr hoff);clear cq3;have rc:=R0.out.of (hoff.block w.heap.size (by omega) (fun h=>by
    simp only[Ydj]at h;rcases h with h | h
    ·omega
    ·rcases HH.out.2.2.2.1 _ h with h | h
     ·exact lF h
     ·omega))
   obtain⟨x0,x1,x2,x3,xs⟩:=rc.four;have e4:(CV.setIfInBounds 3 (.slice ps st.2.length cps))[4]?=some (.slice none 0 0):=by rw[Ydd,if_neg (by omega),<- hCV];exact Zdx _ _ _ _ 4 (by omega)
   have HRa:=Zaa (Yda hwd (Yda hblk (Yda hrow (Yda hnew (Yda hsub (Yda hdis hoff))))));have est:bd.foldl Zfh (vs1,[])=st:=by rw[<- hst.out,Yd9 (by have:=hnb.out;omega)]
   rw[est]at HLG HCM;have HE:=Zaa est;clear est;obtain⟨CW,hCW⟩: ∃ CW,Box (CV.setIfInBounds 3 (.slice ps st.2.length cps)=CW):=⟨_,⟨rfl⟩⟩;have CWs:CW.size=972:=by rw[<- hCW.out];simpa using CVs
   rw[hCW.out]at hblk e4;have HG0:Box (Z8k wr (w2.heap.size+1) p CW fs F' (st.1,[]) wr):=⟨.slice none 0 0,[],F',hwd,by rw[Zsr e4];exact hblk,Zag.nil,Za7.nil _ _,fun _ h=> .inl h,fun _ h=>(by cases h),Off.refl _ _⟩;have lqr:w2.heap.size+1 < wr.heap.size:=by omega
   have lF': ∀ j,j∈F'->j < wr.heap.size/\B<=j:=fun j hj=>⟨hwd.lt j hj,(hsub j hj).elim (fun h=>(qF1 j h).2) (by omega)⟩;clear hwd hblk hrow hnew hsub hdis hoff;go_wp2_with fail
   obtain⟨W1,rfl⟩: ∃ W1,W1=wr:=⟨_,rfl⟩;have BC1:Box (∀ wr,Off ((w2.heap.size+1)::F') W1 wr->Below B w wr):=⟨fun wr ho=>hBr.trans (ho.below (fun i hi=>by
    simp only[Ydj]at hi;rcases hi with rfl | hi
    ·omega
    ·exact(lF' i hi).2) (by omega))⟩
   go_loopw [42] (fun iv wr=> ∃ k,k<=ng/\iv= .int .i64 ((k:Nat):Int)/\Z8k W1 (w2.heap.size+1) p CW fs F' ((gu.take k).foldl Zhd (st.1,[])) wr) (fun iv _=>ng - Zyz iv)
   case atStart=>exact⟨0,Yej _,rfl,HG0.out⟩
   case round=>
   clear x0 x1 x2 x3 xs rc e3;obtain⟨i,hi,rfl,gsv,Fg,F2,hwd,hblk,hrow,hnew,hsub,hdis,hoff⟩:=hrel;have hlv2:=HLG.out i;obtain⟨sg,hsg⟩: ∃ sg,Box ((gu.take i).foldl Zhd (st.1,[])=sg):=⟨_,⟨rfl⟩⟩;have hk3:sg.2.length<=4:=by rw[<- hsg.out,Zt3];simp;omega
   rw[hsg.out]at hlv2 hwd hrow;have hBr2:=BC1.out wr hoff;have lwr2:W1.heap.size<=wr.heap.size:=hoff.size;obtain⟨pg',cpg,rfl⟩:=hrow.form;have qF2:w2.heap.size+1∉F2:=fun h=>by
    rcases hsub _ h with h | h
    ·exact qF' h
    ·omega
   have qFg:w2.heap.size+1∉Fg:=fun h=>by have:=hnew.ge _ h;omega
   have cq4: ∀ u,Blk u (w2.heap.size+1) (CW.setIfInBounds 4 (.slice pg' sg.2.length cpg)) 345->u.cell? ⟨w2.heap.size+1,4,none⟩=some (.slice pg' sg.2.length cpg):=fun u hu=>by rw[hu.cell,Ydd,if_pos rfl,if_pos (by omega)]
   have HR2:=Zaa (Yda hwd (Yda hblk (Yda hrow (Yda hnew (Yda hsub (Yda hdis hoff))))));by_cases hlt:i < ng
   ·obtain⟨x,hxk⟩: ∃ x,gu[i]?=some x:=⟨_,Ydi (by have:=hng.out;omega)⟩;obtain⟨hoa,hob,xo,hxo⟩:=H2.out x (Yeq hxk);obtain⟨bb,oo,rfl,hG⟩:=HGD.out.at_ i x hxk;obtain⟨hbb,p1,c1,p2,c2,v0,v1,v2,v3,v4,v5,v6,v7,v8,hGS⟩:=(Zct.carry (Go.W.Below.carry hBr2 lr) lr hG).vals;have g:(i:Int) < (ng:Int):=by omega
    have hBw:B<=wr.heap.size:=Ydc hB hBr2.size;have lF2: ∀ j,j∈F2->j < wr.heap.size/\B<=j:=fun j hj=>⟨hwd.lt j hj,(hsub j hj).elim (fun h=>(lF' j h).2) (by omega)⟩;have CS:=Zaa (fun u (hu:Below wr.heap.size wr u)=>Zpr (hwd.of hu.size fun j hj=>hu.block j (hwd.lt j hj)) (Zgb.carry hGS (Za4 hu hBw)) (Ydc hBw hu.size) (fun j hj=>(lF2 j hj).2) hoa hob (by omega));have lqr:w2.heap.size+1 < wr.heap.size:=by omega
    have lFg: ∀ j,j∈Fg->j < wr.heap.size:=fun j hj=>hnew.lt j hj;have AK:=Zaa hxk;have HXO:=Zaa hxo;clear hwd hblk hrow hnew hsub hdis hoff hG hGS hxk hxo;go_wp2_with fail
    have hbox:=Blk.new wr #[.int .i64 x.op,.int .i64 x.a.k,.int .i64 x.a.i,.string x.a.t,.slice p1 x.a.l.length c1,.int .i64 x.b.k,.int .i64 x.b.i,.string x.b.t,.slice p2 x.b.l.length c2] 119;obtain⟨WB,hWB⟩: ∃ WB,Box (wr.alloc (.cells #[.int .i64 x.op,.int .i64 x.a.k,.int .i64 x.a.i,.string x.a.t,.slice p1 x.a.l.length c1,.int .i64 x.b.k,.int .i64 x.b.i,.string x.b.t,.slice p2 x.b.l.length c2] 119)=WB):=⟨_,⟨rfl⟩⟩;rw[hWB.out]at hbox⊢;have szB:WB.heap.size=wr.heap.size+1:=by rw[<- hWB.out];simp
    have BB:Below wr.heap.size wr WB:=hWB.out▸(Ydb _ wr).alloc lr _;have qB:=HR2.out.2.1.of (BB.block _ lqr);have HSX:Box (∀ u,Blk u (w2.heap.size+1) (CW.setIfInBounds 4 (.slice pg' sg.2.length cpg)) 345->Blk u wr.heap.size #[.int .i64 x.op,.int .i64 x.a.k,.int .i64 x.a.i,.string x.a.t,.slice p1 x.a.l.length c1,.int .i64 x.b.k,.int .i64 x.b.i,.string x.b.t,.slice p2 x.b.l.length c2] 119->u.cell? ⟨w2.heap.size+1,4,none⟩=some (.slice pg' sg.2.length cpg)/\u.cell? ⟨wr.heap.size,0,none⟩=some (.int .i64 x.op)/\u.cell? ⟨wr.heap.size,1,none⟩=some (.int .i64 x.a.k)/\u.cell? ⟨wr.heap.size,2,none⟩=some (.int .i64 x.a.i)/\u.cell? ⟨wr.heap.size,3,none⟩=some (.string x.a.t)/\u.cell? ⟨wr.heap.size,4,none⟩=some (.slice p1 x.a.l.length c1)/\u.cell? ⟨wr.heap.size,5,none⟩=some (.int .i64 x.b.k)/\u.cell? ⟨wr.heap.size,6,none⟩=some (.int .i64 x.b.i)/\u.cell? ⟨wr.heap.size,7,none⟩=some (.string x.b.t)/\u.cell? ⟨wr.heap.size,8,none⟩=some (.slice p2 x.b.l.length c2)):=⟨fun u h1 h2=>⟨cq4 u h1,(h2.cell 0).trans rfl,(h2.cell 1).trans rfl,(h2.cell 2).trans rfl,(h2.cell 3).trans rfl,(h2.cell 4).trans rfl,(h2.cell 5).trans rfl,(h2.cell 6).trans rfl,(h2.cell 7).trans rfl,(h2.cell 8).trans rfl⟩⟩;have hS0:=HSX.out WB.drew (qB.of (w':=WB.drew) rfl) (hbox.of (w':=WB.drew) rfl);clear v0 v1 v2 v3 v4 v5 v6 v7 v8;refine Zat 12 (fun u=>u.cell? ⟨w2.heap.size+1,4,none⟩=some (.slice pg' sg.2.length cpg)/\u.cell? ⟨wr.heap.size,0,none⟩=some (.int .i64 x.op)/\u.cell? ⟨wr.heap.size,1,none⟩=some (.int .i64 x.a.k)/\u.cell? ⟨wr.heap.size,2,none⟩=some (.int .i64 x.a.i)/\u.cell? ⟨wr.heap.size,3,none⟩=some (.string x.a.t)/\u.cell? ⟨wr.heap.size,4,none⟩=some (.slice p1 x.a.l.length c1)/\u.cell? ⟨wr.heap.size,5,none⟩=some (.int .i64 x.b.k)/\u.cell? ⟨wr.heap.size,6,none⟩=some (.int .i64 x.b.i)/\u.cell? ⟨wr.heap.size,7,none⟩=some (.string x.b.t)/\u.cell? ⟨wr.heap.size,8,none⟩=some (.slice p2 x.b.l.length c2)) (by kernel_rfl) ?_;refine tz 0 (.pointer (some ⟨w2.heap.size+1,0,none⟩)) hS0 ?_;try simp only[zz]
    refine tz 1 (.pointer (some ⟨w2.heap.size+1,0,none⟩)) hS0 ?_;try simp only[zz]
    refine tz 2 (.pointer (some ⟨w2.heap.size+1,0,none⟩)) hS0 ?_;try simp only[zz]
    refine tz 3 (.pointer (some ⟨w2.heap.size+1,4,none⟩)) hS0 ?_;try simp only[zz]
    refine tz 4 (.slice pg' sg.2.length cpg) hS0 (hy:=fun _ ⟨s0,s1,s2,s3,s4,s5,s6,s7,s8,s9⟩=>by go_simp) ?_;try simp only[zz]
    refine tz 5 (.pointer (some ⟨p,0,none⟩)) hS0 ?_;try simp only[zz]
    refine tz 6 (.agg #[.int .i64 x.op,.int .i64 x.a.k,.int .i64 x.a.i,.string x.a.t,.slice p1 x.a.l.length c1,.int .i64 x.b.k,.int .i64 x.b.i,.string x.b.t,.slice p2 x.b.l.length c2]) hS0 (hy:=fun _ ⟨s0,s1,s2,s3,s4,s5,s6,s7,s8,s9⟩=>by go_simp) ?_;try simp only[zz]
    refine rz 7 (h:=fun K' hK'=>?_);go_simp;refine(CS.out _ BB.drew).mono ?_;rintro e w5 ⟨rfl,F5,hd5,ho5,hs5⟩;have hw5:wr.heap.size+1<=w5.heap.size:=by have:WB.heap.size<=w5.heap.size:=ho5.size;omega
    have K5:=(qB.of (w':=WB.drew) rfl).of (ho5.block _ (by show _ < WB.heap.size;omega) qF2);have X5:=(hbox.of (w':=WB.drew) rfl).of (ho5.block _ (by show _ < WB.heap.size;omega) fun h=>by have:=(lF2 _ h).1;omega);refine hK'.out _ _ (HSX.out _ K5 X5) ?_;try simp only[zz]
    refine rz 8 (h:=fun K' hK'=>?_);go_simp;obtain⟨W6,hW6⟩: ∃ W6,Box (w5.alloc (.cells #[.int .i64 x.op,.string (Zby sg.1 x.a).1,.int .i64 ((Zby sg.1 x.a).2:Int),.string (Zby (Zcv sg.1 x.a) x.b).1,.int .i64 ((Zby (Zcv sg.1 x.a) x.b).2:Int)] 371)=W6):=⟨_,⟨rfl⟩⟩;rw[hW6.out];have sz6:W6.heap.size=w5.heap.size+1:=by rw[<- hW6.out];simp
    have B6:Below w5.heap.size w5 W6:=hW6.out▸(Ydb _ w5).alloc lr _;have N6:W6.heap[w5.heap.size]?=some (.cells #[.int .i64 x.op,.string (Zby sg.1 x.a).1,.int .i64 ((Zby sg.1 x.a).2:Int),.string (Zby (Zcv sg.1 x.a) x.b).1,.int .i64 ((Zby (Zcv sg.1 x.a) x.b).2:Int)] 371):=hW6.out▸Zaw _ _;have K6:=K5.of (B6.block _ K5.lt);have X6:=X5.of (B6.block _ X5.lt);refine hK'.out _ _ (HSX.out _ K6 X6) ?_;try simp only[zz]
    have R6:Zag 371 5 Zzl W6 (.slice pg' sg.2.length cpg) sg.2 Fg:=Zag.stable Zzl.stable _ _ _ _ _ HR2.out.2.2.1 fun j hj=>((B6.block j (by have:=lFg j hj;omega)).trans (ho5.block j (by have:=lFg j hj;show _ < WB.heap.size;omega) (HR2.out.2.2.2.2.2.1 j hj))).trans (BB.block j (lFg j hj));refine rz 9 (h:=fun K' hK'=>?_);refine Zdz Z83 rfl (.tmp 50) (.tmp 54) rfl Zzl.stable Zzl.one W1.heap.size (.slice pg' sg.2.length cpg) sg.2 Fg rfl R6 w5.heap.size #[.int .i64 x.op,.string (Zby sg.1 x.a).1,.int .i64 ((Zby sg.1 x.a).2:Int),.string (Zby (Zcv sg.1 x.a) x.b).1,.int .i64 ((Zby (Zcv sg.1 x.a) x.b).2:Int)] 371 (0,0) (x.op.toNat,Zby sg.1 x.a,Zby (Zcv sg.1 x.a) x.b) [] rfl N6 rfl ⟨rfl,by rw[HXO.out];simp⟩ (by omega) (by omega) (HR2.out.2.2.2.1.later lr (by omega)) (Za7.nil _ _) (fun _ _ h=>(by cases h)) ?_;intro g6 cap6 w6 F6 happ;have h6w:=happ.size;have K7:=K6.of (happ.same _ K6.lt qFg);have X7:=X6.of (happ.same _ X6.lt fun h=>by have:=lFg _ h;omega);have hS7:=HSX.out _ K7 X7;have ks7:=K7.soft;refine hK'.out _ _ hS7 ?_;try simp only[zz]
    refine rz 10 (h:=fun K' hK'=>?_);go_simp;refine hK'.out _ _ hS7 ?_;try simp only[zz]
    refine rz 11 (h:=fun K' hK'=>?_);go_simp;refine hK'.out _ _ hS7 ?_;try simp only[zz]
    have c37:=hS7.1;refine rzl (h:=fun K' hK'=>?_);go_simp;refine hK'.out _ _ ?_;try simp only[zz]
    refine dz (h:=?_);have hs5': ∀ i,i∈F5->i∈F2\/wr.heap.size+1<=i:=fun i hi=>(hs5 i hi).imp id fun h=>by have:WB.heap.size<=i:=h;omega
    have nq5: ∀ i,i∈F5->i≠w2.heap.size+1:=fun i hi e=>by
     subst e;rcases hs5' _ hi with h | h
     ·exact qF2 h
     ·omega
    have na5: ∀ i,i∈F5->i∉Fg:=fun i hi h=>by
     rcases hs5' i hi with h' | h'
     ·exact HR2.out.2.2.2.2.2.1 i h h'
     ·have:=lFg i h;omega
    have nq6: ∀ i,i∈F6->i≠w2.heap.size+1:=fun i hi e=>by
     subst e;rcases happ.sub _ hi with h | h | h
     ·exact qFg h
     ·cases h
     ·omega
    have l5: ∀ i,i∈F5->i < w5.heap.size:=fun i hi=>hd5.lt i hi;have EQ:(gu.take (i+1)).foldl Zhd (st.1,[])=(Zcv (Zcv sg.1 x.a) x.b,sg.2++[(x.op.toNat,Zby sg.1 x.a,Zby (Zcv sg.1 x.a) x.b)]):=by
     rw[Yes,AK.out,List.foldl_append,hsg.out];simp[Zhd]
    have A1:Z8k W1 (w2.heap.size+1) p CW fs F' ((gu.take (i+1)).foldl Zhd (st.1,[])) (w6.setCell ⟨w2.heap.size+1,4,none⟩ (.slice (some ⟨g6,0,none⟩) (sg.2.length+1) cap6)):=by
     rw[EQ];have KS:=K7.set 4 (.slice (some ⟨g6,0,none⟩) (sg.2.length+1) cap6);rw[Yew]at KS;refine⟨.slice (some ⟨g6,0,none⟩) (sg.2.length+1) cap6,F6,F5,hd5.of (by simp[World.setCell];omega) fun j hj=>(Ydg _ _ _ _ (nq5 j hj)).trans ((happ.same j (by have:=l5 j hj;omega) (na5 j hj)).trans (B6.block j (l5 j hj))),KS,Zag.stable Zzl.stable _ _ _ _ _ happ.row fun j hj=>Ydg _ _ _ _ (nq6 j hj),happ.new.later lr (by simp[World.setCell]),fun i hi=>?_,fun i hi h=>?_,?_⟩
     ·rcases hs5' i hi with h | h
      ·exact HR2.out.2.2.2.2.1 i h
      ·exact .inr (by omega)
     ·rcases happ.sub i hi with h' | h' | h'
      ·exact na5 i h h'
      ·cases h'
      ·have:=l5 i h;omega
     ·refine Off.set ((((HR2.out.2.2.2.2.2.2.trans (Off.of (F:=[]) BB) fun _ h=>(by cases h)).drew).trans ho5 fun i hi=>?_).trans (G:=Fg) ?_ fun i hi=> .inr (HR2.out.2.2.2.1.ge i hi)) _ _ _ (.inl (by simp))
      ·rcases HR2.out.2.2.2.2.1 i hi with h | h
       ·exact .inl (by simp[h])
       ·exact .inr h
      ·exact(Off.of B6).trans ⟨happ.os,happ.tape,happ.output,happ.size,happ.same⟩ fun _ h=> .inl h
    have HA1:=Zaa A1;clear A1 EQ hs5' nq5 na5 nq6 l5 happ hd5 ho5 hs5 hS7 K7 X7 c37 R6 K6 X6 K5 X5;go_wp2
    exact⟨⟨i+1,by omega,by simp,HA1.out⟩,by simp[Zyz];omega⟩
   ·have g: ¬ (i:Int) < (ng:Int):=by omega
    obtain rfl:i=ng:=by omega
    have e1: ∀ j,j < 4->(CW.setIfInBounds 4 (.slice pg' sg.2.length cpg))[j]?=(CV.setIfInBounds 3 (.slice ps st.2.length cps))[j]?:=fun j hj=>by rw[Ydd,if_neg (by omega),hCW.out]
    have q1:wr.cell? ⟨w2.heap.size+1,1,none⟩=some (.string hn):=by rw[hblk.cell,e1 1 (by omega),Ydd,if_neg (by omega),<- hCV];exact Zdx _ _ _ _ 1 (by omega)
    have q2:wr.cell? ⟨w2.heap.size+1,2,none⟩=some (.slice pa n c):=by rw[hblk.cell,e1 2 (by omega),Ydd,if_neg (by omega),<- hCV];exact Zdx _ _ _ _ 2 (by omega)
    have q3:wr.cell? ⟨w2.heap.size+1,3,none⟩=some (.slice ps st.2.length cps):=by rw[hblk.cell,e1 3 (by omega),Ydd,if_pos rfl,if_pos (by omega)]
    have qs:=hblk.soft;have lqw:=hblk.lt;have esg:gu.foldl Zhd (st.1,[])=sg:=by rw[<- hsg.out,Yd9 (by have:=hng.out;omega)]
    have HE2:=Zaa esg;clear esg;clear hwd hblk hrow hnew hsub hdis hoff cq4 e1;go_wp2_with fail
    have hS0:=Yda q1 (Yda q2 q3);refine Zat 12 (fun u=>u.cell? ⟨w2.heap.size+1,1,none⟩=some (.string hn)/\u.cell? ⟨w2.heap.size+1,2,none⟩=some (.slice pa n c)/\u.cell? ⟨w2.heap.size+1,3,none⟩=some (.slice ps st.2.length cps)) (by kernel_rfl) ?_;refine tz 0 (.pointer (some ⟨w2.heap.size+1,0,none⟩)) hS0 ?_;try simp only[zz]
    refine tz 1 (.pointer (some ⟨w2.heap.size+1,0,none⟩)) hS0 ?_;try simp only[zz]
    refine tz 2 (.pointer (some ⟨w2.heap.size+1,0,none⟩)) hS0 ?_;try simp only[zz]
    refine tz 3 (.pointer (some ⟨w2.heap.size+1,1,none⟩)) hS0 ?_;try simp only[zz]
    refine tz 4 (.agg #[.string hn,.slice pa n c]) hS0 (hy:=fun _ ⟨s0,s1,s2⟩=>by go_simp) ?_;try simp only[zz]
    refine tz 5 (.pointer (some ⟨w2.heap.size+1,0,none⟩)) hS0 ?_;try simp only[zz]
    refine tz 6 (.pointer (some ⟨w2.heap.size+1,0,none⟩)) hS0 ?_;try simp only[zz]
    refine tz 7 (.pointer (some ⟨w2.heap.size+1,3,none⟩)) hS0 ?_;try simp only[zz]
    refine tz 8 (.slice ps st.2.length cps) hS0 (hy:=fun _ ⟨s0,s1,s2⟩=>by go_simp) ?_;try simp only[zz]
    have lFg: ∀ j,j∈Fg->W1.heap.size<=j/\j < wr.heap.size:=fun j hj=>⟨HR2.out.2.2.2.1.ge j hj,HR2.out.2.2.2.1.lt j hj⟩;have lFa: ∀ j,j∈Fa->W0.heap.size<=j/\j < W1.heap.size/\j∉F':=fun j hj=>⟨HRa.out.2.2.2.1.ge j hj,HRa.out.2.2.2.1.lt j hj,HRa.out.2.2.2.2.2.1 j hj⟩;have up0: ∀ j,j < W0.heap.size->j≠w2.heap.size+1->j∉F1->wr.heap[j]?=W0.heap[j]?:=fun j h1 h2 h3=>(HR2.out.2.2.2.2.2.2.block j (by omega) fun h=>by
     simp only[Ydj]at h;rcases h with h | h
     ·exact h2 h
     ·rcases HRa.out.2.2.2.2.1 j h with h | h
      ·exact h3 h
      ·omega).trans (HRa.out.2.2.2.2.2.2.block j h1 fun h=>by
     simp only[Ydj]at h;rcases h with h | h
     ·exact h2 h
     ·exact h3 h)
    have upa: ∀ j,j∈Fa->wr.heap[j]?=W1.heap[j]?:=fun j hj=>HR2.out.2.2.2.2.2.2.block j (lFa j hj).2.1 fun h=>by
     simp only[Ydj]at h;rcases h with h | h
     ·have:=(lFa j hj).1;omega
     ·exact(lFa j hj).2.2 h
    have hHr:HdO wr (.slice pa n c) hd Gh:=HH.out.1.of (by have:=HH.out.2.2.2.2.size;omega) fun j hj=>(up0 j (by have:=(HGh.out j hj).2.1;omega) (by have:=(HGh.out j hj).2.1;omega) (HGh.out j hj).2.2).trans (HH.out.2.2.2.2.block j (HGh.out j hj).2.1);have hRr:=Zag.stable Zrm.stable _ wr _ _ _ HRa.out.2.2.1 upa;have CMr:=Zaa (HCM.out wr.drew _ Gh _ Fa (hHr.of (w':=wr.drew) lr fun _ _=>rfl) (Zag.stable Zrm.stable _ wr.drew _ _ _ hRr fun _ _=>rfl));refine rz 9 (h:=fun K' hK'=>?_);go_simp;refine CMr.out.mono ?_;rintro e w8 ⟨po,no,co,Go,rfl,hm8,hGo,hb8⟩;have B8:Below wr.heap.size wr w8:=(Ydb _ wr).drew.trans hb8;have K8:=HR2.out.2.1.of (B8.block _ lqw);have cell: ∀ j,w8.cell? ⟨w2.heap.size+1,j,none⟩=wr.cell? ⟨w2.heap.size+1,j,none⟩:=fun j=>Yde (a:=⟨w2.heap.size+1,j,none⟩) (B8.block _ lqw);have hS8:=Yda ((cell 1).trans q1) (Yda ((cell 2).trans q2) ((cell 3).trans q3));clear cell;refine hK'.out _ _ hS8 ?_;try simp only[zz]
    refine rz 10 (h:=fun K' hK'=>?_);go_simp;refine hK'.out _ _ hS8 ?_;try simp only[zz]
    refine rz 11 (h:=fun K' hK'=>?_);go_simp;refine hK'.out _ _ hS8 ?_;try simp only[zz]
    have ks8:=K8.soft;have k58:w8.cell? ⟨w2.heap.size+1,5,none⟩=some (.slice none 0 0):=by rw[K8.cell,Ydd,if_neg (by omega),<- hCW.out,Ydd,if_neg (by omega),<- hCV];exact Zdx _ _ _ _ 5 (by omega)
    refine rzl (h:=fun K' hK'=>?_);go_simp;refine hK'.out _ _ ?_;try simp only[zz]
    refine dz (h:=?_);have K9:=K8.set 5 (.slice po no co);rw[<- hCW.out,<- hCV]at K9;have nq: ∀ j,j≠w2.heap.size+1->(w8.setCell ⟨w2.heap.size+1,5,none⟩ (.slice po no co)).heap[j]?=w8.heap[j]?:=fun j hj=>Ydg _ _ _ _ hj;have lGo: ∀ j,j∈Go->wr.heap.size<=j/\j < w8.heap.size:=fun j hj=>hGo j hj;have lF2: ∀ j,j∈F2->j < wr.heap.size:=fun j hj=>HR2.out.1.lt j hj;have s89:(w8.setCell ⟨w2.heap.size+1,5,none⟩ (.slice po no co)).heap.size=w8.heap.size:=by simp[World.setCell]
    have l8:=B8.size;have sF2: ∀ i,i∈F2->i∈F1\/W0.heap.size<=i:=fun i hi=>(HR2.out.2.2.2.2.1 i hi).elim (HRa.out.2.2.2.2.1 i) fun h=> .inr (by omega);have sF: ∀ i,i∈F1->i∈F\/w.heap.size<=i:=fun i hi=>(HH.out.2.2.2.1 i hi).imp id (by omega);have nF1: ∀ i,w2.heap.size<=i->i∉F1:=fun i hi h=>by have:=(qF1 i h).1;omega
    have nm:w2.heap.size∉F2:=fun h=>by
     rcases sF2 _ h with h | h
     ·exact nF1 _ lr h
     ·omega
    have FIN:Box (∃ q m sv Fa gv Fg hv Gh ov Go F',(.pointer (some ⟨w2.heap.size+1,0,none⟩):Value)= .pointer (some ⟨q,0,none⟩)/\Blk (w8.setCell ⟨w2.heap.size+1,5,none⟩ (.slice po no co)) q ((((Zih p m hn hv).setIfInBounds 3 sv).setIfInBounds 4 gv).setIfInBounds 5 ov) 345/\(w8.setCell ⟨w2.heap.size+1,5,none⟩ (.slice po no co)).heap[m]?=some (.map #[] 0)/\Zag 324 2 Zrm (w8.setCell ⟨w2.heap.size+1,5,none⟩ (.slice po no co)) sv st.2 Fa/\Zag 371 5 Zzl (w8.setCell ⟨w2.heap.size+1,5,none⟩ (.slice po no co)) gv sg.2 Fg/\HdO (w8.setCell ⟨w2.heap.size+1,5,none⟩ (.slice po no co)) hv hd Gh/\HmO (w8.setCell ⟨w2.heap.size+1,5,none⟩ (.slice po no co)) ov hm Go/\Zd3 (w8.setCell ⟨w2.heap.size+1,5,none⟩ (.slice po no co)) p fs sg.1 F'/\Off F w (w8.setCell ⟨w2.heap.size+1,5,none⟩ (.slice po no co))/\(∀ i,i∈F'->i∈F\/w.heap.size<=i)/\(∀ i,i∈q::m::(Fa++(Fg++(Gh++Go)))->w.heap.size<=i/\i < (w8.setCell ⟨w2.heap.size+1,5,none⟩ (.slice po no co)).heap.size/\i∉F')/\(∀ i,i∈Fa++(Fg++(Gh++Go))->i≠q/\i≠m)/\q≠m):=by
     refine⟨w2.heap.size+1,w2.heap.size,_,Fa,_,Fg,_,Gh,_,Go,F2,rfl,K9,?_,Zag.stable Zrm.stable _ _ _ _ _ hRr fun j hj=>(nq j (by have:=(lFa j hj).1;omega)).trans (B8.block j (by have:=(lFa j hj).2.1;omega)),Zag.stable Zzl.stable _ _ _ _ _ HR2.out.2.2.1 fun j hj=>(nq j (by have:=(lFg j hj).1;omega)).trans (B8.block j (lFg j hj).2),hHr.of (by omega) fun j hj=>(nq j (by have:=(HGh.out j hj).2.1;omega)).trans (B8.block j (by have:=(HGh.out j hj).2.1;omega)),hm8.of fun j hj=>nq j (by have:=(lGo j hj).1;omega),HR2.out.1.of (by omega) fun j hj=>(nq j fun e=>qF2 (e▸hj)).trans (B8.block j (lF2 j hj)),?_,fun i hi=>(sF2 i hi).elim (sF i) fun h=> .inr (by omega),?_,?_,by omega⟩
     ·exact((nq _ (by omega)).trans (B8.block _ (by omega))).trans ((up0 _ (by omega) (by omega) (nF1 _ lr)).trans M0.out)
     ·refine Off.set ((((HH.out.2.2.1.trans HRa.out.2.2.2.2.2.2 fun i hi=>?_).trans HR2.out.2.2.2.2.2.2 fun i hi=>?_).trans (Off.of (F:=[]) B8) fun _ h=>(by cases h))) _ _ _ (.inr (by omega))
      ·simp only[Ydj]at hi;rcases hi with rfl | hi
       ·exact .inr (by omega)
       ·exact sF i hi
      ·simp only[Ydj]at hi;rcases hi with rfl | hi
       ·exact .inr (by omega)
       ·exact(HRa.out.2.2.2.2.1 i hi).elim (sF i) fun h=> .inr (by omega)
     ·intro i hi;simp only[Ydj,Ydk]at hi;rw[s89];rcases hi with rfl | rfl | hi | hi | hi | hi
      ·exact⟨by omega,by omega,qF2⟩
      ·exact⟨by omega,by omega,nm⟩
      ·have h1:=lFa i hi;refine⟨by omega,by omega,fun h=>?_⟩;rcases HR2.out.2.2.2.2.1 i h with h | h
       ·exact h1.2.2 h
       ·omega
      ·have h1:=lFg i hi;exact⟨by omega,by omega,HR2.out.2.2.2.2.2.1 i hi⟩
      ·have h1:=HGh.out i hi;refine⟨by omega,by omega,fun h=>?_⟩;rcases sF2 i h with h | h
       ·exact h1.2.2 h
       ·omega
      ·have h1:=lGo i hi;exact⟨by omega,by omega,fun h=>by have:=lF2 i h;omega⟩
     ·intro i hi;simp only[Ydk]at hi;rcases hi with hi | hi | hi | hi
      ·have:=lFa i hi;omega
      ·have:=lFg i hi;omega
      ·have:=HGh.out i hi;omega
      ·have:=lGo i hi;omega
    clear hS8 ks8 k58 K9 nq lGo lF2 s89 sF2 sF nF1 nm K8 hm8 hGo hb8 hHr hRr up0 upa;go_wp2
    go_ret
    rw[HE.out,HE2.out];obtain⟨q,m,sv,Fa,gv,Fg,hv,Gh,ov,Go,F',h1,h2⟩:=FIN.out;exact⟨q,m,sv,Fa,gv,Fg,hv,Gh,ov,Go,F',congrArg Ending.returned h1,h2⟩
end Go.P
namespace Go.P
variable {x:Pt}
section
variable {w w':World} {p:Nat} {hn:ByteArray} {hd:Option (ByteArray×Nat)} {hm:Option ByteArray} {at_:List Pt} {gs:List Gt} {fs:List (ByteArray×Nat)} {vs:List T} {F:List Nat}
theorem Zl1.ctx {e:Ending}(h:Zl1 w w' e p hn hd hm at_ gs fs vs F)(hG:Zpg w)(hF: ∀ i,i∈F->23<=i)(hsz: ∀ y,y∈gs->y.2.1.1.size < 1000000000/\y.2.2.1.size < 1000000000):
  ∃ q m cs S F' hv Gh ov Go,e= .returned (.pointer (some ⟨q,0,none⟩))/\Ctx w' q p m cs at_ gs S fs vs F' [] (.slice none 0 0) []/\cs[1]?=some (.string hn)/\cs[2]?=some hv/\HdO w' hv hd Gh/\cs[5]?=some ov/\HmO w' ov hm Go/\(∀ i,i∈Gh++Go->i∈S)/\(∀ j,8<=j->j < 972->cs[j]?=some (.int .u64 0))/\Off F w w'/\(∀ i,i∈F'->i∈F\/w.heap.size<=i)/\w.heap.size<=q/\w.heap.size<=m/\ ∀ i,i∈S->w.heap.size<=i:=by
 obtain⟨q,m,sv,Fa,gv,Fg,hv,Gh,ov,Go,F',h1,h2,h3,h4,h5,h6,h7,h8,h9,hA,hB,hC,hD⟩:=h;obtain⟨cs,hcs⟩: ∃ cs,(((Zih p m hn hv).setIfInBounds 3 sv).setIfInBounds 4 gv).setIfInBounds 5 ov=cs:=⟨_,rfl⟩;have sz:cs.size=972:=by rw[<- hcs];simp[Zg0]
 have lo: ∀ j,j≠3->j≠4->j≠5->cs[j]?=(Zih p m hn hv)[j]?:=fun j j3 j4 j5=>by rw[<- hcs,Ydd,if_neg (by omega),Ydd,if_neg (by omega),Ydd,if_neg (by omega)]
 have l3:cs[3]?=some sv:=by rw[<- hcs,Ydd,if_neg (by omega),Ydd,if_neg (by omega),Ydd,if_pos rfl,if_pos (by simp[Zg0])]
 have l4:cs[4]?=some gv:=by rw[<- hcs,Ydd,if_neg (by omega),Ydd,if_pos rfl,if_pos (by simp[Zg0])]
 have l5:cs[5]?=some ov:=by rw[<- hcs,Ydd,if_pos rfl,if_pos (by simp[Zg0])]
 have l7:cs[7]?=some (.slice none 0 0):=(lo 7 (by omega) (by omega) (by omega)).trans (Zdx _ _ _ _ 7 (by omega));rw[hcs]at h2;have hlw:23<=w.heap.size:=hG.2.2;refine⟨q,m,cs,Fa++(Fg++(Gh++Go)),F',hv,Gh,ov,Go,h1,⟨⟨by rw[Zsr l7];exact h2,(lo 6 (by omega) (by omega) (by omega)).trans (Zdx _ _ _ _ 6 (by omega)),by omega,Zag.nil,⟨#[],0,h3,rfl⟩,hD,Za7.nil _ _,by simp,by simp⟩,⟨sz,(lo 0 (by omega) (by omega) (by omega)).trans (Zdx _ _ _ _ 0 (by omega)),?_,?_,fun j hj=>(hB j (by simp only[Ydj];exact .inr (.inr hj))).2.1⟩,h8,hG.of h9 hF,fun j hj=>?_,fun j hj=>⟨fun h=>(hB j (by simp only[Ydj];exact .inr (.inr h))).2.2 hj,(hA j hj).elim (hF j) fun h=>by omega⟩⟩,(lo 1 (by omega) (by omega) (by omega)).trans (Zdx _ _ _ _ 1 (by omega)),(lo 2 (by omega) (by omega) (by omega)).trans (Zdx _ _ _ _ 2 (by omega)),h6,l5,h7,fun i hi=>by simp only[Ydk]at hi⊢;exact .inr (.inr hi),fun j h1 h2=>(lo j (by omega) (by omega) (by omega)).trans (Zzt _ _ _ _ j h1 h2),h9,hA,(hB q (by simp)).1,(hB m (by simp)).1,fun i hi=>(hB i (by simp only[Ydj];exact .inr (.inr hi))).1⟩
 ·obtain⟨pa,ca,rfl⟩:=h4.form;refine⟨pa,ca,l3,fun i x hx=>?_⟩;obtain⟨ga,cap,c,G,e1,hga,⟨⟨g,c',rfl,rfl,hs⟩,hGF⟩,key⟩:=h4.withF.nth i x hx;injection e1 with e1 _ _;exact⟨ga,g,c',e1,by simp[hga],by simp[hGF g (by simp)],key 0 _ rfl,key 1 _ rfl,hs⟩
 ·obtain⟨pa,ca,rfl⟩:=h5.form;refine⟨pa,ca,l4,fun i x hx=>?_⟩;obtain⟨ga,cap,c,G,e1,hga,⟨_,rfl⟩,key⟩:=h5.nth i x hx;injection e1 with e1 _ _
  have:=hsz x (Yeq hx)
  exact⟨ga,e1,by simp[hga],key 0 _ rfl,key 1 _ rfl,key 2 _ rfl,key 3 _ rfl,key 4 _ rfl,this.1,this.2⟩
 ·simp only[Ydj,Yeu,or_false]at hj;rcases hj with rfl | rfl
  ·exact⟨(hB _ (by simp)).2.2,fun h=>(hC _ h).1 rfl,by have:=(hB j (by simp)).1;omega⟩
  ·exact⟨(hB _ (by simp)).2.2,fun h=>(hC _ h).2 rfl,by have:=(hB j (by simp)).1;omega⟩
theorem Z2v (h:Zd3 w p fs vs F)(q:Option Addr)(c:Nat): ∀ u,Below w.heap.size w u->Calls prog 215 #[.pointer (some ⟨p,0,none⟩),.agg #[.string hn,.slice q 0 c]] u fun e w'=> ∃ pa n c Gh,e= .returned (.agg #[.string hn,.slice pa n c])/\HdO w' (.slice pa n c) none Gh/\(∀ i,i∈Gh->u.heap.size<=i/\i < w'.heap.size)/\ ∃ F',Zd3 w' p fs vs F'/\Off F u w'/\(∀ i,i∈F'->i∈F\/u.heap.size<=i)/\ ∀ i,i∈Gh->i∉F':=fun u hu=>by
 refine(Zuo q hn c).mono ?_;rintro e w' ⟨rfl,hb⟩;have h':=h.of hu.size fun j hj=>hu.block j (h.lt j hj);exact⟨none,0,0,[],rfl,⟨rfl,rfl⟩,fun _ h=>(by cases h),F,h'.of hb.size fun j hj=>hb.block j (h'.lt j hj),Off.of hb,fun _ h=> .inl h,fun _ h=>(by cases h)⟩
theorem Ya6 (h:Zd3 w p fs vs F){B D b o c:Nat}{x:T}(hx:Zbl B w (D+1) b o x)(hB:B<=w.heap.size)(hok:Zau 0 x=0)(hl:vs.length < 1000): ∀ u,Below w.heap.size w u->Calls prog 215 #[.pointer (some ⟨p,0,none⟩),.agg #[.string hn,.slice (some ⟨b,o,none⟩) 1 c]] u fun e w'=> ∃ pa n c Gh,e= .returned (.agg #[.string hn,.slice pa n c])/\HdO w' (.slice pa n c) (some (Zby vs x)) Gh/\(∀ i,i∈Gh->u.heap.size<=i/\i < w'.heap.size)/\ ∃ F',Zd3 w' p fs (Zcv vs x) F'/\Off F u w'/\(∀ i,i∈F'->i∈F\/u.heap.size<=i)/\ ∀ i,i∈Gh->i∉F':=fun u hu=>by
 refine(Zj5 (c:=c) (h.of hu.size fun j hj=>hu.block j (h.lt j hj)) (Zbl.carry (Za4 hu hB) lr hx) (Ydc hB hu.size) hok hl hn).mono ?_;rintro e w' ⟨g,cap,rfl,hg,hs,F',h1,h2,h3,h4⟩;exact⟨_,_,_,[g],rfl,⟨g,cap,rfl,rfl,hs⟩,fun i hi=>by simp at hi;subst hi;exact⟨hg,hs.1⟩,F',h1,h2,h3,fun i hi=>by simp at hi;subst hi;exact h4⟩
theorem Z80 {y n':ByteArray}{k:Nat}(hy:(y.toList==[])=false)(u:World)(hv:Value)(Gh:List Nat)(sv:Value)(Fa:List Nat)(h1:HdO u hv (some (y,k)) Gh)(h2:Zag 324 2 Zrm u sv [(n',(y,k))] Fa):Calls prog 244 #[.agg #[.string hn,hv],sv] u fun e w'=> ∃ po no co Go,e= .returned (.slice po no co)/\HmO w' (.slice po no co) (some y) Go/\(∀ i,i∈Go->u.heap.size<=i/\i < w'.heap.size)/\Below u.heap.size u w':=by
 obtain⟨g,c,rfl,rfl,hs⟩:=h1;obtain⟨ga,cap,cs,G,rfl,_,⟨g',c',rfl,rfl,hs'⟩,key⟩:=h2.nth 0 _ rfl;refine(Z3e hy hs (by simpa using key 0 _ rfl) (by simpa using key 1 _ rfl) hs').mono ?_;rintro e w' ⟨gh,ch,rfl,hg,c0,c1,c2,hb⟩;exact⟨_,_,_,[gh],rfl,⟨gh,ch,rfl,rfl,c0,c1,c2⟩,fun i hi=>by simp at hi;subst hi;exact⟨hg,Zbi c0⟩,hb⟩
theorem Ya3 (hx:(x.2.1.toList==[])=true)(u:World)(hv:Value)(Gh:List Nat)(sv:Value)(Fa:List Nat)(h1:HdO u hv none Gh)(h2:Zag 324 2 Zrm u sv [x] Fa):Calls prog 244 #[.agg #[.string hn,hv],sv] u fun e w'=> ∃ po no co Go,e= .returned (.slice po no co)/\HmO w' (.slice po no co) none Go/\(∀ i,i∈Go->u.heap.size<=i/\i < w'.heap.size)/\Below u.heap.size u w':=by
 obtain⟨rfl,rfl⟩:=h1;obtain⟨ga,cap,cs,G,rfl,_,⟨g',c',rfl,rfl,hs'⟩,key⟩:=h2.nth 0 _ rfl;refine(Z3d hx (by simpa using key 0 _ rfl) (by simpa using key 1 _ rfl) hs').mono ?_;rintro e w' ⟨rfl,hb⟩;exact⟨_,_,_,[],rfl,⟨rfl,rfl⟩,fun i hi=>(by cases hi),hb⟩
theorem Ya4 {x1:Pt}(hx:(x.2.1.toList==[])=true)(hx1:(x1.2.1.toList==[])=false)(u:World)(hv:Value)(Gh:List Nat)(sv:Value)(Fa:List Nat)(h1:HdO u hv none Gh)(h2:Zag 324 2 Zrm u sv [x,x1] Fa):Calls prog 244 #[.agg #[.string hn,hv],sv] u fun e w'=> ∃ po no co Go,e= .returned (.slice po no co)/\HmO w' (.slice po no co) none Go/\(∀ i,i∈Go->u.heap.size<=i/\i < w'.heap.size)/\Below u.heap.size u w':=by
 obtain⟨rfl,rfl⟩:=h1;obtain⟨ga,cap,cs,G,e0,_,⟨g0,c0,rfl,rfl,hs0⟩,key⟩:=h2.nth 0 x rfl;obtain⟨ga',cap',cs',G',e1,_,⟨g1,c1,rfl,rfl,hs1⟩,key1⟩:=h2.nth 1 x1 rfl;subst e0;injection e1 with e1 _ _;injection e1 with e1;injection e1 with e1;subst e1;refine(Z3f hx hx1 (by simpa using key 0 _ rfl) (by simpa using key 1 _ rfl) (by simpa using key1 0 _ rfl) (by simpa using key1 1 _ rfl) hs0 hs1).mono ?_;rintro e w' ⟨rfl,hb⟩;exact⟨_,_,_,[],rfl,⟨rfl,rfl⟩,fun i hi=>(by cases hi),hb⟩
end
end Go.P
namespace Go.P
variable {at_:List Pt}{gs:List Gt}{a0 a1 q:Nat}{Z:Array Value->Prop}{u:World}{hn:ByteArray}
section
variable {w:World} {p:Nat} {fs:List (ByteArray×Nat)} {vs:List T} {F:List Nat} {B D:Nat}
theorem Zd3.len (h:Zd3 w p fs vs F): ∃ g c,w.cell? ⟨p,0,none⟩=some (.slice g fs.length c):=by
 obtain⟨k,r,fv,vv,Ff,Fv,hw⟩:=h;obtain⟨pv,cv,rfl⟩:=hw.facts.form;exact⟨pv,cv,hw.blk.four.1⟩
def Zpj (w:World) (p:Nat) (at_:List Pt) (gs:List Gt) (fs:List (ByteArray×Nat)) (vs:List T) (F:List Nat) (a0 a1:Nat) (Z:Array Value->Prop) (q:Nat) (u:World):Prop:= ∃ m cs S F' ov Fo,Ctx u q p m cs at_ gs S fs vs F' [] ov Fo/\cs[8]?=some (.int .u64 (a0:Int))/\cs[9]?=some (.int .u64 (a1:Int))/\cs[10]?=some (.int .u64 0)/\cs[11]?=some (.int .u64 0)/\Z cs/\Off F w u/\(∀ i,i∈F'->i∈F\/w.heap.size<=i)/\w.heap.size<=q/\w.heap.size<=m/\ ∀ i,i∈Fo->w.heap.size<=i
theorem Zpj.below {v:World}(h:Zpj w p at_ gs fs vs F a0 a1 Z q u)(hb:Below u.heap.size u v):Zpj w p at_ gs fs vs F a0 a1 Z q v:=by
 obtain⟨m,cs,S,F',ov,Fo,h1,h2,h3,h4,h5,h6,h7,h8⟩:=h;exact⟨m,cs,S,F',ov,Fo,h1.below hb,h2,h3,h4,h5,h6,h7.trans (Off.of (F:=[]) hb) fun _ h=>(by cases h),h8⟩
theorem Zpj.cells (h:Zpj w p at_ gs fs vs F a0 a1 Z q u):u.cell? ⟨q,8,none⟩=some (.int .u64 (a0:Int))/\u.cell? ⟨q,9,none⟩=some (.int .u64 (a1:Int))/\u.cell? ⟨q,10,none⟩=some (.int .u64 ((0:Nat):Int))/\u.cell? ⟨q,11,none⟩=some (.int .u64 ((0:Nat):Int)):=by
 obtain⟨m,cs,S,F',ov,Fo,h1,h2,h3,h4,h5,_⟩:=h;exact⟨(h1.cell 8 (by omega)).trans h2,(h1.cell 9 (by omega)).trans h3,(h1.cell 10 (by omega)).trans h4,(h1.cell 11 (by omega)).trans h5⟩
theorem Zl1.rests {e:Ending}{w':World}{hd:Option (ByteArray×Nat)}{hm:Option ByteArray}(h:Zl1 u w' e p hn hd hm at_ gs fs vs F)(hu:Below w.heap.size w u)(hG:Zpg w)(hF: ∀ i,i∈F->23<=i)(hsz: ∀ y,y∈gs->y.2.1.1.size < 1000000000/\y.2.2.1.size < 1000000000): ∃ q,e= .returned (.pointer (some ⟨q,0,none⟩))/\Zpj w p at_ gs fs vs F 0 0 (fun cs=> ∀ j,8<=j->j < 972->cs[j]?=some (.int .u64 0)) q w':=by
 obtain⟨q,m,cs,S,F',hv,Gh,ov,Go,h1,h2,_,_,_,_,_,_,h9,hA,hB,hC,hD,_⟩:=h.ctx (hG.of (F:=[]) (Off.of hu) fun _ h=>(by cases h)) hF hsz;exact⟨q,h1,m,cs,S,F',_,_,h2,h9 8 (by omega) (by omega),h9 9 (by omega) (by omega),h9 10 (by omega) (by omega),h9 11 (by omega) (by omega),h9,(Off.of hu).trans hA fun _ h=> .inl h,fun i hi=>(hB i hi).imp id (Ydc hu.size),Ydc hu.size hC,Ydc hu.size hD,fun _ h=>(by cases h)⟩
theorem Zjv (n:Nat)(hn:n<=3):bits BinOp.andNot IntKind.u64 ((2 ^ n - 1:Nat):Int) ((2 ^ 0 - 1:Nat):Int)=((2 ^ n - 1:Nat):Int):=by
 have:n=0\/n=1\/n=2\/n=3:=by omega
 rcases this with rfl | rfl | rfl | rfl <;> rfl
theorem Zgz (n:Nat)(hn:n<=3):2 ^ n - 1 < 8/\ ∀ k,k∈Za5 (2 ^ n - 1)->k < n:=by
 have:n=0\/n=1\/n=2\/n=3:=by omega
 rcases this with rfl | rfl | rfl | rfl <;> exact⟨by decide,by decide⟩
theorem Z1w (h:Zd3 w p fs vs F)(hG:Zpg w)(hF: ∀ i,i∈F->23<=i)(hFB: ∀ i,i∈F->B<=i)(hB:B<=w.heap.size){a:A}{t:T}{pt pb pg:Option Addr}{ct cb cg:Nat}(hb:Zan 2 (Zbb B w (D+2)) pb [a])(hat:a.terms=[t])(hok:Zau 0 t=0)(hvs:(Zcv vs t).length < 900)(hvs0:vs.length < 900)(hx:((Zby vs t).1.toList==[])=true)(hl:fs.length<=3){fit n:Nat}{r:List Nat}(hfit:Zdy fs a.name (Zby vs t) (Za5 (2 ^ fs.length - 1))=fit)(hf2: ∀ k,k∈Za5 fit->k < fs.length)(hn1:Za5 fit=n::r):
  Calls prog 191 #[.pointer (some ⟨p,0,none⟩),.agg #[.string hn,.slice pt 0 ct,.slice pb 1 cb,.slice pg 0 cg]] w fun e w'=>e= .returned (.bool true)/\ ∃ F',Zd3 w' p fs (Zcv vs t) F'/\Off F w w'/\ ∀ i,i∈F'->i∈F\/w.heap.size<=i:=by
 have hfl:fit < 8:=hfit▸Ze2 _ _ _ fun k hk=>Zcp hk;refine(Zvb (n:=fs.length) (a0:=fit) (a1:=0) (a2:=0) (a3:=0) (J:=Zpj w p [(a.name,Zby vs t)] [] fs (Zcv vs t) F 0 0 (fun cs=> ∀ j,8<=j->j < 972->cs[j]?=some (.int .u64 0))) (J2:=Zpj w p [(a.name,Zby vs t)] [] fs (Zcv vs t) F fit 0 (fun _=>True)) (fun _ _ _ h hb=>h.below hb) (fun _ _ _ h hb=>h.below hb) (fun u hu=>?_) (fun q u h=>?_) (fun q u h=>?_) (fun q u h=>?_) (fun _ _ h=>h.cells) fun q u h=>?_).mono ?_
 ·have hc:=Go.W.Below.carry (hu.mono hB) lr;have hwu:=h.of hu.size fun j hj=>hu.block j (h.lt j hj);refine(Zrp (bd:=[a]) (gu:=[]) (hb.carry fun _ _ _ hA=>Zbb.carry hc lr hA) (Ydc hB hu.size) hFB (fun i hi=>hwu.lt i hi) (fun x hx=>⟨t,by simp at hx;subst hx;exact⟨hat,hok⟩⟩) (by simp) (vs1:=vs) (fun k=>?_) (D:=D) (pg:=pg) ⟨by simp,fun i x hx=>by simp at hx⟩ (fun _ h=>(by cases h)) (by simp) (fun k=>?_) (Z2v hwu pt ct) fun u' hv Gh sv Fa h1 h2=>Ya3 (x:=(a.name,Zby vs t)) hx u' hv Gh sv Fa h1 (by simpa[Zfh,hat]using h2)).mono ?_
  ·cases k with
   | zero=>simpa using hvs0
   | succ k=>simpa[Zfh,hat]using hvs
  ·simpa[Zfh,hat]using hvs
  ·intro e w' hm;have hm2:Zl1 u w' e p hn none none [(a.name,Zby vs t)] [] fs (Zcv vs t) F:=by simpa[Zfh,hat]using hm
   exact hm2.rests hu hG hF (fun _ h=>(by cases h))
 ·obtain⟨m,cs,S,F',ov,Fo,h1,_⟩:=h;exact h1.wd.len
 ·obtain⟨m,cs,S,F',ov,Fo,h1,h8,h9,h10,h11,hz,hO,hs,hq,hm,hFo⟩:=h;refine(Zuf h1 (by simp) (seen:=0) (now:=fs.length) (sN:=2 ^ fs.length - 1) (a0:=0) (fit:=fit) (by omega) (by omega) (Zjv _ hl) (Zgz _ hl).1 h8 (by omega) (Zgz _ hl).2 (fun _ _ _ y hy=>(by cases hy)) hfit (fun k hk=>hf2 k (by rwa [Nat.zero_or]at hk))).mono ?_;rintro e w' ⟨rfl,ov',Fo',hc,ho,hs'⟩;have hlt:=h1.bd.lt;rw[Nat.zero_or]at hc;refine⟨rfl,m,_,S,F',ov',Fo',hc,?_,?_,?_,?_,trivial,hO.trans ho fun i hi=> .inr ?_,hs,hq,hm,fun i hi=>(hs' i hi).elim (hFo i) fun h=>Ydc hO.size h⟩
  ·rw[Ydd,if_pos rfl,if_pos (by have:=h1.rd.sz;omega)]
  ·rw[Ydd,if_neg (by omega)];exact h9
  ·rw[Ydd,if_neg (by omega)];exact h10
  ·rw[Ydd,if_neg (by omega)];exact h11
  ·simp only[Ydj]at hi;rcases hi with rfl | rfl | hi
   ·exact hq
   ·exact hm
   ·exact hFo i hi
 ·obtain⟨m,cs,S,F',ov,Fo,h1,_⟩:=h;exact Zju h1 (by simp) fun _ h=>(by cases h)
 ·obtain⟨m,cs,S,F',ov,Fo,h1,_⟩:=h;exact Zn4 h1 fit 0 0 0 hfl hn1
 ·rintro e w' ⟨rfl,q,m,cs,S,F',ov,Fo,h1,_,_,_,_,_,hO,hs,_⟩;exact⟨rfl,F',h1.wd,hO,hs⟩
end
end Go.P
namespace Go.P
def Zic (w:World) (p:Nat) (x:Pt) (pn y:ByteArray) (kk:Nat) (vs:List T) (F:List Nat) (fs:List (ByteArray×Nat)) (a0:Nat) (q:Nat) (Y:Nat->List Nat->Prop) (u:World):Prop:= ∃ m cs S F' ov Fo,Ctx u q p m cs [x] [] S fs vs F' [] ov Fo/\Hm u cs S pn y kk/\cs[8]?=some (.int .u64 (a0:Int))/\cs[9]?=some (.int .u64 ((0:Nat):Int))/\cs[10]?=some (.int .u64 ((0:Nat):Int))/\cs[11]?=some (.int .u64 ((0:Nat):Int))/\Off F w u/\(∀ i,i∈F'->i∈F\/w.heap.size<=i)/\(∀ i,i∈q::m::Fo->w.heap.size<=i)/\Y u.heap.size (q::m::Fo++F')
def Zmp (k n:Nat) (l:List Nat):Prop:=k < n/\k∉l
section
variable {w u:World} {p:Nat} {x:Pt} {pn y:ByteArray} {kk:Nat} {vs:List T} {F:List Nat} {fs:List (ByteArray×Nat)} {a0 q k:Nat}
theorem Zic.len {Y:Nat->List Nat->Prop}(h:Zic w p x pn y kk vs F fs a0 q Y u): ∃ g c,u.cell? ⟨p,0,none⟩=some (.slice g fs.length c):=by
 obtain⟨m,cs,S,F',ov,Fo,h1,_⟩:=h;exact h1.wd.len
theorem Zic.other {v:World}(h:Zic w p x pn y kk vs F fs a0 q (fun _ _=>True) u)(hb:Below u.heap.size u v)(h1:u.heap.size<=k)(h2:k < v.heap.size):Zic w p x pn y kk vs F fs a0 q (Zmp k) v:=by
 obtain⟨m,cs,S,F',ov,Fo,hc,hm,h8,h9,h10,h11,hO,hs,hl,_⟩:=h;refine⟨m,cs,S,F',ov,Fo,hc.below hb,hm.of hb.size (fun j hj=>hb.block j (hc.rd.lS j hj)) fun _ _=>rfl,h8,h9,h10,h11,hO.trans (Off.of (F:=[]) hb) fun _ h=>(by cases h),hs,hl,h2,fun h=>?_⟩;rcases Ydk.1 h with h | h
 ·have:=hc.bd.lt k h;omega
 ·have:=hc.wd.lt k h;omega
theorem Zoc (h:Zic w p x pn y kk vs F fs a0 q (Zmp k) u){seen now sN fit:Nat}(hse:seen<=60)(hno:now<=60)(hsN:bits BinOp.andNot IntKind.u64 ((2 ^ now - 1:Nat):Int) ((2 ^ seen - 1:Nat):Int)=(sN:Int))(hs8:sN < 8)(ha8:a0 < 8)(hb: ∀ n,n∈Za5 sN->n < fs.length)(hfit:Zdy fs x.1 x.2 (Za5 sN)=fit)(hb2: ∀ n,n∈Za5 (a0 ||| fit)->n < fs.length):
  Calls prog 218 #[.pointer (some ⟨q,0,none⟩),.int .i64 (seen:Int),.int .i64 (now:Int)] u fun e w'=>e= .returned (.tuple #[])/\Zic w p x pn y kk vs F fs (a0 ||| fit) q (Zmp k) w'/\w'.heap[k]?=u.heap[k]?:=by
 obtain⟨m,cs,S,F',ov,Fo,hc,hm,h8,h9,h10,h11,hO,hs,hl,hk1,hk2⟩:=h;refine(Zuf hc (by simp) hse hno hsN hs8 h8 ha8 hb (fun _ _ _ z hz=>(by cases hz)) hfit hb2).mono ?_;rintro e w' ⟨rfl,ov',Fo',hc',ho,hs'⟩;have hkq:k∉q::m::Fo:=fun h=>hk2 (Yei _ h);have hsz:=hc.rd.sz;refine⟨rfl,⟨m,_,S,F',ov',Fo',hc',hm.of ho.size (fun j hj=>ho.block j (hc.rd.lS j hj) fun h=>(hc.dB j h).2.1 hj) (fun j hj=>by rw[Ydd,if_neg (by omega)]),?_,?_,?_,?_,hO.trans ho fun i hi=> .inr (hl i hi),hs,fun i hi=>?_,Ydh hk1 ho.size,fun h=>?_⟩,ho.block k hk1 hkq⟩
 ·rw[Ydd,if_pos rfl,if_pos (by omega)]
 ·rw[Ydd,if_neg (by omega)];exact h9
 ·rw[Ydd,if_neg (by omega)];exact h10
 ·rw[Ydd,if_neg (by omega)];exact h11
 ·simp only[Ydj]at hi;rcases hi with rfl | rfl | hi
  ·exact hl _ (by simp)
  ·exact hl _ (by simp)
  ·exact(hs' i hi).elim (fun h=>hl i (by simp[h])) fun h=>Ydc hO.size h
 ·rcases Ydk.1 h with h | h
  ·simp only[Ydj]at h;rcases h with rfl | rfl | h
   ·exact hkq (by simp)
   ·exact hkq (by simp)
   ·exact(hs' k h).elim (fun h=>hkq (by simp[h])) (by omega)
  ·exact hk2 (Yed _ h)
theorem Zt5 (h:Zic w p x pn y kk vs F fs a0 q (Zmp k) u){seen s0 n:Nat}{fx:ByteArray×Nat}(hse:seen<=60)(ha:bits BinOp.andNot IntKind.u64 (a0:Int) ((2 ^ seen - 1:Nat):Int)=(s0:Int))(hs8:s0 < 8)(hn:Za5 s0=[n])(hf:fs[n]?=some fx)(hN:Zjf (pn,fx.2) fs)(hlen:fs.length < 60):
  Calls prog 219 #[.pointer (some ⟨q,0,none⟩),.int .i64 (seen:Int)] u fun e w'=>e= .returned (.bool true)/\Zic w p x pn y kk vs F (fs++[(pn,fx.2)]) a0 q (Zmp k) w'/\w'.heap[k]?=u.heap[k]?:=by
 obtain⟨m,cs,S,F',ov,Fo,hc,hm,h8,h9,h10,h11,hO,hs,hl,hk1,hk2⟩:=h;refine(Zwb hc hm hse h8 h9 h10 h11 ha hs8 hn hf hN hlen).mono ?_;rintro e w' ⟨rfl,ov',Fo',F2,hc',ho,hsF,hsO⟩;have hnS: ∀ j,j∈S->j∉q::m::Fo++F':=fun j hj h=>by
  rcases Ydk.1 h with h | h
  ·exact(hc.dB j h).2.1 hj
  ·exact(hc.dF j h).1 hj
 refine⟨rfl,⟨m,cs,S,F2,ov',Fo',hc',hm.of ho.size (fun j hj=>ho.block j (hc.rd.lS j hj) (hnS j hj)) (fun _ _=>rfl),h8,h9,h10,h11,hO.trans ho fun i hi=>?_,fun i hi=>(hsF i hi).elim (hs i) fun h=> .inr (Ydc hO.size h),fun i hi=>?_,Ydh hk1 ho.size,fun h=>?_⟩,ho.block k hk1 hk2⟩
 ·rcases Ydk.1 hi with h | h
  ·exact .inr (hl i h)
  ·exact hs i h
 ·simp only[Ydj]at hi;rcases hi with rfl | rfl | hi
  ·exact hl _ (by simp)
  ·exact hl _ (by simp)
  ·exact(hsO i hi).elim (fun h=>hl i (by simp[h])) fun h=>Ydc hO.size h
 ·rcases Ydk.1 h with h | h
  ·simp only[Ydj]at h;rcases h with rfl | rfl | h
   ·exact hk2 (by simp)
   ·exact hk2 (by simp)
   ·exact(hsO k h).elim (fun h=>hk2 (by simp[h])) (by omega)
  ·exact(hsF k h).elim (fun h=>hk2 (by simp[h])) (by omega)
theorem Zr5 (h:Zic w p x pn y kk vs F fs a0 q (Zmp k) u){seen:Nat}(hse:seen<=60)(ha:bits BinOp.andNot IntKind.u64 (a0:Int) ((2 ^ seen - 1:Nat):Int)=((0:Nat):Int)):
  Calls prog 219 #[.pointer (some ⟨q,0,none⟩),.int .i64 (seen:Int)] u fun e w'=>e= .returned (.bool true)/\Zic w p x pn y kk vs F fs a0 q (Zmp k) w'/\w'.heap[k]?=u.heap[k]?:=by
 obtain⟨m,cs,S,F',ov,Fo,hc,hm,h8,h9,h10,h11,hO,hs,hl,hk1,hk2⟩:=h;refine(Zwc hc hse h8 h9 h10 h11 ha).mono ?_;rintro e w' ⟨rfl,hb⟩;exact⟨rfl,⟨m,cs,S,F',ov,Fo,hc.below hb,hm.of hb.size (fun j hj=>hb.block j (hc.rd.lS j hj)) fun _ _=>rfl,h8,h9,h10,h11,hO.trans (Off.of (F:=[]) hb) fun _ h=>(by cases h),hs,hl,Ydh hk1 hb.size,hk2⟩,hb.block k hk1⟩
end
end Go.P
namespace Go.P
section
variable {w:World} {p:Nat} {fs:List (ByteArray×Nat)} {vs:List T} {F:List Nat} {B D:Nat}
theorem Zzz (h:Zd3 w p fs vs F)(hG:Zpg w)(hF: ∀ i,i∈F->23<=i)(hFB: ∀ i,i∈F->B<=i)(hB:B<=w.heap.size){b o c:Nat}{r:R}(hR:Zb5 B w (D+2) b o r){th t:T}{a:A}(hth:r.head.terms=[th])(hbd:r.body=[a])(hat:a.terms=[t])(hgu:r.guards=[])(hok:Zau 0 th=0/\Zau 0 t=0){y:ByteArray}{kk:Nat}{v1 v2:List T}(e1:Zcv vs th=v1)(e2:Zcv v1 t=v2)(s1:Zby vs th=(y,kk))(s2:Zby v1 t=(y,kk))(hvs:vs.length < 900/\v1.length < 900/\v2.length < 900)(hy:(y.toList==[])=false/\y.size≠0)(hl:fs.length<=2)
  {fit fit2 sN2 k0:Nat} {fx:ByteArray×Nat} (hfit:Zdy fs a.name (y,kk) (Za5 (2 ^ fs.length - 1))=fit) (hf1: ∀ k,k∈Za5 fit->k < fs.length) (ha:bits BinOp.andNot IntKind.u64 (fit:Int) ((2 ^ 0 - 1:Nat):Int)=(fit:Int)) (hn:Za5 fit=[k0]) (hfx:fs[k0]?=some fx) (hN:Zjf (r.head.name,fx.2) fs) (hsN2:bits BinOp.andNot IntKind.u64 ((2 ^ (fs.length+1) - 1:Nat):Int) ((2 ^ fs.length - 1:Nat):Int)=(sN2:Int)) (hs28:sN2 < 8) (hb2: ∀ k,k∈Za5 sN2->k < fs.length+1) (hfit2:Zdy (fs++[(r.head.name,fx.2)]) a.name (y,kk) (Za5 sN2)=fit2) (hf2: ∀ k,k∈Za5 (fit ||| fit2)->k < fs.length+1) (ha2:bits BinOp.andNot IntKind.u64 ((fit ||| fit2:Nat):Int) ((2 ^ fs.length - 1:Nat):Int)=((0:Nat):Int)):
  Calls prog 189 #[.pointer (some ⟨p,0,none⟩),.slice (some ⟨b,o,none⟩) 1 c] w fun e w'=>e= .returned (.bool true)/\ ∃ F',Zd3 w' p (fs++[(r.head.name,fx.2)]) v2 F'/\Off F w w'/\ ∀ i,i∈F'->i∈F\/w.heap.size<=i:=by
 obtain⟨_,pt,ct,pb,cb,pg,cg,r0,r1,r2,r3,hRS⟩:=hR.vals;obtain⟨va,pb',cb',pg',cg',e,⟨pt',ct',rfl,_,_,hrt⟩,_,hrb,_,hrg⟩:=hRS;simp only[Ydv,Ydy,List.cons.injEq,Value.slice.injEq,true_and,and_true]at e;obtain⟨⟨rfl,rfl⟩,⟨rfl,rfl⟩,rfl,rfl⟩:=e;have hfl:fit < 8:=hfit▸Ze2 _ _ _ fun k hk=>Zcp hk;rw[hth]at r1 hrt;rw[hbd]at r2 hrb;rw[hgu]at r3 hrg;obtain⟨tb,ot,rfl,hT⟩:=hrt.at_ 0 th rfl;simp only[Yex,Yey]at hT;refine(Z51 (n:=fs.length) (n3:=fs.length+1) (J0:=fun q u=>Zic w p (a.name,(y,kk)) r.head.name y kk v2 F fs 0 q (fun _ _=>True) u) (J1:=fun q k u=>Zic w p (a.name,(y,kk)) r.head.name y kk v2 F fs 0 q (Zmp k) u) (J2:=fun q k u=>Zic w p (a.name,(y,kk)) r.head.name y kk v2 F fs fit q (Zmp k) u) (J3:=fun q k u=>Zic w p (a.name,(y,kk)) r.head.name y kk v2 F (fs++[(r.head.name,fx.2)]) fit q (Zmp k) u) (J4:=fun q k u=>Zic w p (a.name,(y,kk)) r.head.name y kk v2 F (fs++[(r.head.name,fx.2)]) (fit ||| fit2) q (Zmp k) u) (J5:=fun q k u=>Zic w p (a.name,(y,kk)) r.head.name y kk v2 F (fs++[(r.head.name,fx.2)]) (fit ||| fit2) q (Zmp k) u) r0 r1 r2 r3 (by rw[Ye4];omega) (fun u hu=>?_) (fun q u v k h hb h1 h2=>h.other hb h1 h2) (fun q k u h=>h.len) (fun q k u h=>by simpa using h.len) (fun q k u h=>by simpa using h.len) (fun q k u h=>?_) (fun q k u h=>?_) (fun q k u h=>?_) fun q k u h=>?_).mono ?_
 ·have hc:=Go.W.Below.carry (hu.mono hB) lr;have hwu:=h.of hu.size fun j hj=>hu.block j (h.lt j hj);have f1:[a].foldl Zfh (v1,[])=(v2,[(a.name,(y,kk))]):=by simp[Zfh,hat,e2,s2]
  have CP:=Ya6 (hn:=r.head.name) (c:=ct) hwu (Zbl.carry hc lr hT) (Ydc hB hu.size) hok.1 (by omega);rw[s1,e1]at CP;refine(Zrp (bd:=[a]) (gu:=[]) (hrb.carry fun _ _ _ hA=>Zbb.carry hc lr hA) (Ydc hB hu.size) hFB (fun i hi=>hwu.lt i hi) (fun z hz=>⟨t,by simp at hz;subst hz;exact⟨hat,hok.2⟩⟩) (by simp) (vs1:=v1) (fun k=>?_) (D:=D) (pg:=pg) ⟨by simp,fun i x hx=>by simp at hx⟩ (fun _ h=>(by cases h)) (by simp) (fun k=>?_) CP fun u' hv Gh sv Fa h1 h2=>Z80 hy.1 u' hv Gh sv Fa h1 (n':=a.name) (by rw[f1]at h2;exact h2)).mono ?_
  ·cases k with
   | zero=>exact hvs.2.1
   | succ k=>simpa[Zfh,hat,e2]using hvs.2.2
  ·simpa[Zfh,hat,e2]using hvs.2.2
  ·intro e w' hm;rw[f1]at hm;obtain⟨q,m,cs,S,F',hv,Gh,ov,Go,h1,h2,h3,h4,h5,h6,h7,h8,h9,hA,hB',hC,hD,_⟩:=Zl1.ctx hm (hG.of (F:=[]) (Off.of hu) fun _ h=>(by cases h)) hF (fun _ h=>(by cases h));obtain⟨g,cg',rfl,rfl,hs⟩:=h5;obtain⟨gh,ch,rfl,rfl,g0,g1,g2⟩:=h7;refine⟨q,h1,m,cs,S,F',_,_,h2,⟨⟨gh,ch,h6,h8 gh (by simp),g0,g1,g2⟩,⟨h3,g,cg',h4,h8 g (by simp),hs⟩,hy.2⟩,h9 8 (by omega) (by omega),h9 9 (by omega) (by omega),h9 10 (by omega) (by omega),h9 11 (by omega) (by omega),(Off.of hu).trans hA fun _ h=> .inl h,fun i hi=>(hB' i hi).imp id (Ydc hu.size),fun i hi=>?_,trivial⟩;simp only[Ydj,Yeu,or_false]at hi;rcases hi with rfl | rfl
   ·exact Ydc hu.size hC
   ·exact Ydc hu.size hD
 ·have:=Zoc h (seen:=0) (now:=fs.length) (by omega) (by omega) (Zjv _ (by omega)) (Zgz _ (by omega)).1 (by omega) (Zgz _ (by omega)).2 hfit (fun k hk=>hf1 k (by rwa [Nat.zero_or]at hk))
  rwa [Nat.zero_or]at this
 ·exact Zt5 h (seen:=0) (by omega) ha hfl hn hfx hN (by omega)
 ·exact Zoc h (by omega) (by omega) hsN2 hs28 hfl (by simpa using hb2) hfit2 (by simpa using hf2)
 ·exact Zr5 h (by omega) ha2
 ·rintro e w' ⟨rfl,q,k,m,cs,S,F',ov,Fo,hc,_,_,_,_,_,hO,hs,_⟩;exact⟨rfl,F',hc.wd,hO,hs⟩
end
end Go.P
namespace Go.W
def Zgr (st:List (ByteArray×Nat)×List T) (a:A):List (ByteArray×Nat)×List T:=(st.1++[(a.name,(Zbn [] (Zby st.2 (a.terms.headD T0))).1)],Zcv st.2 (a.terms.headD T0))
end Go.W
namespace Go.P
attribute [local go_sem] Yea
theorem Z5i {w:World}{p:Nat}{fs:List (ByteArray×Nat)}{vs:List T}{F:List Nat}(h:Zd3 w p fs vs F){B D:Nat}{l:List A}{pl:Option Addr}{cl:Nat}(hb:Zan 2 (Zbb B w (D+2)) pl l)(hB:B<=w.heap.size)(hFB: ∀ i,i∈F->B<=i)(h1: ∀ a,a∈l-> ∃ t,a.terms=[t]/\Zau 0 t=0)(hl:l.length<=50)(hlv: ∀ k,((l.take k).foldl Zgr (fs,vs)).2.length < 900)(hlf: ∀ k,((l.take k).foldl Zgr (fs,vs)).1.length < 60)(hN: ∀ k a,l[k]?=some a->Zjf (a.name,(Zbn [] (Zby ((l.take k).foldl Zgr (fs,vs)).2 (a.terms.headD T0))).1) ((l.take k).foldl Zgr (fs,vs)).1):
  Calls prog 188 #[.pointer (some ⟨p,0,none⟩),.slice pl l.length cl] w fun e w'=>e= .returned (.bool true)/\ ∃ F',Zd3 w' p (l.foldl Zgr (fs,vs)).1 (l.foldl Zgr (fs,vs)).2 F'/\Off F w w'/\ ∀ i,i∈F'->i∈F\/w.heap.size<=i:=by
 obtain⟨nl,hnl⟩: ∃ nl,Box (l.length=nl):=⟨_,⟨rfl⟩⟩;rw[hnl.out]at hl;rw[hnl.out];have HBD:=Zaa hb;have HLV:=Zaa hlv;have HLF:=Zaa hlf;have HN:=Zaa hN;have H1:=Zaa h1;have H:=Zaa h;clear hb hlv hlf hN h1 h;refine Yfn func188 rfl ?_;simp only[ntmps188,Ydn,Ydp,Ydt,Nat.reduceAdd,Nat.reduceSub,Ydx,Ydw,Yd2,Ydz,Ydy,Ydv];go_wp2
 go_loopw [9] (fun iv wr=> ∃ k,k<=nl/\iv= .int .i64 ((k:Nat):Int)/\ ∃ F',Zd3 wr p ((l.take k).foldl Zgr (fs,vs)).1 ((l.take k).foldl Zgr (fs,vs)).2 F'/\Off F w wr/\ ∀ i,i∈F'->i∈F\/w.heap.size<=i) (fun iv _=>nl - Zyz iv)
 case atStart=>exact⟨0,Yej _,rfl,F,H.out,Off.refl _ _,fun _ h=> .inl h⟩
 case round=>
  obtain⟨k,hk,rfl,F',hwd,hoff,hsub⟩:=hrel;have hlv:=HLV.out k;have hlf:=HLF.out k;have hNk:=HN.out k;obtain⟨st,hst⟩: ∃ st,Box ((l.take k).foldl Zgr (fs,vs)=st):=⟨_,⟨rfl⟩⟩;rw[hst.out]at hlv hlf hwd hNk;by_cases hlt:k < nl
  ·obtain⟨a,hak⟩: ∃ a,l[k]?=some a:=⟨_,Ydi (by have:=hnl.out;omega)⟩;obtain⟨t,hat,hok⟩:=H1.out a (Yeq hak);have hNa:=hNk a hak;rw[hat]at hNa;simp only[List.headD_cons]at hNa;obtain⟨bb,oo,rfl,hA⟩:=HBD.out.at_ k a hak;have hBr:Below B w wr:=hoff.below hFB hB;obtain⟨hbb,pc,cc,z0,z1,hAS⟩:=(Zbb.carry (Go.W.Below.carry hBr lr) lr hA).vals;obtain⟨pc',cc',e1,_,_,hrt⟩:=hAS;injection e1 with _ e1;injection e1 with e1 _;injection e1 with e1 _ e3;subst e1;subst e3;rw[hat]at z1 hrt;obtain⟨tb,ot,rfl,hT⟩:=hrt.at_ 0 t rfl;simp only[Ydp,Ydt,Yd7,Yex,Yey]at z1 hT;have g:(k:Int) < (nl:Int):=by omega
   have hBw:B<=wr.heap.size:=Ydc hB hBr.size;have CS:=Zaa (fun u (hu:Below wr.heap.size wr u)=>Zj5 (c:=cc) (hwd.of hu.size fun j hj=>hu.block j (hwd.lt j hj)) (Zbl.carry (Za4 hu hBw) lr hT) (Ydc hBw hu.size) hok (by omega) a.name);have HR:=Zaa (Yda hwd (Yda hoff hsub));have AK:=Zaa (Yda hak hat);have HNA:=Zaa hNa;clear hwd hoff hsub hA hrt hT hak hat hNk hNa;go_wp2_with fail
   refine(CS.out _ ((Ydb _ wr).alloc lr _)).mono ?_;rintro e w5 ⟨g5,c5,rfl,hg5,hsl5,F5,hd5,ho5,hs5,hgF5⟩;have CF:=Zaa (Zqr (w:=w5) (mv:= .map none) (xs:=[]) (.inl ⟨rfl,rfl⟩) (fun m e=>by cases e) none 0 0 (c:=c5) hsl5 a.name);have hs5': ∀ i,i∈F5->i∈F'\/wr.heap.size+1<=i:=fun i hi=>(hs5 i hi).imp id fun h=>by simpa using h
   have P5:=Zaa (Yda hd5 (Yda ho5 hs5'));obtain⟨val,hval⟩: ∃ val,Box ((Zbn [] (Zby st.2 t)).1=val):=⟨_,⟨rfl⟩⟩;rw[hval.out]at CF HNA;clear hd5 ho5 hs5 hsl5 hg5 hgF5 hs5';go_wp2_with fail
   refine mq CF.out ?_;rintro w6 hb6;have CJ:=Zaa (Zyi (P5.out.1.of hb6.size fun j hj=>hb6.block j (P5.out.1.lt j hj)) (a.name,val) HNA.out hlf);have HB6:=Zaa hb6;clear hb6;go_wp2_with fail
   refine CJ.out.mono ?_;rintro e w7 ⟨rfl,F7,hw7,ho7,hs7⟩;have EQ:(l.take (k+1)).foldl Zgr (fs,vs)=(st.1++[(a.name,val)],Zcv st.2 t):=by
    rw[Yes,AK.out.1,List.foldl_append,hst.out];simp[Zgr,AK.out.2,hval.out]
   have l5:wr.heap.size+1<=w5.heap.size:=by have:=P5.out.2.1.size;simpa using this
   have HF:Box (∃ F',Zd3 w7 p ((l.take (k+1)).foldl Zgr (fs,vs)).1 ((l.take (k+1)).foldl Zgr (fs,vs)).2 F'/\Off F w w7/\ ∀ i,i∈F'->i∈F\/w.heap.size<=i):=by
    rw[EQ];have lw:=HR.out.2.1.size;have hF5: ∀ i,i∈F5->i∈F\/w.heap.size<=i:=fun i hi=>(P5.out.2.2 i hi).elim (HR.out.2.2 i) fun h=> .inr (by omega);refine⟨F7,hw7,(((HR.out.2.1.trans (Off.of (F:=[]) ((Ydb _ wr).alloc lr _)) fun _ h=>(by cases h)).trans P5.out.2.1 fun i hi=>HR.out.2.2 i hi).trans (Off.of (F:=[]) HB6.out) fun _ h=>(by cases h)).trans ho7 hF5,fun i hi=>(hs7 i hi).elim (hF5 i) fun h=> .inr (by have:=HB6.out.size;omega)⟩
   clear EQ hw7 ho7 hs7;go_wp2
   exact⟨⟨k+1,by omega,by simp,HF.out⟩,by simp[Zyz];omega⟩
  ·have g: ¬ (k:Int) < (nl:Int):=by omega
   obtain rfl:k=nl:=by omega
   have est:l.foldl Zgr (fs,vs)=st:=by rw[<- hst.out,Yd9 (by have:=hnl.out;omega)]
   have HE:=Zaa est;have HR:=Zaa (Yda hwd (Yda hoff hsub));clear est hwd hoff hsub hNk;go_wp2
   go_ret
   rw[HE.out];exact⟨rfl,F',HR.out.1,HR.out.2.1,HR.out.2.2⟩
end Go.P
namespace Go.P
variable {w:World}
attribute [local go_sem] Yea
theorem Yb3 (w:World):Zd3 (((w.alloc (.map #[] 0)).alloc (.map #[] 0)).alloc (.cells #[.slice none 0 0,.map (some w.heap.size),.slice none 0 0,.map (some (w.heap.size+1))] 317)) (w.heap.size+2) [] [] [w.heap.size+2,w.heap.size,w.heap.size+1]:=by
 refine⟨w.heap.size,w.heap.size+1,.slice none 0 0,.slice none 0 0,[],[],Z2h w _ _ _ _,Zag.nil,Zag.nil,⟨#[],0,?_,rfl⟩,⟨#[],0,?_,rfl⟩,rfl,⟨by simp,fun _ _=>Yej _,fun k hk=>by simp at hk;simp;omega⟩⟩
 ·exact(Ydf _ _ _ (by simp;omega)).trans ((Ydf _ _ _ (by simp)).trans (World.alloc_heap_new w _))
 ·exact(Ydf _ _ _ (by simp)).trans (by have:=World.alloc_heap_new (w.alloc (.map #[] 0)) (.map #[] 0);rwa [Ydm]at this)
theorem Zpq {fv rv:Value}{J0 J1:World->Prop}
  (CT: ∀ u,Below w.heap.size w u->Zd3 u (w.heap.size+2) [] [] [w.heap.size+2,w.heap.size,w.heap.size+1]->Calls prog 188 #[.pointer (some ⟨w.heap.size+2,0,none⟩),fv] u fun e w'=>e= .returned (.bool true)/\J0 w')
  (CC: ∀ u,J0 u->Calls prog 189 #[.pointer (some ⟨w.heap.size+2,0,none⟩),rv] u fun e w'=>e= .returned (.bool true)/\J1 w'):
  Calls prog 149 #[fv,rv] w fun e w'=>e= .returned (.tuple #[.pointer (some ⟨w.heap.size+2,0,none⟩),.bool true])/\J1 w':=by
 have HT:=Zaa (CT _ ((((Ydb _ w).alloc lr _).alloc (by simp) _).alloc (by simp;omega) _) (Yb3 w));have HC:=Zaa CC;have CN:=Zaa (Zuj w);clear CT CC;refine Yfn func149 rfl ?_;simp only[ntmps149,Ydn,Ydp,Ydt,Nat.reduceAdd,Nat.reduceSub,Ydx,Ydw,Yd2,Ydz,Ydy,Ydv];go_wp2_with fail
 refine mq CN.out ?_;rintro w1 hw1;go_wp2_with fail
 refine mq HT.out ?_;rintro w2 j0;have J0':=Zaa j0;clear j0 hw1;go_wp2_with fail
 refine(HC.out _ J0'.out).mono ?_;rintro e w3 ⟨rfl,j1⟩;have J1':=Zaa j1;clear j1;go_wp2
 go_ret2
 exact⟨rfl,J1'.out⟩
theorem Zvz (hG:Zpg w){B D:Nat}(hB:B<=w.heap.size){l:List A}{pl:Option Addr}{cl:Nat}(hl:Zan 2 (Zbb B w (D+2)) pl l)(h1: ∀ a,a∈l-> ∃ t,a.terms=[t]/\Zau 0 t=0)(hl2:l.length<=50)(hlv: ∀ k,((l.take k).foldl Zgr ([],[])).2.length < 900)(hlf: ∀ k,((l.take k).foldl Zgr ([],[])).1.length < 60)(hNl: ∀ k a,l[k]?=some a->Zjf (a.name,(Zbn [] (Zby ((l.take k).foldl Zgr ([],[])).2 (a.terms.headD T0))).1) ((l.take k).foldl Zgr ([],[])).1)
  {fs:List (ByteArray×Nat)} {vs:List T} (hst:l.foldl Zgr ([],[])=(fs,vs)) {b o c:Nat} {r:R} (hR:Zb5 B w (D+2) b o r) {th t:T} {a:A} (hth:r.head.terms=[th]) (hbd:r.body=[a]) (hat:a.terms=[t]) (hgu:r.guards=[]) (hok:Zau 0 th=0/\Zau 0 t=0) {y:ByteArray} {kk:Nat} {v1 v2:List T} (e1:Zcv vs th=v1) (e2:Zcv v1 t=v2) (s1:Zby vs th=(y,kk)) (s2:Zby v1 t=(y,kk)) (hvs:vs.length < 900/\v1.length < 900/\v2.length < 900) (hy:(y.toList==[])=false/\y.size≠0) (hlen:fs.length<=2)
  {fit fit2 sN2 k0:Nat} {fx:ByteArray×Nat} (hfit:Zdy fs a.name (y,kk) (Za5 (2 ^ fs.length - 1))=fit) (hf1: ∀ k,k∈Za5 fit->k < fs.length) (ha:bits BinOp.andNot IntKind.u64 (fit:Int) ((2 ^ 0 - 1:Nat):Int)=(fit:Int)) (hn:Za5 fit=[k0]) (hfx:fs[k0]?=some fx) (hN:Zjf (r.head.name,fx.2) fs) (hsN2:bits BinOp.andNot IntKind.u64 ((2 ^ (fs.length+1) - 1:Nat):Int) ((2 ^ fs.length - 1:Nat):Int)=(sN2:Int)) (hs28:sN2 < 8) (hb2: ∀ k,k∈Za5 sN2->k < fs.length+1) (hfit2:Zdy (fs++[(r.head.name,fx.2)]) a.name (y,kk) (Za5 sN2)=fit2) (hf2: ∀ k,k∈Za5 (fit ||| fit2)->k < fs.length+1) (ha2:bits BinOp.andNot IntKind.u64 ((fit ||| fit2:Nat):Int) ((2 ^ fs.length - 1:Nat):Int)=((0:Nat):Int)):
  Calls prog 149 #[.slice pl l.length cl,.slice (some ⟨b,o,none⟩) 1 c] w fun e w'=>e= .returned (.tuple #[.pointer (some ⟨w.heap.size+2,0,none⟩),.bool true])/\ ∃ F',Zd3 w' (w.heap.size+2) (fs++[(r.head.name,fx.2)]) v2 F'/\Below w.heap.size w w'/\ ∀ i,i∈F'->w.heap.size<=i:=by
 have hg:=hG.2.2;refine Zpq (J0:=fun u=> ∃ F',Zd3 u (w.heap.size+2) fs vs F'/\Below w.heap.size w u/\ ∀ i,i∈F'->w.heap.size<=i) (fun u hu hw=>?_) fun u ⟨F',hw,hu,hF⟩=>?_
 ·have hc:=Go.W.Below.carry (hu.mono hB) lr;refine(Z5i (cl:=cl) hw (hl.carry fun _ _ _ hA=>Zbb.carry hc lr hA) (Ydc hB hu.size) (fun i hi=>by simp at hi;omega) h1 hl2 hlv hlf hNl).mono ?_;rintro e w' ⟨rfl,F',h1,h2,h3⟩;rw[hst]at h1;exact⟨rfl,F',h1,hu.trans (h2.below (fun i hi=>by simp at hi;omega) hu.size),fun i hi=>(h3 i hi).elim (fun h=>by simp at h;omega) (Ydc hu.size)⟩
 ·have hc:=Go.W.Below.carry (hu.mono hB) lr;refine(Zzz (c:=c) hw (hG.of (F:=[]) (Off.of hu) fun _ h=>(by cases h)) (fun i hi=>Ydc hg (hF i hi)) (fun i hi=>Ydc hB (hF i hi)) (Ydc hB hu.size) (Zb5.carry hc lr hR) hth hbd hat hgu hok e1 e2 s1 s2 hvs hy hlen hfit hf1 ha hn hfx hN hsN2 hs28 hb2 hfit2 hf2 ha2).mono ?_;rintro e w' ⟨rfl,F2,h1,h2,h3⟩;exact⟨rfl,F2,h1,hu.trans (h2.below hF hu.size),fun i hi=>(h3 i hi).elim (hF i) (Ydc hu.size)⟩
end Go.P
namespace Go.W
def Z3y:ByteArray:=⟨#[116,105,109,101]⟩
def Zuh:ByteArray:=⟨#[114,105,103,104,116]⟩
def Z77:ByteArray:=⟨#[109,97,121]⟩
def vX:T:= .mk 1 0 ⟨#[120]⟩ []
def vT:T:= .mk 1 0 ⟨#[116]⟩ []
def sA:T:= .mk 3 0 ⟨#[97]⟩ []
def dN (n:Int):T:= .mk 5 n ⟨#[]⟩ []
def Z2a:A:=⟨Z3y,[dN 4]⟩
def Zqe:A:=⟨Zuh,[sA]⟩
def Ycn:A:=⟨Z77,[sA]⟩
def Yad:R:=⟨⟨Z77,[vX]⟩,[⟨Zuh,[vX]⟩],[]⟩
def Z4j:R:=⟨⟨⟨#[]⟩,[]⟩,[Ycn,⟨Z3y,[vT]⟩],[⟨3,vT,dN 5⟩]⟩
def Yck:R:=⟨⟨⟨#[]⟩,[]⟩,[Ycn],[]⟩
def bkB:Bk:=⟨[Zqe],[Yad],[]⟩
def bkC:Bk:=⟨[],[],[[Z4j]]⟩
def fs2:List (ByteArray×Nat):=[(Z3y,0),(Zuh,1)]
def vs2:List T:=[dN 4,sA]
end Go.W
namespace Go.P
theorem Zwq {x y:ByteArray×Nat}(h: ∀ w,(Op.equal 321 (.agg (Zey x).toArray) (.agg (Zey y).toArray)).run prog w= .ok false w){fs:List (ByteArray×Nat)}(hf:Zjf x fs):Zjf x (y::fs):=fun z hz=>by
 rcases List.mem_cons.mp hz with rfl | hz
 ·exact h
 ·exact hf z hz
theorem Zwp (x:ByteArray×Nat):Zjf x []:=fun y hy=>by cases hy
theorem Zre {α:Type}{P:List α->Prop}{x y:α}(h0:P [])(h1:P [x])(h2:P [x,y])(k:Nat):P ([x,y].take k):=by
 match k with
 | 0=>exact h0
 | 1=>exact h1
 | k+2=>rw[Yd9 (by simp)];exact h2
theorem Zqn {w:World}(hG:Zpg w){B D:Nat}(hB:B<=w.heap.size){pl:Option Addr}{cl:Nat}(hl:Zan 2 (Zbb B w (D+2)) pl [Z2a,Zqe]){b o c:Nat}(hR:Zb5 B w (D+2) b o Yad):
  Calls prog 149 #[.slice pl 2 cl,.slice (some ⟨b,o,none⟩) 1 c] w fun e w'=>e= .returned (.tuple #[.pointer (some ⟨w.heap.size+2,0,none⟩),.bool true])/\ ∃ F',Zd3 w' (w.heap.size+2) (fs2++[(Z77,1)]) vs2 F'/\Below w.heap.size w w'/\ ∀ i,i∈F'->w.heap.size<=i:=by
 refine Zvz (fs:=fs2) (vs:=vs2) (v1:=vs2) (v2:=vs2) (y:=⟨#[120]⟩) (kk:=0) (fit:=2) (fit2:=0) (sN2:=4) (k0:=1) (fx:=(Zuh,1)) hG hB hl ?_ (by decide) ?_ ?_ ?_ (by kernel_rfl) hR rfl rfl rfl rfl ⟨by kernel_rfl,by kernel_rfl⟩ (by kernel_rfl) (by kernel_rfl) (by kernel_rfl) (by kernel_rfl) ⟨by decide,by decide,by decide⟩ ⟨by rw[Yd3];decide,by decide⟩ (by decide) (by kernel_rfl) (by decide) (by kernel_rfl) (by kernel_rfl) rfl ?_ (by kernel_rfl) (by decide) (by decide) (by kernel_rfl) (by decide) (by kernel_rfl)
 ·intro a ha;rcases List.mem_cons.mp ha with rfl | ha
  ·exact⟨_,rfl,by kernel_rfl⟩
  ·obtain rfl:=List.mem_singleton.mp ha;exact⟨_,rfl,by kernel_rfl⟩
 ·exact Zre (P:=fun l=>(l.foldl Zgr ([],[])).2.length < 900) (by decide) (by decide) (by decide)
 ·exact Zre (P:=fun l=>(l.foldl Zgr ([],[])).1.length < 60) (by decide) (by decide) (by decide)
 ·intro k a hk;match k with
  | 0=>exact Zwp _
  | 1=>
   cases hk;exact Zwq (x:=(Zuh,1)) (y:=(Z3y,0)) (fun w=>by kernel_rfl) (Zwp _)
  | k+2=>simp at hk
 ·exact Zwq (fun w=>by kernel_rfl) (Zwq (fun w=>by kernel_rfl) (Zwp _))
end Go.P
namespace Go.W
variable {s:Nat}{p:Option Addr}
theorem Zmj {α:Type}{Q:Nat->Nat->α->Prop}:Zan s Q p []:=⟨by simp,fun i x hx=>by simp at hx⟩
theorem Z4k {α:Type}{Q:Nat->Nat->α->Prop}{b o:Nat}{x:α}(h:Q b o x):Zan s Q (some ⟨b,o,none⟩) [x]:=⟨by simp,fun i y hy=>by
 cases i with
 | zero=>cases hy;exact⟨b,o,rfl,by simpa using h⟩
 | succ i=>simp at hy⟩
theorem Zmi {α:Type}{Q:Nat->Nat->α->Prop}{x:α}{l:List α}(h:Zan s Q p (x::l)): ∃ b o,p=some ⟨b,o,none⟩/\Q b o x:=by
 obtain⟨b,o,h1,h2⟩:=h.at_ 0 x rfl;exact⟨b,o,h1,by simpa using h2⟩
theorem Z5z {B B':Nat}{u v:World}(h:B<=B')(hb: ∀ k,k < B->v.heap[k]?=u.heap[k]?):Zc1 B B' u v:=⟨h,fun b o hl=>Yde (a:=⟨b,o,none⟩) (hb b hl)⟩
end Go.W
namespace Go.P
variable {u v:World}{B D:Nat}
theorem Zpg.same (h:Zpg u)(hs:u.heap.size<=v.heap.size)(hb: ∀ k,k < 23->v.heap[k]?=u.heap[k]?):Zpg v:=by
 obtain⟨⟨h0,h1,h2⟩,h3,h4⟩:=h;exact⟨⟨(Yde (hb _ (by decide))).trans h0,(Yde (hb _ (by decide))).trans h1,(Yde (hb _ (by decide))).trans h2⟩,(Yde (hb _ (by decide))).trans h3,Ydc h4 hs⟩
theorem Z92 {g t:Nat}(hg:g < B)(ht:t < B)(h1:Blk u g #[.string ⟨#[116,105,109,101]⟩,.slice (some ⟨t,0,none⟩) 1 1] 112)(h2:Blk u t #[.int .i64 5,.int .i64 4,.string ⟨#[]⟩,.slice none 0 0] 117):Zbb B u (D+2) g 0 Z2a:=
 ⟨hg,h1.two.1,by decide,_,h1.two.2.1,_,_,rfl,Yec _,Z4k ⟨ht,_,h2.four.1,h2.four.2.1,h2.four.2.2.1,h2.four.2.2.2.1,rfl,rfl,rfl,⟨by decide,by decide⟩,⟨by decide,by decide⟩,by decide,_,_,rfl,Yec _,Zmj⟩⟩
def Zrn (D:Nat) (pf:Option Addr) (nf:Nat) (pr:Option Addr) (nr n:Nat) (u:World):Prop:=nf=2/\nr=1/\Zan 2 (Zbb n u (D+2)) pf [Z2a,Zqe]/\Zan 4 (Zb5 n u (D+2)) pr [Yad]/\23<=n/\Zpg u
theorem Zrn.of {pf:Option Addr}{nf:Nat}{pr:Option Addr}{nr n n':Nat}(h:Zrn D pf nf pr nr n u)(hn:n<=n')(hs:u.heap.size<=v.heap.size)(hb: ∀ k,k < n->v.heap[k]?=u.heap[k]?):Zrn D pf nf pr nr n' v:=by
 obtain⟨h1,h2,h3,h4,h5,h6⟩:=h;have hc:=Z5z hn hb;exact⟨h1,h2,h3.carry fun _ _ _ q=>q.carry hc lr,h4.carry fun _ _ _ q=>q.carry hc lr,Ydc h5 hn,h6.same hs fun k hk=>hb k (by omega)⟩
def Two (c n m z p1 p2:Nat) (u:World):Prop:= ∃ F1 F2,Zd3 u p1 (fs2++[(Z77,1)]) vs2 F1/\Zd3 u p2 (fs2++[(Z77,1)]) vs2 F2/\(∀ i,i∈F1->c<=i/\i < n)/\ ∀ i,i∈F2->m<=i/\i < z
theorem Z1z {w:World}(hG:Zpg w)(hB:B<=w.heap.size){b o c:Nat}{fb rb kb fc rc kc:Option Addr}{cfb crb nkb ckb cfc crc nkc ckc:Nat}(k0:w.cell? ⟨b,o,none⟩=some (.slice fb 1 cfb))(k1:w.cell? ⟨b,o+1,none⟩=some (.slice rb 1 crb))(k2:w.cell? ⟨b,o+2,none⟩=some (.slice kb nkb ckb))(k3:w.cell? ⟨b,o+3,none⟩=some (.slice fc 0 cfc))(k4:w.cell? ⟨b,o+4,none⟩=some (.slice rc 0 crc))(k5:w.cell? ⟨b,o+5,none⟩=some (.slice kc nkc ckc))(hc:2<=c)(h1:Zan 2 (Zbb B w (D+2)) fb [Zqe])(h2:Zan 4 (Zb5 B w (D+2)) rb [Yad]):
  Calls prog 101 #[.slice (some ⟨b,o,none⟩) 2 c,.agg #[.int .i64 4,.slice none 0 0,.slice none 0 0]] w fun e w'=> ∃ g p1 p2 cw n m z,e= .returned (.tuple #[.slice (some ⟨g,0,none⟩) 2 cw,.bool true])/\(w'.cell? ⟨g,0,none⟩=some (.pointer (some ⟨p1,0,none⟩))/\w'.cell? ⟨g,1,none⟩=some (.pointer (some ⟨p2,0,none⟩)))/\Two w.heap.size n m z p1 p2 w'/\n<=m/\m<=z/\(n<=g/\g < m\/z<=g)/\g < w'.heap.size/\Below w.heap.size w w':=by
 refine Zxn k0 k1 k2 k3 k4 k5 hc (J1:=fun pf nf _ pr nr _ u=>Zrn D pf nf pr nr u.heap.size u/\w.heap.size<=u.heap.size) (J2:=fun pf nf _ pr nr _ pf' nf' _ pr' nr' _ u=>(Zrn D pf nf pr nr u.heap.size u/\Zrn D pf' nf' pr' nr' u.heap.size u)/\w.heap.size<=u.heap.size) (J3:=fun pf nf _ pr nr _ p1 n u=>Zrn D pf nf pr nr n u/\ ∃ F1,Zd3 u p1 (fs2++[(Z77,1)]) vs2 F1/\ ∀ i,i∈F1->w.heap.size<=i/\i < n) (J4:=fun p1 p2 n m z u=>Two w.heap.size n m z p1 p2 u) ?_ ?_ ?_ ?_ ?_ ?_ ?_ ?_
 ·exact fun pf nf cf pr nr cr u v ⟨h,hw⟩ hb=>⟨h.of hb.size hb.size hb.block,Ydc hw hb.size⟩
 ·intro u g t hg ht hu hb q1 q2;have hcr:=Go.W.Below.carry (hb.mono hB) (B':=w.heap.size+5) (by omega);refine(Zo2 (ra:=none) (rb:=rb) (xs:=[Z2a]) (ys:=[Zqe]) (rs:=[]) (ss:=[Yad]) hu (Z4k (Z92 hg ht q1 q2)) (h1.carry fun _ _ _ q=>q.carry hcr lr) Zmj (h2.carry fun _ _ _ q=>q.carry hcr lr) (by decide)).mono ?_;rintro e w' ⟨pf,cf,pr,cr,rfl,hv,hb'⟩;have hsz:=hb.size;have hsz':=hb'.size;have hgw:=hG.2.2;have gl: ∀ v:World,w'.heap.size<=v.heap.size->(∀ j,j < w.heap.size+5->v.heap[j]?=w'.heap[j]?)->Zpg v:=fun v hs hj=>hG.same (by omega) fun k hk=>((hj k (by omega)).trans (hb'.block k (by omega))).trans (hb.block k (by omega));refine⟨pf,_,cf,pr,_,cr,rfl,⟨⟨rfl,rfl,(hv w' lr (fun _ _=>rfl) fun _ _ _=>rfl).1,(hv w' lr (fun _ _=>rfl) fun _ _ _=>rfl).2,by omega,gl w' lr fun _ _=>rfl⟩,by omega⟩,fun k v0 v1 v2 hk hku=>?_,hb'⟩;have e3: ∀ j,j≠k->(((w'.setCell ⟨k,0,none⟩ v0).setCell ⟨k,1,none⟩ v1).setCell ⟨k,2,none⟩ v2).heap[j]?=w'.heap[j]?:=fun j hj=>(Ydg _ _ _ _ hj).trans ((Ydg _ _ _ _ hj).trans (Ydg _ _ _ _ hj));have sz:(((w'.setCell ⟨k,0,none⟩ v0).setCell ⟨k,1,none⟩ v1).setCell ⟨k,2,none⟩ v2).heap.size=w'.heap.size:=by simp[World.setCell]
  have q:=hv _ (Nat.le_of_eq sz.symm) (fun j hj=>e3 j (by omega)) fun j hj _=>e3 j (by omega);exact⟨⟨rfl,rfl,q.1,q.2,by omega,gl _ (by omega) fun j hj=>e3 j (by omega)⟩,by omega⟩
 ·rintro pf nf cf pr nr cr u ⟨⟨rfl,rfl,r1,r2,hgu,gu⟩,hw⟩;refine(Zo2 (xs:=[Z2a,Zqe]) (ys:=[]) (rs:=[Yad]) (ss:=[]) lr r1 Zmj r2 Zmj (by decide)).mono ?_;rintro e w' ⟨pf',cf',pr',cr',rfl,hv,hb'⟩;have q:=hv w' lr (fun _ _=>rfl) fun _ _ _=>rfl;have r:Zrn D pf 2 pr 1 w'.heap.size w':=Zrn.of ⟨rfl,rfl,r1,r2,hgu,gu⟩ hb'.size hb'.size hb'.block;exact⟨pf',_,cf',pr',_,cr',rfl,⟨⟨r,rfl,rfl,q.1,q.2,r.2.2.2.2.1,r.2.2.2.2.2⟩,Ydc hw hb'.size⟩,hb'⟩
 ·exact fun _ _ _ _ _ _ _ _ _ _ _ _ u v ⟨⟨h,h'⟩,hw⟩ hb=>⟨⟨h.of hb.size hb.size hb.block,h'.of hb.size hb.size hb.block⟩,Ydc hw hb.size⟩
 ·exact fun _ _ _ _ _ _ p1 n u v ⟨h,F1,hw,hF⟩ hs hb=>⟨h.of lr hs hb,F1,hw.of hs fun k hk=>hb k (hF k hk).2,hF⟩
 ·rintro p1 p2 n m z u v ⟨F1,F2,h1,h2,h3,h4⟩ hs hb;exact⟨F1,F2,h1.of hs fun k hk=>hb k (h1.lt k hk) (.inl (h3 k hk).2),h2.of hs fun k hk=>hb k (h2.lt k hk) (.inr (h4 k hk).1),h3,h4⟩
 ·rintro pf nf cf pr nr cr pf' nf' cf' pr' nr' cr' u ⟨⟨⟨rfl,rfl,r1,r2,hgu,gu⟩,r'⟩,hw⟩;obtain⟨b1,o1,rfl,hr⟩:=Zmi r2;refine(Zqn gu lr r1 hr).mono ?_;rintro e w' ⟨rfl,F',hF,hb,hge⟩;exact⟨_,rfl,⟨r'.of hb.size hb.size hb.block,F',hF,fun i hi=>⟨Ydc hw (hge i hi),hF.lt i hi⟩⟩,hb⟩
 ·rintro pf nf cf pr nr cr p1 n u hn ⟨⟨rfl,rfl,r1,r2,hgu,gu⟩,F1,h1,h3⟩;obtain⟨b1,o1,rfl,hr⟩:=Zmi r2;refine(Zqn gu hn r1 hr).mono ?_;rintro e w' ⟨rfl,F',hF,hb,hge⟩;exact⟨_,rfl,⟨F1,F',h1.of hb.size fun k hk=>hb.block k (h1.lt k hk),hF,h3,fun i hi=>⟨hge i hi,hF.lt i hi⟩⟩,hb⟩
end Go.P
