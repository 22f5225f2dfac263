import Derived.Test.YtapdphcbhfkgkaaGreatDoorW39
set_option linter.defProp false
set_option maxRecDepth 100000
set_option maxHeartbeats 8000000
set_option linter.unusedSimpArgs false
open Go.Proofs Go.RowKit Go.W Tryz
namespace Go.W
variable {rs:List R}{vs:List T}{w:World}{F:List Nat}
def Xz (st:List T×List BD) (r:R):List T×List BD:=((Jg st.1 r).1,st.2++[Qh st.1 r])
def MS (vs:List T) (rs:List R):List T×List BD:=rs.foldl Xz (vs,[])
def Z7w: ∀ (rs:List R) (st:List T×List BD),(∀ r,r∈rs->Jj r)->st.1.length+38*rs.length+100<100000->(∀ b,b∈st.2->PD st.1.length b)->st.1.length<=(rs.foldl Xz st).1.length/\(rs.foldl Xz st).1.length<=st.1.length+38*rs.length/\ ∀ b,b∈(rs.foldl Xz st).2->PD (rs.foldl Xz st).1.length b
 | [],_,_,_,h=>⟨EO _,EO _,h⟩
 | r::rs,st,hr,hl,h=>by
  rw[DU]at hl⊢;obtain⟨h1,h2,h3⟩:=(hr r zw).pQ (vs:=st.1) zx;obtain⟨i1,i2,i3⟩:=Z7w rs (Xz st r) (fun x q=>hr x (by simp[q])) (by show(Jg st.1 r).1.length+_+_<_;omega) fun b q=>by
   rcases Aj.1 q with q | q
   ·exact(h b q).mono h1
   ·rw[Bh.1 q];exact h3
  have e:(Xz st r).1=(Jg st.1 r).1:=rfl;rw[e]at i1 i2;rw[List.foldl_cons];exact⟨zx,zx,i3⟩
def Zpz (hr: ∀ r,r∈rs->Jj r)(hl:vs.length+38*rs.length+100<100000):vs.length<=(MS vs rs).1.length/\(MS vs rs).1.length<=vs.length+38*rs.length/\ ∀ b,b∈(MS vs rs).2->PD (MS vs rs).1.length b:=Z7w rs (vs,[]) hr hl fun _ h=>by cases h
def Zzw {k:Nat}{r:R}(h:rs[k]?=some r):MS vs (rs.take<|k+1)=((Jg (MS vs<|rs.take k).1 r).1,(MS vs<|rs.take k).2++[Qh (MS vs<|rs.take k).1 r]):=by
 unfold MS;rw[PM,h,List.foldl_append];rfl
def Jf:Du Nat:=fun _ vs x F=>F=[]/\vs=[zq x 0]
def Jf.stable:Ii Jf:=fun _ _ _ _ _ h _=>h
def Jf.one {vs:List Value}{x:Nat}(h:Jf w vs x F): ∀ u,u∈vs->u.oneCell'=true:=by
 obtain⟨_,rfl⟩:=h;simp[Value.oneCell']
def Jf.at_ {e:TypeId}{v:Value}{xs:List Nat}(h:AQ e 1 Jf w v xs F)(i x:Nat)(hx:xs[i]?=some x): ∃ g c,v= .slice (Qb g 0) xs.length c/\w.cell? (zm g i)=some (zq x 0):=by
 obtain⟨g,cap,cs,G,hv,_,⟨_,rfl⟩,key⟩:=AQ.nth h i x hx
 have:=key 0 _ rfl
 rw[Nat.mul_one,Qs]at this;exact⟨g,cap,hv,this⟩
end Go.W
namespace Go.P
def Yby:J3 prog 299 300 1 8:=by
 obtain⟨i0,hi,hz0,hz1,hz2⟩:=info_parts (by kernel_rfl:(prog.info? 300).map (fun i=>(i.zero,i.size,i.bytes))=some (some<|.pointer none,1,8));exact⟨i0,_,underlying299,hi,hz0,hz1,hz2,rfl,zu,zu⟩
structure VV (a:Nat->Addr) (p:Nat) (F:List Nat) (w:World) (vs:List T) (bs:List BD) (sv:Value) (fs:List Fc) (l:List BS) (Fb F':List Nat) (wr:World):Prop where
 team:MI a p fs vs F' Fb l wr
 wd:Df wr p fs vs F'
 row:AQ 300 1 Jf wr sv (l.map (·.c.q)) Fb
 new:Ag w.heap.size wr Fb
 bs:l.map (·.c.b)=bs
 mv:Mv F F' w wr
 ge: ∀ x,x∈l-> ∀ j,j∈x.own->w.heap.size<=j
section
variable {a:Nat->Addr} {p seen now:Nat} {fs fs':List Fc} {vs:List T} {F F' F1 Fb:List Nat} {l l1 l2:List BS} {x x':BS} {w wr w1:World} {sv:Value} {bs:List BD}
def VV.step (h:VV a p F w vs bs sv fs (l1++x::l2) Fb F' wr)(ht:MI a p fs' vs F1 Fb (l1++x'::l2) w1)(hw:Df w1 p fs' vs F1)(hc:x'.c=x.c)(ho:Off (x.c.q::x.c.m::(x.Fo++F')) wr w1)(hs: ∀ i,i∈F1->i∈F'\/wr.heap.size<=i)(hf: ∀ i,i∈x'.Fo->i∈x.Fo\/wr.heap.size<=i):VV a p F w vs bs sv fs' (l1++x'::l2) Fb F1 w1:=by
 have hx:=h.ge x zw;have hG: ∀ j,j∈x.c.q::x.c.m::(x.Fo++F')->j∈x.own\/j∈F':=fun j hj=>by
  unfold BS.own;simp only[Ak,Aj]at hj⊢;rcases hj with q | q | q | q
  ·exact .inl<|.inl q
  ·exact .inl<|.inr<|.inl q
  ·exact .inl<|.inr<|.inr<|.inl q
  ·exact .inr q
 have hm:=h.mv.1.size;refine⟨ht,hw,?_,h.new.later lr ho.size,?_,⟨h.mv.1.trans ho fun i hi=>(hG i hi).elim (fun q=> .inr (hx i q)) (h.mv.2 i),fun i hi=>(hs i hi).elim (h.mv.2 i) fun q=> .inr (Ab hm q)⟩,fun y hy j hj=>?_⟩
 ·have e:(l1++x'::l2).map (·.c.q)=(l1++x::l2).map (·.c.q):=by simp[hc]
  rw[e];exact AQ.stable Jf.stable _ _ _ _ _ h.row fun j hj=>ho.block j (h.new.lt j hj) fun q=>(hG j q).elim ((h.team.rest j hj).2.2 x zw) (h.team.rest j hj).2.1
 ·rw[<- h.bs];simp[hc]
 ·simp only[Aj,Ak]at hy;rcases hy with hy | rfl | hy
  ·exact h.ge y (by simp[hy]) j hj
  ·unfold BS.own at hj;rw[hc]at hj;simp only[Ak,Aj]at hj;rcases hj with q | q | q | q
   ·exact hx j (by unfold BS.own;simp[q])
   ·exact hx j (by unfold BS.own;simp[q])
   ·exact(hf j q).elim (fun q=>hx j (by unfold BS.own;simp[q]))<|Ab hm
   ·exact hx j (by unfold BS.own;simp[q])
  ·exact h.ge y (by simp[hy]) j hj
def Z1v (h:VV a p F w vs bs sv fs (l1++x::l2) Fb F' wr)(hb: ∀ b,b∈bs->PD vs.length b)(hf: ∀ f,f∈fs->MM vs.length f)(hT:FU x.c.b vs fs seen x.A x.B)(hs:seen<=now)(hn:now<=fs.length)(Fq:fs.length<=60):
  Calls prog 186 #[zq x.c.q 0,zo (seen:Int),zo (now:Int)] wr fun e w'=>e= .returned (.tuple #[])/\ ∃ x',x'.c=x.c/\VV a p F w vs bs sv fs (l1++x'::l2) Fb F' w'/\FU x.c.b vs fs now x'.A x'.B:=by
 refine(Z6s h.team (hb _ (by rw[<- h.bs];simp)) hf hT hs hn Fq).mono ?_;rintro e w1 ⟨rfl,x',hc,ht,hT',ho,zU⟩;have hwd:=(ht.each x' zw).1.wd;rw[(ht.each x' zw).2.2]at hwd;exact⟨rfl,x',hc,h.step ht hwd hc ho (fun _ q=> .inl q) zU,hT'⟩
def Zzb (h:VV a p F w vs bs sv fs (l1++x::l2) Fb F' wr)(hb: ∀ b,b∈bs->PD vs.length b)(hf: ∀ f,f∈fs->MM vs.length f)(hv:vs.length<100000)(hT:FU x.c.b vs fs now x.A x.B)(hs:seen<=now)(hn:now<=fs.length)(Fq:fs.length<=60)(hold:x.c.b.at_≠[]-> ∀ y,TG x.c.b vs (·∈fs.take seen) y->y∈fs):
  Calls prog 187 #[zq x.c.q 0,zo (seen:Int)] wr fun e w'=> ∃ r fs' F1 x',e= .returned (.bool r)/\EX (TG x.c.b vs (·∈fs.take now)) fs r fs'/\x'.c=x.c/\x'.A=x.A/\x'.B=x.B/\VV a p F w vs bs sv fs' (l1++x'::l2) Fb F1 w'/\ ∀ f,f∈fs'->MM vs.length f:=by
 have hbx:=hb x.c.b (by rw[<- h.bs];simp);refine(Z1m h.team hbx hf hv hT hs hn Fq hold).mono ?_;rintro e w1 ⟨r,fs',F1,x',rfl,ht,hc,hA,hB,yX,ho,hs1,zU⟩;have hwd:=(yX.each x' zw).1.wd;rw[(yX.each x' zw).2.2]at hwd;refine⟨r,fs',F1,x',rfl,ht,hc,hA,hB,h.step yX hwd hc ho hs1 zU,fun f q=>?_⟩;obtain⟨ad,e,had⟩:=ht.ext;rw[e]at q;rcases Aj.1 q with q | q
 ·exact hf f q
 ·exact TG.in hbx (fun g hg=>hf g (List.mem_of_mem_take hg))<|had f q
end
end Go.P
namespace Go.W
def FU.tells {b:BD}{vs:List T}{fs fs':List Fc}{now:Nat}{A:Nat->Nat}{B:Nat->Nat->Nat->Nat}{H:Fc->Prop}{r:Bool}(h:FU b vs fs now A B)(hn:now<=fs.length)(t:EX H fs r fs'):FU b vs fs' now A B:=by
 obtain⟨ad,rfl,_⟩:=t.ext;exact h.more hn
end Go.W
namespace Go.P
attribute [local go_sem] Me
def Ykd (p:Nat) (F:List Nat) (w:World) (vs:List T) (bs:List BD) (P:Fc->Prop) (e:Ending) (w':World):Prop:= ∃ r fs' F',e= .returned (.bool r)/\jX bs vs P r fs'/\(∀ f,f∈fs'->MM vs.length f)/\Df w' p fs' vs F'/\Mv F F' w w'
def Yjj (a:Nat->Addr) (p:Nat) (F:List Nat) (w:World) (vs:List T) (rs:List R) (fs:List Fc) (k:Nat) (sv:Value) (wr:World):Prop:= ∃ l Fb F',VV a p F w (MS vs<|rs.take k).1 (MS vs<|rs.take k).2 sv fs l Fb F' wr/\ ∀ x,x∈l->x.A=(fun _=>0)/\x.B=fun _ _ _=>0
def Yhx (a:Nat->Addr) (p:Nat) (F:List Nat) (w:World) (vs:List T) (bs:List BD) (P:Fc->Prop) (sv:Value) (k seen:Nat) (wr:World):Prop:= ∃ fs l Fb F',VV a p F w vs bs sv fs l Fb F' wr/\(∀ f,f∈fs->MM vs.length f)/\seen<=60/\((k<=12/\S8 bs vs P k seen fs/\ ∀ x,x∈l->FU x.c.b vs fs seen x.A x.B)\/(k=13/\jX bs vs P false fs))
def Yhp (a:Nat->Addr) (p:Nat) (F:List Nat) (w:World) (vs:List T) (bs:List BD) (sv:Value) (fs:List Fc) (seen j:Nat) (wr:World):Prop:= ∃ fs' l1 l2 Fb F',l1.length=j/\VV a p F w vs bs sv fs' (l1++l2) Fb F' wr/\(∀ f,f∈fs'->MM vs.length f)/\EX (Uj (l1.map (·.c.b)) vs (·∈fs)) fs true fs'/\(∀ x,x∈l1->FU x.c.b vs fs' fs.length x.A x.B)/\ ∀ x,x∈l2->FU x.c.b vs fs' seen x.A x.B
def Z19: ∀ (rs:List R) (st:List T×List BD),(rs.foldl Xz st).2.length=st.2.length+rs.length
 | [],_=>rfl
 | r::rs,st=>by rw[List.foldl_cons,Z19 rs];simp[Xz];omega
def Z8e {a:Nat->Addr}{w:World}{B p:Nat}{fs:List Fc}{vs:List T}{F:List Nat}(h:GA a B p fs vs F w){D c:Nat}{rs:List R}{pr:Option Addr}(hr:Ap 4 (FJ B w<|D+2) pr rs)(Aq: ∀ r,r∈rs->Jj r)(XY:rs.length<=100)(hl:vs.length<=1000)(QW:fs.Nodup):
  Calls prog 150 #[zq p 0,.slice pr rs.length c] w fun e w'=>Ykd p F w (MS vs rs).1 (MS vs rs).2 (·∈fs) e w':=by
 obtain⟨n,hn⟩: ∃ n,AF (rs.length=n):=⟨_,⟨rfl⟩⟩;rw[hn.out]at XY⊢;have HBI:=AC<|Zpz (rs:=rs) (vs:=vs) Aq (by have:=hn.out;omega);have HV:AF (∀ k,vs.length<=(MS vs<|rs.take k).1.length/\(MS vs<|rs.take k).1.length<=5000):=⟨fun k=>by
  have h1:(rs.take k).length<=rs.length:=List.length_take_le' k rs;have h2:=hn.out;obtain⟨q1,q2,_⟩:=Zpz (rs:=rs.take k) (vs:=vs) (fun r q=>Aq r (List.mem_of_mem_take q)) zx;exact⟨q1,zx⟩⟩
 have H:=AC h;have HR:=AC hr;have HO:=AC Aq;have HND:=AC QW;obtain⟨us,hus⟩: ∃ us,AF ((MS vs rs).1=us):=⟨_,⟨rfl⟩⟩;obtain⟨bs,Xe⟩: ∃ bs,AF ((MS vs rs).2=bs):=⟨_,⟨rfl⟩⟩;rw[hus.out,Xe.out]at HBI⊢;clear h hr Aq QW hl;go_in
 go_wp2
 go_loopw [14,5] (fun iv bv wr=> ∃ k,k<=n/\iv= zo ((k:Nat):Int)/\Yjj a p F w vs rs fs k bv wr) (fun iv _ _=>n-(intOf iv).toNat)
 case atStart=>exact⟨0,Eg _,rfl,[],[],F,⟨⟨fun _ h=>(by cases h),List.Pairwise.nil,fun _ h=>(by cases h)⟩,H.out.wd,AQ.nil,Ag.nil _ _,rfl,Mv.refl _ _,fun _ h=>(by cases h)⟩,fun _ h=>(by cases h)⟩
 case round=>
  obtain⟨k,hk,rfl,l,Fb,F',hW,hz⟩:=hrel;have hv:=HV.out k;by_cases hlt:k<n
  ·have g:(k:Int)<(n:Int):=zx
   obtain⟨r,hrk⟩: ∃ r,rs[k]?=some r:=⟨_,A8 (by have:=hn.out;omega)⟩;have hro:=HO.out r<|Ej hrk;obtain⟨b,o,rfl,hA⟩:=HR.out.at_ k r hrk;obtain⟨VO,pt,ct,pb,cb,pg,cg,z0,z1,z2,z3,hS⟩:=(FJ.carry (H.out.carry hW.mv) lr hA).vals;have HE:=AC<|Zzw (vs:=vs) hrk;have CB:=AC<|Z2b (H.out.next hW.wd hW.mv hv.1) hS hro zx;obtain⟨ps,Ja,rfl⟩:=AQ.form hW.row;have HW:=AC<|AJ hW hz;have Yc:(l.map (·.c.q)).length<1000000:=by
    rw[Dj,<- Dj (f:=(·.c.b)),hW.bs];have h1:=Z19 (rs.take k) (vs,[]);have h2:(rs.take k).length<=rs.length:=List.length_take_le' k rs;have h3:=hn.out;show((rs.take k).foldl Xz (vs,[])).2.length<_;simp only[JC]at h1;omega
   generalize (MS vs<|rs.take k).1=uk at*;generalize (MS vs<|rs.take k).2=bk at*;generalize zI:(l.map (·.c.q)).length=nl at*;clear hW hz hA hS hrk hro;go_wp2_with fail
   refine(CB.out _<|(AR _ wr).alloc lr _).mono ?_;rintro e w1 ⟨c,cs,F1,rfl,OU,hcb,KI,RZ,ho,hs,VN⟩;have iX:wr.heap.size+1<=w1.heap.size:=by have:=ho.size;simpa using this
   have hF'l: ∀ j,j∈F'->j<wr.heap.size:=fun j hj=>HW.out.1.wd.lt j hj;have Yv: ∀ j,j∈Fb->j<wr.heap.size/\j∉F':=fun j hj=>⟨HW.out.1.new.lt j hj,(HW.out.1.team.rest j hj).2.1⟩;have MB: ∀ i,i∈c.q::c.m::c.S->wr.heap.size+1<=i:=fun i hi=>by have:=VN i hi;simpa using this
   have hs': ∀ i,i∈F1->i∈F'\/wr.heap.size+1<=i:=fun i hi=>(hs i hi).imp id fun h=>by simpa using h
   have R1:AF (AQ 300 1 Jf w1 (.slice ps nl Ja) (l.map (·.c.q)) Fb):=⟨AQ.stable Jf.stable _ _ _ _ _ HW.out.1.row fun j hj=>(ho.block j (by have:=(Yv j hj).1;simp;omega) (Yv j hj).2).trans (Ah _ _ _ (Yv j hj).1)⟩;have N1:AF (Ag w.heap.size w1 Fb):=⟨HW.out.1.new.later lr zx⟩;have iW:=HW.out.1.mv.1.size;have XC:=AC<|AJ OU<|AJ hcb<|AJ KI<|AJ RZ<|AJ ho<|AJ hs' MB;clear OU hcb KI RZ ho hs VN MB hs' CB z0 z1 z2 z3;go_wp2_with (at_builtin;go_must (refine Nu Yby rfl (.tmp 18) (.tmp 22) rfl Jf.stable (fun _ _ _ _ h=>Jf.one h) w.heap.size (.slice ps nl Ja) (l.map (·.c.q)) Fb rfl (AQ.stable Jf.stable _ _ _ _ _ R1.out fun j hj=>Ah _ _ _ (N1.out.lt j hj)) w1.heap.size #[zq c.q 0] 300 (0,0) c.q [] rfl (Hw _ _) rfl ⟨rfl,rfl⟩ zx (by simp;omega) (N1.out.later lr zw) (Ag.nil _ _) (fun _ _ h=>by cases h) ?_);intro g1 UV w2 iO AM;have IZ:=AC AM)
   clear AM;have hz2:w1.heap.size+1<=w2.heap.size:=by have:=IZ.out.size;simpa using this
   have Gy: ∀ j,j<w1.heap.size->j∉Fb->w2.heap[j]?=w1.heap[j]?:=fun j hj hn=>(IZ.out.same j (by simp;omega) hn).trans (Ah _ _ _ hj);have O2:Off Fb w1 w2:=⟨IZ.out.os,IZ.out.tape,IZ.out.output,zx,Gy⟩;obtain⟨OU,hcb,KI,RZ,ho,hs,VN⟩:=XC.out;obtain⟨hW,hz⟩:=HW.out;have Ba:=(AR wr.heap.size wr).alloc lr<|.cells #[.string r.head.name,.slice pt r.head.terms.length ct,.slice pb r.body.length cb,.slice pg r.guards.length cg] 54;have T1:=(hW.team.below Ba).world (by rw[<- OU];exact KI.wd) ho fun i hi=>(hs i hi).imp id zw;obtain⟨x,hx⟩: ∃ x:BS,x=⟨c,cs,zn,[],fun _=>0,fun _ _ _=>0⟩:=⟨_,rfl⟩;have xo: ∀ j,j∈x.own->wr.heap.size+1<=j:=fun j hj=>VN j (by rw[hx]at hj;simpa[BS.own]using hj);have oC:Ctx a x.c x.cs fs (Jg uk r).1 F1 [] x.ov x.Fo w1:=by rw[hx];exact KI
   have T2:=T1.snoc (x:=x) oC (by rw[hx];exact RZ) (by rw[hx];exact OU) (fun y hy j hj q=>by have h1:=Z92 (hW.team.each y hy).1 hj;have h2:=xo j q;omega) (X':=Fb) fun j hj=>⟨(T1.rest j hj).1,(T1.rest j hj).2.1,fun q=>by have h1:=xo j q;have h2:=(Yv j hj).1;omega,(T1.rest j hj).2.2⟩;have uB:=H.out.gl.most;have T3:=T2.off (X':=iO) O2 (fun j hj=>⟨Ab uB<|N1.out.ge j hj,(T2.rest j hj).2⟩) fun j hj=>by
    rcases IZ.out.sub j hj with q | q | q
    ·exact⟨IZ.out.new.lt j hj,(T2.rest j q).2⟩
    ·cases q
    ·have q':w1.heap.size+1<=j:=by simpa using q
     exact⟨IZ.out.new.lt j hj,fun q2=>by have:=KI.wd.lt j q2;omega,fun y hy q2=>by have:=Z92 (T2.each y hy).1 q2;omega⟩
   have M1:Mv F F1 w w1:=hW.mv.trans<|(Mv.below Ba).trans ⟨ho,fun i hi=>(hs i hi).imp id zw⟩;refine⟨⟨k+1,zx,zw,l++[x],iO,F1,?_,fun y hy=>?_⟩,by simp[intOf];omega⟩
   ·rw[HE.out];refine⟨T3,?_,?_,IZ.out.new,?_,⟨M1.1.trans O2 fun i hi=> .inr (N1.out.ge i hi),M1.2⟩,fun y hy j hj=>?_⟩
    ·rw[<- OU];exact KI.wd.off O2 fun j hj q=>(T2.rest j q).2.1 hj
    ·have:=IZ.out.row
     rw[List.map_append,List.map_cons,List.map_nil,hx,<- zI];exact this
    ·rw[List.map_append,hW.bs,List.map_cons,List.map_nil,hx,hcb]
    ·rcases Aj.1 hy with hy | hy
     ·exact hW.ge y hy j hj
     ·rw[Bh.1 hy]at hj
      have:=xo j hj
      omega
   ·rcases Aj.1 hy with hy | hy
    ·exact hz y hy
    ·rw[Bh.1 hy,hx];exact⟨rfl,rfl⟩
  ·obtain rfl:k=n:=zx
   rw[U0 (by have:=hn.out;omega),hus.out]at hW hv;rw[Xe.out]at hW;have R0:AF (Yhx a p F w us bs (·∈fs) u5 0 0 wr):=⟨fs,l,Fb,F',hW,fun f q=>(H.out.inn f q).mono hv.1,zx,.inl ⟨zx,S8.zero HND.out H.out.PR,fun x hx=>by
    rw[(hz x hx).1,(hz x hx).2];exact FU.zero _ _ _⟩⟩
   obtain⟨ps,Ja,rfl⟩:=AQ.form hW.row;have hnbl:=AQ.len hW.row;clear hW hz;go_wp2_with fail
   generalize (l.map (·.c.q)).length=nb at*;have HB:AF (∀ b,b∈bs->PD us.length b):=⟨HBI.out.2.2⟩;have mV:=hv.2;clear HBI HV HO HR HND hv;go_loopw [25,8] (fun iv sv wr=> ∃ k seen:Nat,k<=13/\iv= zo (k:Int)/\sv= zo (seen:Int)/\Yhx a p F w us bs (·∈fs) (.slice ps nb Ja) k seen wr) (fun iv _ _=>13-(intOf iv).toNat)
   case atStart=>exact⟨0,0,zx,rfl,rfl,R0.out⟩
   case round=>
    obtain⟨j,seen,hj,rfl,rfl,D6,l1,Fb1,F1,hW,jC,hs60,hR⟩:=hrel;by_cases hj13:j<13
    ·have g:(j:Int)<13:=zx
     obtain⟨hj12,hRn,hTn⟩:j<=12/\S8 bs us (·∈fs) j seen D6/\ ∀ x,x∈l1->FU x.c.b us D6 seen x.A x.B:=hR.elim id fun q=>zx
     obtain⟨pf,cf,p0⟩: ∃ pf cf,wr.cell? (zm p 0)=some (.slice pf D6.length cf):=by
      obtain⟨k',r',fv,vv,Ff,Fv,hw⟩:=hW.wd;obtain⟨pf,cf,rfl⟩:=AQ.form hw.facts;exact⟨pf,cf,hw.blk.four.1⟩
     have I0:AF (Yhp a p F w us bs (.slice ps nb Ja) D6 seen 0 wr):=⟨D6,[],l1,Fb1,F1,rfl,hW,jC,EX.nil D6 (fun x ⟨b,hb,_⟩=>by cases hb),fun _ h=>(by cases h),hTn⟩;have XK:=AC hRn;clear hR hRn hTn hW jC;go_wp2
     go_loopw [34] (fun iv wr=> ∃ i:Nat,i<=nb/\iv= zo (i:Int)/\Yhp a p F w us bs (.slice ps nb Ja) D6 seen i wr) (fun iv _=>nb-(intOf iv).toNat)
     case atStart=>exact⟨0,Eg _,rfl,I0.out⟩
     case round=>
      clear p0;obtain⟨i,hi,rfl,MG,m1,m2,iO,F2,NP,hW2,MC,E5,Im,Pv⟩:=hrel;obtain⟨ad,UN,had⟩:=E5.ext;have Kv:MG.take D6.length=D6:=by rw[UN];exact List.take_left' rfl
      have RL:D6.length<=MG.length:=by rw[UN,JS];omega
      have Fq:=E5.len XK.out.len;have RI:(m1++m2).length=nb:=by
       obtain⟨p',c',e⟩:=AQ.form hW2.row;injection e with _ e _;rw[e,Dj]
      by_cases hlt:i<nb
      ·have g2:(i:Int)<(nb:Int):=zx
       cases m2 with
       | nil=>rw[List.append_nil]at RI;omega
       | cons x m2=>
       obtain⟨gr,cr,e,y0⟩:=Jf.at_ hW2.row i x.c.q (by rw[FK,PL zx,NP,Nat.sub_self];rfl);injection e with e1 e2 e3;subst e1;subst e3;clear e2;have CL:=AC<|Z1v hW2 HB.out MC (Pv x zw) XK.out.le RL Fq;have CF:AF (∀ u x1,x1.c=x.c->VV a p F w us bs (.slice (Qb gr 0) nb Ja) MG (m1++x1::m2) iO F2 u->FU x.c.b us MG D6.length x1.A x1.B->Calls prog 187 #[zq x.c.q 0,zo (seen:Int)] u fun e w'=> ∃ r fs' F' x',e= .returned (.bool r)/\EX (TG x.c.b us (·∈D6)) MG r fs'/\x'.c=x.c/\x'.A=x1.A/\x'.B=x1.B/\VV a p F w us bs (.slice (Qb gr 0) nb Ja) fs' (m1++x'::m2) iO F' w'/\ ∀ f,f∈fs'->MM us.length f):=⟨fun u x1 hc hWu hTu=>by
        have hxb:x1.c.b∈bs:=by rw[<- hWu.bs];simp
        have:=Zzb (seen:=seen) hWu HB.out MC zx (by rw[hc];exact hTu) XK.out.le RL Fq fun h0 y hy=>by
         have e:MG.take seen=D6.take seen:=by rw[UN,List.take_append_of_le_length XK.out.le]
         rw[e]at hy;rw[UN];exact Md _<|XK.out.old _ hxb h0 y hy
        rw[Kv,hc]at this;exact this⟩
       have HS:=AC<|AJ NP<|AJ MC<|AJ E5<|AJ Im<|AJ Pv<|AJ RL hW2.bs;clear hW2 MC E5 Im Pv UN had Kv NP RI;go_wp2_with fail
       refine CL.out.mono ?_;rintro e w1 ⟨rfl,x1,hx1,hW3,eD⟩;have CF1:=AC<|CF.out w1 x1 hx1 hW3 eD;have T3:=AC eD;clear CL CF y0 hx1 hW3 eD;go_wp2_with fail
       refine CF1.out.mono ?_;rintro e w2 ⟨r,fs3,F3,x2,rfl,RF,hx2,Yw,Io,Eh,UO⟩;have H4:=AC<|AJ RF<|AJ hx2<|AJ Yw<|AJ Io<|AJ Eh UO;clear RF hx2 Yw Io Eh UO CF1;cases r with
       | false=>
        go_wp2
        go_ret
        obtain⟨RF,hx2,_,_,Eh,UO⟩:=H4.out;obtain⟨_,_,E5,_,_,_,Xe⟩:=HS.out;refine⟨false,fs3,F3,rfl,XK.out.full hj12 ((E5.seq RF (J:=fun y=>Uj (m1.map (·.c.b)) us (·∈D6) y\/TG x.c.b us (·∈D6) y) fun _=>Iff.rfl).stop fun y hy=>?_),UO,Eh.wd,Eh.mv⟩;rcases hy with⟨b',hb',q⟩ | q
        ·exact⟨b',by rw[<- Xe,List.map_append];exact Md _ hb',q⟩
        ·exact⟨_,by rw[<- Xe];simp,q⟩
       | true=>
        go_wp2_with fail
        obtain⟨RF,hx2,Yw,Io,Eh,UO⟩:=H4.out;obtain⟨NP,_,E5,Im,Pv,RL,Xe⟩:=HS.out;go_roundw
        case measure=>simp[intOf];omega
        refine⟨i+1,zx,zw,fs3,m1++[x2],m2,iO,F3,by simp[NP],by rw[JB];exact Eh,UO,E5.seq RF fun y=>?_,fun z hz=>?_,fun z hz=>(Pv z (by simp[hz])).tells (Ab XK.out.le RL) RF⟩
        ·rw[List.map_append,List.map_cons,List.map_nil,hx2];constructor
         ·rintro⟨b',hb',q⟩;rcases Aj.1 hb' with hb' | hb'
          ·exact .inl ⟨b',hb',q⟩
          ·rw[Bh.1 hb']at q;exact .inr q
         ·rintro(⟨b',hb',q⟩ | q)
          ·exact⟨b',Md _ hb',q⟩
          ·exact⟨_,Vq _ zw,q⟩
        ·rcases Aj.1 hz with hz | hz
         ·exact(Im z hz).tells RL RF
         ·rw[Bh.1 hz,hx2,Yw,Io];exact T3.out.tells RL RF
      ·obtain rfl:i=nb:=zx
       have Jp:m2=[]:=List.length_eq_zero_iff.1 (by rw[JS]at RI;omega);subst Jp;rw[List.append_nil]at hW2 RI;rw[hW2.bs]at E5;obtain⟨pf2,cf2,p0⟩: ∃ pf cf,wr.cell? (zm p 0)=some (.slice pf MG.length cf):=by
        obtain⟨k',r',fv,vv,Ff,Fv,hw⟩:=hW2.wd;obtain⟨pf,cf,rfl⟩:=AQ.form hw.facts;exact⟨pf,cf,hw.blk.four.1⟩
       have HS:=AC<|AJ hW2<|AJ MC<|AJ E5 Im;have h61:=XK.out.len;clear hW2 MC E5 Im Pv UN had Kv NP RI;by_cases hlen:MG.length=D6.length
       ·have gl:((MG.length:Int)==(D6.length:Int))=true:=by rw[DR];omega
        have HL:=AC hlen;clear hlen;go_wp2
        go_ret
        obtain⟨hW2,MC,E5,_⟩:=HS.out;exact⟨true,MG,F2,rfl,XK.out.done hj12 E5 HL.out,MC,hW2.wd,hW2.mv⟩
       ·have gl:((MG.length:Int)==(D6.length:Int))=false:=by rw[BJ];omega
        have HL:=AC hlen;clear hlen;go_wp2_with fail
        obtain⟨hW2,MC,E5,Im⟩:=HS.out;go_roundw
        case measure=>simp[intOf];omega
        refine⟨j+1,D6.length,zx,zw,rfl,MG,m1,iO,F2,hW2,MC,zx,?_⟩;by_cases Am:j+1<=12
        ·exact .inl ⟨Am,XK.out.next E5,Im⟩
        ·obtain rfl:j=12:=zx
         exact .inr ⟨rfl,XK.out.over E5 HL.out⟩
    ·obtain rfl:j=13:=zx
     have Ox:jX bs us (·∈fs) false D6:=hR.elim (fun q=>zx) fun q=>q.2;have HS:=AC<|AJ hW<|AJ jC Ox;clear hW jC Ox hR;go_wp2
     go_ret
     exact⟨false,D6,F1,rfl,HS.out.2.2,HS.out.2.1,HS.out.1.wd,HS.out.1.mv⟩
end Go.P
namespace Go.W
def Va (l:List A):List Fc×List T:=l.foldl QC ([],[])
def Vb (l:List A) (rs:List R):List T×List BD:=MS (Va l).2 rs
def kR (l:List A) (rs:List R):Prop:=Yhy (Vb l rs).2 (Vb l rs).1 (·∈(Va l).1)
def Uc (l:List A) (rs:List R):Fc->Prop:=Fn (Vb l rs).2 (Vb l rs).1 (·∈(Va l).1) 12
def Ya8 {l:List A}(h: ∀ a,a∈l->Rz a)(hl:l.length<=60):Uf l.length (Va l):=by
 have:=Uf.all l 0 ([],[]) ⟨zw,fun _ q=>(by cases q),EO _,Eg _⟩ zx h
 rwa [Gx]at this
end Go.W
namespace Go.P
attribute [local go_sem] Me
def Yi7 (w:World):Df (((w.alloc<|.map #[] 0).alloc<|.map #[] 0).alloc<|.cells #[zn,.map<|some w.heap.size,zn,.map<|some<|w.heap.size+1] 287) (w.heap.size+2) [] [] [w.heap.size+2,w.heap.size,w.heap.size+1]:=by
 refine⟨w.heap.size,w.heap.size+1,zn,zn,[],[],bU w _ _ _ _,AQ.nil,AQ.nil,⟨#[],0,?_,rfl⟩,⟨#[],0,?_,rfl⟩,rfl,⟨zw,fun _ _=>Eg _,fun k hk=>by simp at hk;simp;omega⟩⟩
 ·exact(Ah _ _ _ (by simp;omega)).trans<|(Ah _ _ _ zw).trans<|World.alloc_heap_new w _
 ·exact(Ah _ _ _ zw).trans (by have:=World.alloc_heap_new (w.alloc<|.map #[] 0)<|.map #[] 0;rwa [EV]at this)
def CwP (a:Nat->Addr) (B:Nat) (l:List A) (rs:List R) (w:World) (e:Ending) (w':World):Prop:= ∃ p r fs F,e= .returned (.tuple #[zq p 0,.bool r])/\(r=true↔kR l rs)/\(r=true-> ∀ x,x∈fs↔Uc l rs x)/\GA a B p fs (Vb l rs).1 F w'/\Bl w w'/\(∀ i,i∈F->w.heap.size<=i)/\(Vb l rs).1.length<=5000
def Zqb {a:Nat->Addr}{w:World}(hG:Oq a w){B D:Nat}(hB:B<=w.heap.size){l:List A}{rs:List R}{pl pr:Option Addr}{cl cr:Nat}(hl:Ap 2 (Ep B w<|D+2) pl l)(Xc: ∀ x,x∈l->Rz x)(hl6:l.length<=60)(hr:Ap 4 (FJ B w<|D+2) pr rs)(hro: ∀ r,r∈rs->Jj r)(XY:rs.length<=100):
  Calls prog 101 #[.slice pl l.length cl,.slice pr rs.length cr] w fun e w'=>CwP a B l rs w e w':=by
 have RE:=Ya8 Xc hl6;have WH:=Zpz (rs:=rs) (vs:=(Va l).2) hro (by have:=RE.vals;omega);have hg:=hG.most;obtain⟨W3,hW3⟩: ∃ W3,((w.alloc<|.map #[] 0).alloc<|.map #[] 0).alloc (.cells #[zn,.map<|some w.heap.size,zn,.map<|some<|w.heap.size+1] 287)=W3:=⟨_,rfl⟩;have B3:Bl w W3:=hW3▸(((AR _ w).alloc lr _).alloc zw _).alloc (by simp;omega) _;have N3:=Yi7 w;rw[hW3]at N3;have h3: ∀ i,i∈[w.heap.size+2,w.heap.size,w.heap.size+1]->w.heap.size<=i:=fun i hi=>by simp at hi;omega
 have HT:=AC<|Ybb (cl:=cl) N3 (hl.carry fun _ _ _ q=>Ep.carry (Bq B3 hB) lr q) (Ab hB B3.size) (fun i hi=>Ab hB (h3 i hi)) Xc hl6;have HC:AF (∀ u F',Df u (w.heap.size+2) (Va l).1 (Va l).2 F'->Mv [w.heap.size+2,w.heap.size,w.heap.size+1] F' W3 u->Calls prog 150 #[zq (w.heap.size+2) 0,.slice pr rs.length cr] u fun e w'=> ∃ r fs F,e= .returned (.bool r)/\(r=true↔kR l rs)/\(r=true-> ∀ x,x∈fs↔Uc l rs x)/\GA a B (w.heap.size+2) fs (Vb l rs).1 F w'/\Bl w w'/\ ∀ i,i∈F->w.heap.size<=i):=⟨fun u F' hw hm=>by
  have bu:Bl w u:=B3.trans<|hm.1.below h3 B3.size;have jH: ∀ i,i∈F'->w.heap.size<=i:=fun i hi=>(hm.2 i hi).elim (h3 i) (Ab B3.size);have Ci:GA a B (w.heap.size+2) (Va l).1 (Va l).2 F' u:=⟨hw,hG.of (F:=[]) (Off.of bu) fun _ h=>(by cases h),fun i hi=>Ab hg (jH i hi),Ab hB bu.size,fun i hi=>Ab hB (jH i hi),by have:=RE.len;omega,RE.ok⟩;refine(Z8e (c:=cr) Ci (hr.carry fun _ _ _ q=>FJ.carry (Bq bu hB) lr q) hro XY (by have:=RE.vals;omega) RE.nd).mono ?_;rintro e w' ⟨r,fs',F1,rfl,Ox,jC,BI,NP⟩;have b1:Bl w w':=bu.trans<|NP.1.below jH bu.size;have Ky: ∀ i,i∈F1->w.heap.size<=i:=fun i hi=>(NP.2 i hi).elim (jH i) (Ab bu.size);exact⟨r,fs',F1,rfl,Ox.room,Ox.all,⟨BI,hG.of (F:=[]) (Off.of b1) fun _ h=>(by cases h),fun i hi=>Ab hg (Ky i hi),Ab hB b1.size,fun i hi=>Ab hB (Ky i hi),Ox.len,jC⟩,b1,Ky⟩⟩
 have CN:=AC<|Zyb w;have HV:AF ((Vb l rs).1.length<=5000):=⟨by have:=RE.vals;have:=WH.2.1;show(MS (Va l).2 rs).1.length<=_;omega⟩;rw[show l.foldl QC ([],[])=Va l from rfl]at HT;clear RE WH hl Xc hr hro N3 B3 h3 hG;unfold CwP;generalize l.length=nl at*;generalize rs.length=nr at*;go_in
 go_wp2_with fail
 refine mq CN.out ?_;rintro w1 BI;rw[hW3]at BI;subst BI;go_wp2_with fail
 refine HT.out.mono ?_;rintro e w2 ⟨rfl,F2,h2,o2,s2⟩;have H2:=AC<|AJ h2<|AJ o2 s2;clear h2 o2 s2 HT;go_wp2_with fail
 refine(HC.out w2 F2 H2.out.1 H2.out.2).mono ?_;rintro e w3 ⟨r,fs,F,rfl,hf⟩;have H3:=AC hf;clear hf;go_wp2
 go_ret2
 obtain⟨q1,q2,q3,q4,q5⟩:=H3.out;exact⟨_,r,fs,F,rfl,q1,q2,q3,q4,q5,HV.out⟩
end Go.P
namespace Go.W
variable {Aa:Int}{bs:List Bk}{ps:List Dk}{b:Bk}
def rF (Aa:Int):A:=⟨⟨#[116,105,109,101]⟩,[.mk 5 Aa ⟨#[]⟩ []]⟩
abbrev Sd:=List A×List R
def Ec (Aa:Int) (b:Bk):Sd:=(rF Aa::b.facts,b.rules)
def rY (s:Sd) (b:Bk):Sd:=(s.1++b.facts,s.2++b.rules)
def JL (Aa:Int):List Bk->List Sd
 | []=>[]
 | b::bs=>Ec Aa b::bs.map (rY<|Ec Aa b)
noncomputable def okW (y:Sd) (cs:List (List R)):Bool×List T:=Su (Uc y.1 y.2) (Vb y.1 y.2).1 cs
noncomputable def pR (y:Sd) (cs:List (List R)) (ps:List Dk):Bool:=(ZL (Uc y.1 y.2) (okW y cs).2 ps).1
def ZH (Aa:Int) (bs:List Bk):Prop:= ∀ y,y∈JL Aa bs->kR y.1 y.2
def fG (Aa:Int) (bs:List Bk):Prop:= ∀ z,z∈(JL Aa bs).zip bs->(okW z.1 z.2.checks).1=true
def jY (Aa:Int) (bs:List Bk) (ps:List Dk):Prop:= ∃ b l,bs=b::l/\pR (Ec Aa b) b.checks ps=true
open Classical in
noncomputable def Ux (Aa:Int) (bs:List Bk) (ps:List Dk):Int:=if ZH Aa bs then if fG Aa bs/\jY Aa bs ps then 6 else 5 else 4
def wG:Ux Aa bs ps=6↔ZH Aa bs/\fG Aa bs/\jY Aa bs ps:=by
 unfold Ux;split
 ·split
  ·rename_i h1 h2;exact⟨fun _=>⟨h1,h2⟩,fun _=>rfl⟩
  ·rename_i h1 h2;exact⟨fun q=>absurd q zu,fun q=>absurd q.2 h2⟩
 ·rename_i h1;exact⟨fun q=>absurd q zu,fun q=>absurd q.1 h1⟩
def Zz8 (h:Ux Aa (b::bs) ps=6):Ux Aa [b] ps=6:=by
 obtain⟨h1,h2,b',l,e,h3⟩:=wG.1 h;injection e with e1 e2;subst e1;refine wG.2 ⟨fun y hy=>h1 y ?_,fun z hz=>h2 z ?_,b,[],rfl,h3⟩
 ·simp only[JL,List.map_nil,Bh]at hy;rw[hy];simp[JL]
 ·simp only[JL,List.map_nil,List.zip_cons_cons,List.zip_nil_right,Bh]at hz;rw[hz];simp[JL]
def Z41:Ux Aa (b::bs++[⟨[],[],[]⟩]) ps=Ux Aa (b::bs) ps:=by
 have e0:rY (Ec Aa b) ⟨[],[],[]⟩=Ec Aa b:=by simp[rY]
 have e1:JL Aa (b::bs++[⟨[],[],[]⟩])=JL Aa (b::bs)++[Ec Aa b]:=by
  rw[EC];simp only[JL,List.map_append,List.map_cons,List.map_nil,e0,EC]
 have hl:(JL Aa<|b::bs).length=(b::bs).length:=by simp[JL]
 have r:ZH Aa (b::bs++[⟨[],[],[]⟩])↔ZH Aa (b::bs):=by
  unfold ZH;rw[e1];refine⟨fun h y hy=>h y (Md _ hy),fun h y hy=>?_⟩;rcases Aj.1 hy with hy | hy
  ·exact h y hy
  ·rw[Bh.1 hy];exact h _ (by simp[JL])
 have p:fG Aa (b::bs++[⟨[],[],[]⟩])↔fG Aa (b::bs):=by
  unfold fG;rw[e1,List.zip_append hl];refine⟨fun h z hz=>h z (Md _ hz),fun h z hz=>?_⟩;rcases Aj.1 hz with hz | hz
  ·exact h z hz
  ·simp only[List.zip_cons_cons,List.zip_nil_right,Bh]at hz;rw[hz];rfl
 have a:jY Aa (b::bs++[⟨[],[],[]⟩]) ps↔jY Aa (b::bs) ps:=by
  unfold jY;constructor
  ·rintro⟨b',l,e,h⟩;rw[EC]at e;injection e with e1 _;subst e1;exact⟨b,bs,rfl,h⟩
  ·rintro⟨b',l,e,h⟩;injection e with e1 _;subst e1;exact⟨b,_,rfl,h⟩
 unfold Ux;rw[propext r,propext p,propext a]
end Go.W
