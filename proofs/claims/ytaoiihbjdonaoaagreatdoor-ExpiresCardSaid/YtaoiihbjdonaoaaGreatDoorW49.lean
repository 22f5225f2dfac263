import Derived.Test.YtaoiihbjdonaoaaGreatDoorW48
set_option maxRecDepth 100000
set_option maxHeartbeats 8000000
set_option linter.unusedSimpArgs false
open Go.Proofs Go.RowKit Go.W Tryz
namespace Go.P
theorem Ym5 {a:Nat->Addr}{w:World}{p:Option Addr}{c:Nat}{zs:List (Int×Int×ByteArray)}(V:D9)(CL:Gg)(h:rJ w p zs)(hl:zs.length<140737488355328)(G:Oq a w)(E:IL a w):Calls prog 3 #[.slice p zs.length c] w fun e w'=>e= .returned (.bool true)/\Bl w w':=by
 refine Ym7 (R:=fun w1=>Kp w.heap.size w1 zs.length/\zs.length<=65536) ⟨(Z35 (c:=c) h hl G.sent E).mono fun e w1 q=>q.imp id fun q=>⟨q.1,⟨q.2.1,q.2.2.1⟩,q.2.2.2⟩⟩ ⟨fun u hu=>Zww V CL (G.below hu) (E.below hu)⟩ ⟨fun w1 hR hb1 u hu=>?_⟩;obtain⟨pb,nb,cb,pp,np,cp,key,Aa,pr,nr,cr,bs,ps,rs,hw⟩:=hR.1.chs hR.2 hu;have bu:=hb1.trans<|hu.mono hb1.size;refine(Zt1 V CL (G.sent.below bu) (E.below bu) hw.b0 hw.k0 hw.eb hw.lb hw.hb hw.rb hw.gk).mono fun e w3 q=>⟨q.2,?_⟩;obtain⟨⟨_,rfl⟩ | ⟨x,xs,rfl,rfl⟩,hb3⟩:=q
 ·exact .inl ⟨_,_,rfl⟩
 by_cases hT:LQ key x=0/\Up (Gs key x xs)=0
 rotate_left
 ·exact .inl ⟨_,_,by rw[I8 hT]⟩
 refine .inr ⟨_,_,by rw[Nv hT],?_⟩;have hc:Gq Aa:=by have:=hw.gc;exact⟨by have:=this.1;omega,by have:=this.2;omega⟩
 have M:=(Js.of hT.1 hT.2 hw.ins).one;have m:=M.ex hc;have e1:Ig (Gs key x [])=Ji key x:=by rw[M.out,<- M.cK];rfl
 obtain⟨b,o,rfl,hx⟩:=hw.rb.get 0 zw;rw[List.getElem_cons_zero,YC,Qs]at hx;have b3:=bu.trans<|hb3.mono bu.size;have au: ∀ {ys:List Bk},Js key x ys-> ∀ v,Bl w3 v-> ∀ c,Gq c->Calls prog 8 #[.string key,.string<|Ig<|Gs key x ys,.agg #[zo c,zn,zn],.slice pp np cp] v fun e w'=>e= .returned (.tuple #[.int .i64<|IQ [] (Eu key<|(x::ys).map A7) c (x::ys) ps,zo 0])/\Bl v w':=fun{ys} k v hv c hcc=>by
  obtain⟨g,NU,Aq⟩:=k.sP;have hv3:=hb3.trans<|hv.mono hb3.size
  have:=Zyh V CL (G.below<|b3.trans<|hv.mono b3.size) hv3.size g NU Aq hcc (pq:=none) (cq:=0) (rv:=[]) (cp:=cp) (fun _ _ q=>by simp at q) zw (hw.rp.carry fun _ _ _ q=>q.carry (Bq hv3 lr) lr) hw.gp
  rw[WY,hw.ep]at this;exact this
 obtain⟨c0,c1,c2,c3,_⟩:=hw.at hb3;refine⟨b,o,nb,cb,pp,np,cp,key,Aa,x,Ig<|Gs key x [C9 Aa],_,_,by have:=hw.eb;simp at this;omega,hc,⟨c0,c1,c2,c3⟩,hx.carry (Go.W.Below.carry hb3 hb3.size) lr,fun v hv p c hr=>?_,au m,by rw[<- e1];exact au M,fun hf hr c hcc=>Yne (kC.of (M.sP.2.2 x<|List.mem_cons_self ..) (hw.ins x<|List.mem_cons_self ..) hf hr) hcc hc _ _ ps⟩
 have:=Zv1 (c:=c) V CL (l:=bl<|Ji key x) (G.sent.below hv) (E.below hv) (by rw[<- e1];exact M.sP.2.1) lr hr
 rw[WY]at this;refine this.mono fun e w' q=>⟨?_,q.2⟩;rw[q.1,show Iq (bl<|Ji key x) [C9 Aa]=Gs key x [C9 Aa]from rfl,m.out];rfl
end Go.P
