import Derived.Test.YtgnakaplmhmdcaaGreatDoorW24
import Derived.SizedLaws
import Derived.ChangeArms
import Derived.ChangeOld
import Derived.KernelRfl
import Derived.RowKit
set_option maxRecDepth 100000
set_option maxHeartbeats 8000000
set_option linter.unusedSimpArgs false
open Go.Proofs Go.RowKit Go.W
namespace Go.P
variable {v:Value}{W:World}{base fuel:Nat}{sp:Nat->Bool}{held:Bool}
section
variable {H:Type}
def Z45 (y:DataW H×List MemPlace):Int×Int×ByteArray:=match y.1 with
 | .agg [.lit (.int _ k),.lit (.int _ a),.lit (.string t)]=>(k,a,⟨t.toArray⟩)
 | _=>(0,0,⟨#[]⟩)
theorem Zsi:Tryz.prog.cellsOf 46=3:=by kernel_rfl
theorem Ybm:Tryz.prog.cellsOf 3=1:=by kernel_rfl
theorem Ya2:Tryz.prog.cellsOf 9=1:=by kernel_rfl
theorem Z8m:Tryz.prog.bytesOf 46=32:=by kernel_rfl
theorem Zvy {P:Program}{e:TypeId}{l:List (DataW H)}{d:DataW H}(h:d∈l): ∀ n,n∈d.weights P e->n∈DataW.weightsAll P e l:=by
 induction l with
 | nil=>cases h
 | cons y r ih=>
  intro n hn;simp only[DataW.weightsAll,Yc2];rcases Yc1.1 h with rfl | h
  ·exact .inl hn
  ·exact .inr (ih h n hn)
theorem Z96 {α:Type}{l:List α}(h:l.length=3): ∃ a b c,l=[a,b,c]:=by
 match l,h with
 | [a,b,c],_=>exact⟨a,b,c,rfl⟩
theorem Z18 {w:World}{a:Addr}(hc:w.cell? ((a.add (0*3)).add 0)=some v):a.spot=none:=by
 simp only[Yef,Addr.add,if_true]at hc;unfold World.cell? at hc;split at hc
 ·split at hc
  ·cases hc
  ·rename_i hh;cases hs:a.spot with
   | none=>rfl
   | some z=>rw[hs]at hh;exact absurd rfl hh
 ·cases hc
theorem Zq5 {enc:TypeId×Value->H}{cs:List Value}{y:DataW H×List MemPlace}(h:DataW.trod enc Tryz.prog W base sp held fuel 46 cs=some y):cs=[.int .i64 (Z45 y).1,.int .i64 (Z45 y).2.1,.string (Z45 y).2.2]/\(Z45 y).2.2.size∈y.1.weights Tryz.prog 46:=by
 obtain⟨xs,n,_,hy,hl,hx,hf⟩:=DataW.trod_struct Tryz.underlying46 h;rw[Zsi]at hl;obtain⟨c0,c1,c2,rfl⟩:=Z96 hl;obtain⟨x0,x1,x2,rfl⟩:=Z96 (hx.trans rfl:xs.length=3);have f0:DataW.trod enc Tryz.prog W base sp held n 3 (List.take (Tryz.prog.cellsOf 3) [c0,c1,c2])=some x0:=hf 0 _ rfl;have f1:DataW.trod enc Tryz.prog W base sp held n 3 (List.take (Tryz.prog.cellsOf 3) [c1,c2])=some x1:=hf 1 _ rfl;have f2:DataW.trod enc Tryz.prog W base sp held n 9 (List.take (Tryz.prog.cellsOf 9) [c2])=some x2:=hf 2 _ rfl;rw[Ybm]at f0 f1;rw[Ya2]at f2;obtain⟨k,e0,rfl,_⟩:=DataW.trod_int Tryz.underlying3 f0;obtain⟨a,e1,rfl,_⟩:=DataW.trod_int Tryz.underlying3 f1;obtain⟨s,e2,rfl,_⟩:=DataW.trod_string Tryz.underlying9 f2;simp at e0 e1 e2;subst hy e0 e1 e2;refine⟨rfl,?_⟩;rw[DataW.weights,Tryz.underlying46];refine DataW.weights_mem_each (j:=2) (t:=9) (d:= .lit (.string s.data.toList)) rfl rfl _ ?_;rw[DataW.weights];exact Ydt.2 (Yd7▸rfl)
theorem Zvj {enc:TypeId×Value->H}{x:DataW H×List MemPlace}(h:DataW.trod enc Tryz.prog W base sp held fuel 22 [v]=some x)(hz:(x.1.weights Tryz.prog 22).all (·<=reachBytes)=true): ∃ p c xs,v= .slice p xs.length c/\xs.length < 140737488355328/\Z6q W p xs:=by
 rcases DataW.trod_slice Tryz.underlying22 h with⟨hv,_⟩ | ⟨a,len,cap,elems,rest,n,_,hv,hx,_,_,_,hlen,hel,_,_⟩
 ·cases hv;exact⟨none,0,[],rfl,by decide,fun i x hx=>by simp at hx⟩
 cases hv;subst hx;have hr:=reachBytes_lt;simp only[DataW.weights,Tryz.underlying22,List.all_cons,List.all_append,Bool.and_eq_true,Yd6,Z8m,decide_eq_true_eq]at hz;obtain⟨hz0,hz1,_⟩:=hz;have each: ∀ i y,elems[i]?=some y->(Z45 y).2.2.size < 140737488355328/\ ∃ b o,a=⟨b,o,none⟩/\W.cell? ⟨b,o+i*3,none⟩=some (.int .i64 (Z45 y).1)/\W.cell? ⟨b,o+i*3+1,none⟩=some (.int .i64 (Z45 y).2.1)/\W.cell? ⟨b,o+i*3+2,none⟩=some (.string (Z45 y).2.2):=by
  intro i y hy;have hi:i < len:=by rw[<- hlen];exact(Yc3.1 hy).1
  have h1:=hel i hi;have h0:=hel 0 (by omega);rw[hy,Option.bind_eq_some_iff]at h1;obtain⟨cs,hcs,ht⟩:=h1;obtain⟨rfl,hw⟩:=Zq5 ht;have hsz:=Yej.1 hz1 _ (Zvy (List.mem_map.2 ⟨y,Yd8 hy,rfl⟩) _ hw);simp only[decide_eq_true_eq]at hsz;have hsp:a.spot=none:=by
   have: ∃ y0,elems[0]?=some y0:=⟨elems[0]'(by omega),Yc0 _⟩
   obtain⟨y0,hy0⟩:=this;rw[hy0,Option.bind_eq_some_iff]at h0;obtain⟨cs0,hcs0,ht0⟩:=h0;obtain⟨rfl,_⟩:=Zq5 ht0;have hc:=(World.cells?_some hcs0).2.2 0 (by rw[Zsi];omega);rw[Zsi]at hc;exact Z18 (hc.trans rfl)
  obtain⟨b,o,z⟩:=a;simp only at hsp;subst hsp;rw[Zsi]at hcs;have hc:=(World.cells?_some hcs).2.2;have ad: ∀ k,(⟨b,o,none⟩:Addr).add k=⟨b,o+k,none⟩:=fun k=>Addr.add_lit _ _ _;refine⟨by omega,b,o,rfl,?_,?_,?_⟩
  ·have:=hc 0 (by simp);rw[ad,Addr.add_lit]at this;exact this
  ·have:=hc 1 (by simp);rw[ad,Addr.add_lit]at this;exact this
  ·have:=hc 2 (by simp);rw[ad,Addr.add_lit]at this;exact this
 refine⟨some a,cap,elems.map Z45,by rw[Yd6,hlen],by rw[Yd6];omega,fun i x hx=>?_⟩;rw[Ydn]at hx;obtain⟨y,hy,rfl⟩:=Ydi.1 hx;obtain⟨h1,b,o,h2,h3⟩:=each i y hy;exact⟨h1,b,o,by rw[h2],h3⟩
end
end Go.P
