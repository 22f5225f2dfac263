import Derived.Test.YtmebjfclpalmaaaGreatDoorW24
set_option maxRecDepth 100000
set_option maxHeartbeats 8000000
set_option linter.unusedSimpArgs false
open Go.Proofs Go.RowKit Go.W Tryz
namespace Go.W
theorem Zhi.vals {ty:Tys}{d:Nat}{w:World}{vs:List Value}{F:List Nat}{x:Pol}(h:Zhi ty d w vs x F): ∃ p c,vs=[.bool x.allow,.slice p x.either.length c]:=by
 obtain⟨v,rfl,h⟩:=h;obtain⟨p,c,rfl⟩:=Zag.form h;exact⟨p,c,rfl⟩
structure Z5k {α:Type} (e:TypeId) (s:Nat) (Q:Zgj α) (B:Nat) (w w1:World) (F G:List Nat) (v:Value) (ys:List α) (F':List Nat):Prop where
 row:Zag e s Q w1 v ys F'
 new:Za7 B w1 F'
 sub: ∀ k,k∈F'->k∈F\/k∈G\/w.heap.size<=k
 os:w1.os=w.os
 tape:w1.tape=w.tape
 output:w1.output=w.output
 size:w.heap.size<=w1.heap.size
 same: ∀ k,k < w.heap.size->k∉F->w1.heap[k]?=w.heap[k]?
end Go.W
namespace Go.P
variable {d B m k c:Nat}{a:Nat->Addr}{w:World}{p:Option Addr}{vs:List Value}{F F2:List Nat}
theorem Zwk {xs:List T}{x:T}(Z:Zao a w)(hR:Zag 117 4 (Za3 Zad (d+1)) w (.slice p xs.length c) xs F)(hQ:Za3 Zad (d+1) w vs x F2)(hB:B<=w.heap.size)(hN:Za7 B w F)(hN2:Za7 B w F2)(hD: ∀ j,j∈F->j∉F2)(hm:m < 1000)(hl:xs.length<=m):
  Calls prog 236 #[.slice p xs.length c,.agg vs.toArray,.int .i64 (m:Int),.int .i64 (k:Int)] w fun e w'=>(xs.length=m/\Zfv a 4 k w.heap.size e w'/\Below w.heap.size w w')\/(xs.length≠m/\ ∃ p' c' F',e= .returned (.slice p' (xs.length+1) c')/\Z5k 117 4 (Za3 Zad (d+1)) B w w' F F2 (.slice p' (xs.length+1) c') (xs++[x]) F'):=by
 obtain⟨p1,c1,rfl⟩:=Za3.vals hQ;have H:=Zaa (Yda hR (Yda hQ (Yda hN hN2)));have HD:=Zaa hD;have z4:=fun o=>Zab Z.c4 ((Ydb _ w).alloc lr o);have CS:=Zaa (fun u=>Ze3 a (n:=4) (by decide) k u);obtain⟨n,hn⟩: ∃ n,xs.length=n:=⟨_,rfl⟩;have HX:=Zaa hn;rw[hn];clear hR hQ hN hN2 hD Z;go_in
 by_cases hnm:n=m
 ·have g1:((n:Int)==(m:Int))=true:=by rw[Yfb];omega
  have E:=Zaa hnm;clear hnm hn;go_wp2_with fail
  refine(CS.out _).mono ?_;rintro e w2 ⟨⟨L,hL,rfl,hB2⟩,hb⟩;exact⟨rfl,Or.inl ⟨E.out,⟨L,by simp at hL;omega,rfl,hB2⟩,((Ydb _ w).alloc lr _).trans (hb.mono (by simp))⟩⟩
 ·have g1:((n:Int)==(m:Int))=false:=by rw[Ye4];omega
  have E:=Zaa hnm;have hl1:xs.length < 100000000:=by omega
  clear hnm hn CS z4;go_wp2_with (at_builtin;go_must (refine Za9 Znx rfl (.tmp 16) (.tmp 18) rfl (Za3.stable (ty:=Zad) (d+1)) (fun _ _ _ _ h=>Za3.one h) B (.slice p n c) xs F rfl (Zag.stable (Za3.stable (ty:=Zad) (d+1)) _ _ _ _ _ (HX.out▸H.out.1) fun j hj=>(Ydf _ _ _ (by have:=H.out.2.2.1.lt j hj;simp;omega)).trans (Ydf _ _ _ (H.out.2.2.1.lt j hj))) (w.heap.size+1) #[.int .i64 x.k,.int .i64 x.i,.string x.t,.slice p1 x.l.length c1] 117 (0,0) x F2 rfl (by have:=Zaw (w.alloc (.cells #[.int .i64 x.k,.int .i64 x.i,.string x.t,.slice p1 x.l.length c1] 117)) (.cells #[.int .i64 x.k,.int .i64 x.i,.string x.t,.slice p1 x.l.length c1] 117);simpa using this) rfl (Za3.stable (ty:=Zad) (d+1) _ _ _ _ _ H.out.2.1 fun j hj=>(Ydf _ _ _ (by have:=H.out.2.2.2.lt j hj;simp;omega)).trans (Ydf _ _ _ (H.out.2.2.2.lt j hj))) hl1 (by simp;omega) (H.out.2.2.1.later lr (by simp;omega)) (H.out.2.2.2.later lr (by simp;omega)) HD.out ?_);intro g3 cap3 w4 F3 happ)
  have R4:=happ.row;rw[HX.out]at R4;try rw[HX.out]
  go_ret
  exact Or.inr ⟨E.out,_,_,F3,rfl,⟨R4,happ.new,fun j hj=>(happ.sub j hj).imp_right fun h=>h.imp_right fun h=>by simp at h;omega,happ.os,happ.tape,happ.output,by have:=happ.size;simp at this;omega,fun j hj hF=>(happ.same j (by simp;omega) hF).trans ((Ydf _ _ _ (by simp;omega)).trans (Ydf _ _ _ hj))⟩⟩
theorem Zn8 {xs:List A}{x:A}(Z:Zao a w)(hR:Zag 112 2 (Zbk Zad (d)) w (.slice p xs.length c) xs F)(hQ:Zbk Zad (d) w vs x F2)(hB:B<=w.heap.size)(hN:Za7 B w F)(hN2:Za7 B w F2)(hD: ∀ j,j∈F->j∉F2)(hm:m < 1000)(hl:xs.length<=m):
  Calls prog 134 #[.slice p xs.length c,.agg vs.toArray,.int .i64 (m:Int),.int .i64 (k:Int)] w fun e w'=>(xs.length=m/\Zfv a 4 k w.heap.size e w'/\Below w.heap.size w w')\/(xs.length≠m/\ ∃ p' c' F',e= .returned (.slice p' (xs.length+1) c')/\Z5k 112 2 (Zbk Zad (d)) B w w' F F2 (.slice p' (xs.length+1) c') (xs++[x]) F'):=by
 obtain⟨p1,c1,rfl⟩:=Zbk.vals hQ;have H:=Zaa (Yda hR (Yda hQ (Yda hN hN2)));have HD:=Zaa hD;have z4:=fun o=>Zab Z.c4 ((Ydb _ w).alloc lr o);have CS:=Zaa (fun u=>Ze3 a (n:=4) (by decide) k u);obtain⟨n,hn⟩: ∃ n,xs.length=n:=⟨_,rfl⟩;have HX:=Zaa hn;rw[hn];clear hR hQ hN hN2 hD Z;go_in
 by_cases hnm:n=m
 ·have g1:((n:Int)==(m:Int))=true:=by rw[Yfb];omega
  have E:=Zaa hnm;clear hnm hn;go_wp2_with fail
  refine(CS.out _).mono ?_;rintro e w2 ⟨⟨L,hL,rfl,hB2⟩,hb⟩;exact⟨rfl,Or.inl ⟨E.out,⟨L,by simp at hL;omega,rfl,hB2⟩,((Ydb _ w).alloc lr _).trans (hb.mono (by simp))⟩⟩
 ·have g1:((n:Int)==(m:Int))=false:=by rw[Ye4];omega
  have E:=Zaa hnm;have hl1:xs.length < 100000000:=by omega
  clear hnm hn CS z4;go_wp2_with (at_builtin;go_must (refine Za9 Zts rfl (.tmp 16) (.tmp 18) rfl (Zbk.stable (ty:=Zad) (d)) (fun _ _ _ _ h=>Zbk.one h) B (.slice p n c) xs F rfl (Zag.stable (Zbk.stable (ty:=Zad) (d)) _ _ _ _ _ (HX.out▸H.out.1) fun j hj=>(Ydf _ _ _ (by have:=H.out.2.2.1.lt j hj;simp;omega)).trans (Ydf _ _ _ (H.out.2.2.1.lt j hj))) (w.heap.size+1) #[.string x.name,.slice p1 x.terms.length c1] 112 (0,0) x F2 rfl (by have:=Zaw (w.alloc (.cells #[.string x.name,.slice p1 x.terms.length c1] 112)) (.cells #[.string x.name,.slice p1 x.terms.length c1] 112);simpa using this) rfl (Zbk.stable (ty:=Zad) (d) _ _ _ _ _ H.out.2.1 fun j hj=>(Ydf _ _ _ (by have:=H.out.2.2.2.lt j hj;simp;omega)).trans (Ydf _ _ _ (H.out.2.2.2.lt j hj))) hl1 (by simp;omega) (H.out.2.2.1.later lr (by simp;omega)) (H.out.2.2.2.later lr (by simp;omega)) HD.out ?_);intro g3 cap3 w4 F3 happ)
  have R4:=happ.row;rw[HX.out]at R4;try rw[HX.out]
  go_ret
  exact Or.inr ⟨E.out,_,_,F3,rfl,⟨R4,happ.new,fun j hj=>(happ.sub j hj).imp_right fun h=>h.imp_right fun h=>by simp at h;omega,happ.os,happ.tape,happ.output,by have:=happ.size;simp at this;omega,fun j hj hF=>(happ.same j (by simp;omega) hF).trans ((Ydf _ _ _ (by simp;omega)).trans (Ydf _ _ _ hj))⟩⟩
theorem Zuc {xs:List G}{x:G}(Z:Zao a w)(hR:Zag 119 9 (Zbr Zad (d+1)) w (.slice p xs.length c) xs F)(hQ:Zbr Zad (d+1) w vs x F2)(hB:B<=w.heap.size)(hN:Za7 B w F)(hN2:Za7 B w F2)(hD: ∀ j,j∈F->j∉F2)(hm:m < 1000)(hl:xs.length<=m):
  Calls prog 177 #[.slice p xs.length c,.agg vs.toArray,.int .i64 (m:Int),.int .i64 (k:Int)] w fun e w'=>(xs.length=m/\Zfv a 4 k w.heap.size e w'/\Below w.heap.size w w')\/(xs.length≠m/\ ∃ p' c' F',e= .returned (.slice p' (xs.length+1) c')/\Z5k 119 9 (Zbr Zad (d+1)) B w w' F F2 (.slice p' (xs.length+1) c') (xs++[x]) F'):=by
 obtain⟨p1,c1,p2,c2,rfl⟩:=Zbr.vals hQ;have H:=Zaa (Yda hR (Yda hQ (Yda hN hN2)));have HD:=Zaa hD;have z4:=fun o=>Zab Z.c4 ((Ydb _ w).alloc lr o);have CS:=Zaa (fun u=>Ze3 a (n:=4) (by decide) k u);obtain⟨n,hn⟩: ∃ n,xs.length=n:=⟨_,rfl⟩;have HX:=Zaa hn;rw[hn];clear hR hQ hN hN2 hD Z;go_in
 by_cases hnm:n=m
 ·have g1:((n:Int)==(m:Int))=true:=by rw[Yfb];omega
  have E:=Zaa hnm;clear hnm hn;go_wp2_with fail
  refine(CS.out _).mono ?_;rintro e w2 ⟨⟨L,hL,rfl,hB2⟩,hb⟩;exact⟨rfl,Or.inl ⟨E.out,⟨L,by simp at hL;omega,rfl,hB2⟩,((Ydb _ w).alloc lr _).trans (hb.mono (by simp))⟩⟩
 ·have g1:((n:Int)==(m:Int))=false:=by rw[Ye4];omega
  have E:=Zaa hnm;have hl1:xs.length < 100000000:=by omega
  clear hnm hn CS z4;go_wp2_with (at_builtin;go_must (refine Za9 Zqq rfl (.tmp 16) (.tmp 18) rfl (Zbr.stable (ty:=Zad) (d+1)) (fun _ _ _ _ h=>Zbr.one h) B (.slice p n c) xs F rfl (Zag.stable (Zbr.stable (ty:=Zad) (d+1)) _ _ _ _ _ (HX.out▸H.out.1) fun j hj=>(Ydf _ _ _ (by have:=H.out.2.2.1.lt j hj;simp;omega)).trans (Ydf _ _ _ (H.out.2.2.1.lt j hj))) (w.heap.size+1) #[.int .i64 x.op,.int .i64 x.a.k,.int .i64 x.a.i,.string x.a.t,.slice p1 x.a.l.length c1,.int .i64 x.b.k,.int .i64 x.b.i,.string x.b.t,.slice p2 x.b.l.length c2] 119 (0,0) x F2 rfl (by have:=Zaw (w.alloc (.cells #[.int .i64 x.op,.int .i64 x.a.k,.int .i64 x.a.i,.string x.a.t,.slice p1 x.a.l.length c1,.int .i64 x.b.k,.int .i64 x.b.i,.string x.b.t,.slice p2 x.b.l.length c2] 119)) (.cells #[.int .i64 x.op,.int .i64 x.a.k,.int .i64 x.a.i,.string x.a.t,.slice p1 x.a.l.length c1,.int .i64 x.b.k,.int .i64 x.b.i,.string x.b.t,.slice p2 x.b.l.length c2] 119);simpa using this) rfl (Zbr.stable (ty:=Zad) (d+1) _ _ _ _ _ H.out.2.1 fun j hj=>(Ydf _ _ _ (by have:=H.out.2.2.2.lt j hj;simp;omega)).trans (Ydf _ _ _ (H.out.2.2.2.lt j hj))) hl1 (by simp;omega) (H.out.2.2.1.later lr (by simp;omega)) (H.out.2.2.2.later lr (by simp;omega)) HD.out ?_);intro g3 cap3 w4 F3 happ)
  have R4:=happ.row;rw[HX.out]at R4;try rw[HX.out]
  go_ret
  exact Or.inr ⟨E.out,_,_,F3,rfl,⟨R4,happ.new,fun j hj=>(happ.sub j hj).imp_right fun h=>h.imp_right fun h=>by simp at h;omega,happ.os,happ.tape,happ.output,by have:=happ.size;simp at this;omega,fun j hj hF=>(happ.same j (by simp;omega) hF).trans ((Ydf _ _ _ (by simp;omega)).trans (Ydf _ _ _ hj))⟩⟩
theorem Zn9 {xs:List R}{x:R}(Z:Zao a w)(hR:Zag 115 4 (Zbs Zad (d)) w (.slice p xs.length c) xs F)(hQ:Zbs Zad (d) w vs x F2)(hB:B<=w.heap.size)(hN:Za7 B w F)(hN2:Za7 B w F2)(hD: ∀ j,j∈F->j∉F2)(hm:m < 1000)(hl:xs.length<=m):
  Calls prog 136 #[.slice p xs.length c,.agg vs.toArray,.int .i64 (m:Int),.int .i64 (k:Int)] w fun e w'=>(xs.length=m/\Zfv a 4 k w.heap.size e w'/\Below w.heap.size w w')\/(xs.length≠m/\ ∃ p' c' F',e= .returned (.slice p' (xs.length+1) c')/\Z5k 115 4 (Zbs Zad (d)) B w w' F F2 (.slice p' (xs.length+1) c') (xs++[x]) F'):=by
 obtain⟨p1,c1,p2,c2,p3,c3,rfl⟩:=Zbs.vals hQ;have H:=Zaa (Yda hR (Yda hQ (Yda hN hN2)));have HD:=Zaa hD;have z4:=fun o=>Zab Z.c4 ((Ydb _ w).alloc lr o);have CS:=Zaa (fun u=>Ze3 a (n:=4) (by decide) k u);obtain⟨n,hn⟩: ∃ n,xs.length=n:=⟨_,rfl⟩;have HX:=Zaa hn;rw[hn];clear hR hQ hN hN2 hD Z;go_in
 by_cases hnm:n=m
 ·have g1:((n:Int)==(m:Int))=true:=by rw[Yfb];omega
  have E:=Zaa hnm;clear hnm hn;go_wp2_with fail
  refine(CS.out _).mono ?_;rintro e w2 ⟨⟨L,hL,rfl,hB2⟩,hb⟩;exact⟨rfl,Or.inl ⟨E.out,⟨L,by simp at hL;omega,rfl,hB2⟩,((Ydb _ w).alloc lr _).trans (hb.mono (by simp))⟩⟩
 ·have g1:((n:Int)==(m:Int))=false:=by rw[Ye4];omega
  have E:=Zaa hnm;have hl1:xs.length < 100000000:=by omega
  clear hnm hn CS z4;go_wp2_with (at_builtin;go_must (refine Za9 Ztu rfl (.tmp 16) (.tmp 18) rfl (Zbs.stable (ty:=Zad) (d)) (fun _ _ _ _ h=>Zbs.one h) B (.slice p n c) xs F rfl (Zag.stable (Zbs.stable (ty:=Zad) (d)) _ _ _ _ _ (HX.out▸H.out.1) fun j hj=>(Ydf _ _ _ (by have:=H.out.2.2.1.lt j hj;simp;omega)).trans (Ydf _ _ _ (H.out.2.2.1.lt j hj))) (w.heap.size+1) #[.string x.head.name,.slice p1 x.head.terms.length c1,.slice p2 x.body.length c2,.slice p3 x.guards.length c3] 115 (0,0) x F2 rfl (by have:=Zaw (w.alloc (.cells #[.string x.head.name,.slice p1 x.head.terms.length c1,.slice p2 x.body.length c2,.slice p3 x.guards.length c3] 115)) (.cells #[.string x.head.name,.slice p1 x.head.terms.length c1,.slice p2 x.body.length c2,.slice p3 x.guards.length c3] 115);simpa using this) rfl (Zbs.stable (ty:=Zad) (d) _ _ _ _ _ H.out.2.1 fun j hj=>(Ydf _ _ _ (by have:=H.out.2.2.2.lt j hj;simp;omega)).trans (Ydf _ _ _ (H.out.2.2.2.lt j hj))) hl1 (by simp;omega) (H.out.2.2.1.later lr (by simp;omega)) (H.out.2.2.2.later lr (by simp;omega)) HD.out ?_);intro g3 cap3 w4 F3 happ)
  have R4:=happ.row;rw[HX.out]at R4;try rw[HX.out]
  go_ret
  exact Or.inr ⟨E.out,_,_,F3,rfl,⟨R4,happ.new,fun j hj=>(happ.sub j hj).imp_right fun h=>h.imp_right fun h=>by simp at h;omega,happ.os,happ.tape,happ.output,by have:=happ.size;simp at this;omega,fun j hj hF=>(happ.same j (by simp;omega) hF).trans ((Ydf _ _ _ (by simp;omega)).trans (Ydf _ _ _ hj))⟩⟩
theorem Zub {xs:List (List R)}{x:(List R)}(Z:Zao a w)(hR:Zag 72 1 (Zbw Zad (d)) w (.slice p xs.length c) xs F)(hQ:Zbw Zad (d) w vs x F2)(hB:B<=w.heap.size)(hN:Za7 B w F)(hN2:Za7 B w F2)(hD: ∀ j,j∈F->j∉F2)(hm:m < 1000)(hl:xs.length<=m):
  Calls prog 130 #[.slice p xs.length c,.agg vs.toArray,.int .i64 (m:Int),.int .i64 (k:Int)] w fun e w'=>(xs.length=m/\Zfv a 4 k w.heap.size e w'/\Below w.heap.size w w')\/(xs.length≠m/\ ∃ p' c' F',e= .returned (.slice p' (xs.length+1) c')/\Z5k 72 1 (Zbw Zad (d)) B w w' F F2 (.slice p' (xs.length+1) c') (xs++[x]) F'):=by
 obtain⟨p1,c1,rfl⟩:=Zbw.vals hQ;have H:=Zaa (Yda hR (Yda hQ (Yda hN hN2)));have HD:=Zaa hD;have z4:=fun o=>Zab Z.c4 ((Ydb _ w).alloc lr o);have CS:=Zaa (fun u=>Ze3 a (n:=4) (by decide) k u);obtain⟨n,hn⟩: ∃ n,xs.length=n:=⟨_,rfl⟩;have HX:=Zaa hn;rw[hn];clear hR hQ hN hN2 hD Z;go_in
 by_cases hnm:n=m
 ·have g1:((n:Int)==(m:Int))=true:=by rw[Yfb];omega
  have E:=Zaa hnm;clear hnm hn;go_wp2_with fail
  refine(CS.out _).mono ?_;rintro e w2 ⟨⟨L,hL,rfl,hB2⟩,hb⟩;exact⟨rfl,Or.inl ⟨E.out,⟨L,by simp at hL;omega,rfl,hB2⟩,((Ydb _ w).alloc lr _).trans (hb.mono (by simp))⟩⟩
 ·have g1:((n:Int)==(m:Int))=false:=by rw[Ye4];omega
  have E:=Zaa hnm;have hl1:xs.length < 100000000:=by omega
  clear hnm hn CS z4;go_wp2_with (at_builtin;go_must (refine Za9 Zqp rfl (.tmp 16) (.tmp 18) rfl (Zbw.stable (ty:=Zad) (d)) (fun _ _ _ _ h=>Zbw.one h) B (.slice p n c) xs F rfl (Zag.stable (Zbw.stable (ty:=Zad) (d)) _ _ _ _ _ (HX.out▸H.out.1) fun j hj=>(Ydf _ _ _ (by have:=H.out.2.2.1.lt j hj;simp;omega)).trans (Ydf _ _ _ (H.out.2.2.1.lt j hj))) (w.heap.size+1) #[.slice p1 x.length c1] 72 (0,0) x F2 rfl (by have:=Zaw (w.alloc (.cells #[.slice p1 x.length c1] 72)) (.cells #[.slice p1 x.length c1] 72);simpa using this) rfl (Zbw.stable (ty:=Zad) (d) _ _ _ _ _ H.out.2.1 fun j hj=>(Ydf _ _ _ (by have:=H.out.2.2.2.lt j hj;simp;omega)).trans (Ydf _ _ _ (H.out.2.2.2.lt j hj))) hl1 (by simp;omega) (H.out.2.2.1.later lr (by simp;omega)) (H.out.2.2.2.later lr (by simp;omega)) HD.out ?_);intro g3 cap3 w4 F3 happ)
  have R4:=happ.row;rw[HX.out]at R4;try rw[HX.out]
  go_ret
  exact Or.inr ⟨E.out,_,_,F3,rfl,⟨R4,happ.new,fun j hj=>(happ.sub j hj).imp_right fun h=>h.imp_right fun h=>by simp at h;omega,happ.os,happ.tape,happ.output,by have:=happ.size;simp at this;omega,fun j hj hF=>(happ.same j (by simp;omega) hF).trans ((Ydf _ _ _ (by simp;omega)).trans (Ydf _ _ _ hj))⟩⟩
theorem Zfn {xs:List Pol}{x:Pol}(Z:Zao a w)(hR:Zag 187 2 (Zhi Zad (d)) w (.slice p xs.length c) xs F)(hQ:Zhi Zad (d) w vs x F2)(hB:B<=w.heap.size)(hN:Za7 B w F)(hN2:Za7 B w F2)(hD: ∀ j,j∈F->j∉F2)(hm:m < 1000)(hl:xs.length<=m):
  Calls prog 87 #[.slice p xs.length c,.agg vs.toArray,.int .i64 (m:Int),.int .i64 (k:Int)] w fun e w'=>(xs.length=m/\Zfv a 4 k w.heap.size e w'/\Below w.heap.size w w')\/(xs.length≠m/\ ∃ p' c' F',e= .returned (.slice p' (xs.length+1) c')/\Z5k 187 2 (Zhi Zad (d)) B w w' F F2 (.slice p' (xs.length+1) c') (xs++[x]) F'):=by
 obtain⟨p1,c1,rfl⟩:=Zhi.vals hQ;have H:=Zaa (Yda hR (Yda hQ (Yda hN hN2)));have HD:=Zaa hD;have z4:=fun o=>Zab Z.c4 ((Ydb _ w).alloc lr o);have CS:=Zaa (fun u=>Ze3 a (n:=4) (by decide) k u);obtain⟨n,hn⟩: ∃ n,xs.length=n:=⟨_,rfl⟩;have HX:=Zaa hn;rw[hn];clear hR hQ hN hN2 hD Z;go_in
 by_cases hnm:n=m
 ·have g1:((n:Int)==(m:Int))=true:=by rw[Yfb];omega
  have E:=Zaa hnm;clear hnm hn;go_wp2_with fail
  refine(CS.out _).mono ?_;rintro e w2 ⟨⟨L,hL,rfl,hB2⟩,hb⟩;exact⟨rfl,Or.inl ⟨E.out,⟨L,by simp at hL;omega,rfl,hB2⟩,((Ydb _ w).alloc lr _).trans (hb.mono (by simp))⟩⟩
 ·have g1:((n:Int)==(m:Int))=false:=by rw[Ye4];omega
  have E:=Zaa hnm;have hl1:xs.length < 100000000:=by omega
  clear hnm hn CS z4;go_wp2_with (at_builtin;go_must (refine Za9 Z56 rfl (.tmp 16) (.tmp 18) rfl (Zhi.stable (ty:=Zad) (d)) (fun _ _ _ _ h=>Zhi.one h) B (.slice p n c) xs F rfl (Zag.stable (Zhi.stable (ty:=Zad) (d)) _ _ _ _ _ (HX.out▸H.out.1) fun j hj=>(Ydf _ _ _ (by have:=H.out.2.2.1.lt j hj;simp;omega)).trans (Ydf _ _ _ (H.out.2.2.1.lt j hj))) (w.heap.size+1) #[.bool x.allow,.slice p1 x.either.length c1] 187 (0,0) x F2 rfl (by have:=Zaw (w.alloc (.cells #[.bool x.allow,.slice p1 x.either.length c1] 187)) (.cells #[.bool x.allow,.slice p1 x.either.length c1] 187);simpa using this) rfl (Zhi.stable (ty:=Zad) (d) _ _ _ _ _ H.out.2.1 fun j hj=>(Ydf _ _ _ (by have:=H.out.2.2.2.lt j hj;simp;omega)).trans (Ydf _ _ _ (H.out.2.2.2.lt j hj))) hl1 (by simp;omega) (H.out.2.2.1.later lr (by simp;omega)) (H.out.2.2.2.later lr (by simp;omega)) HD.out ?_);intro g3 cap3 w4 F3 happ)
  have R4:=happ.row;rw[HX.out]at R4;try rw[HX.out]
  go_ret
  exact Or.inr ⟨E.out,_,_,F3,rfl,⟨R4,happ.new,fun j hj=>(happ.sub j hj).imp_right fun h=>h.imp_right fun h=>by simp at h;omega,happ.os,happ.tape,happ.output,by have:=happ.size;simp at this;omega,fun j hj hF=>(happ.same j (by simp;omega) hF).trans ((Ydf _ _ _ (by simp;omega)).trans (Ydf _ _ _ hj))⟩⟩
end Go.P
namespace Go.W
variable {t:ByteArray}{x y:Tk}{p q:Nat}{u:Unit}
def Zm5 (x:Tk):Prop:=x.text.size < 1000000000/\x.s.size < 1000000000/\Zlg x.k/\Zlg x.i
theorem Zg4:Zlg 0:=⟨by decide,by decide⟩
theorem Zym (q:Nat):Zm5 (Zga q):=⟨by show(0:Nat) < _;decide,by show(0:Nat) < _;decide,Zg4,Zg4⟩
theorem Z0y {l:List UInt8}{v:Int}(h:Lib.parseIntB 64 l= .ok v):Zlg v:=by
 unfold Lib.parseIntB at h;split at h
 ·cases h
 ·rename_i c r;simp only at h;split at h
  ·cases h
  ·cases h
  ·rename_i u _;split at h
   ·cases h
   ·rename_i h1;split at h
    ·cases h
    ·rename_i h2;cases h;unfold Zlg;by_cases hn:c.toNat=45
     ·rw[if_pos hn]
      have: ¬ 2 ^ (64 - 1) < u:=fun z=>h2 ⟨hn,z⟩
      have e:(2:Nat) ^ (64 - 1)=9223372036854775808:=by decide
      omega
     ·rw[if_neg hn]
      have: ¬ 2 ^ (64 - 1)<=u:=fun z=>h1 ⟨hn,z⟩
      have e:(2:Nat) ^ (64 - 1)=9223372036854775808:=by decide
      omega
theorem Zx9 (ht:t.size<=8000)(p q:Nat):(t.extract p q).size < 1000000000:=by
 rw[Yeh];omega
theorem Z2l (hx:Zm5 x)(h:Zii t x p= .ok (u,y,q)):Zm5 y:=by
 unfold Zii at h;dsimp only at h;split at h
 ·cases h
 ·split at h
  ·cases h
  ·rename_i h64;cases h;refine⟨hx.1,?_,⟨by show(-9223372036854775808:Int)<=4;decide,by show(4:Int)<=9223372036854775807;decide⟩,Zg4⟩;show(Zpw _ _ _).toArray.size < _;rw[Ydn,Zgf];omega
theorem Z9f {n:Int}(h:Zyd t x p= .ok (n,y,q)):Zlg n:=by
 unfold Zyd at h;dsimp only at h;generalize (if(Zac t).getD p 0=45 then p+1 else p)=p1 at h;split at h
 ·cases h
 ·split at h
  ·rename_i hp;cases h;exact Z0y hp
  ·cases h
theorem Z33 {qq k:Int}(hx:Zm5 x)(hk:Zlg k)(h:Z15 t qq k x p= .ok (u,y,q)):Zm5 y:=by
 unfold Z15 at h;split at h
 ·cases h
 ·rename_i hi;cases h;exact⟨hx.1,hx.2.1,hk,Z9f hi⟩
theorem Z5d (ht:t.size<=8000){c:Nat}(h:Ziz t c p= .ok (u,y,q)):Zm5 y:=by
 have hx:=Zym p;unfold Ziz at h;split at h
 ·unfold Zsx at h;dsimp only at h;split at h
  ·cases h
  ·split at h
   ·exact Z2l hx h
   ·cases h;exact⟨Zx9 ht _ _,hx.2⟩
 split at h
 ·unfold Zfb at h;dsimp only at h;split at h
  ·cases h
  ·split at h
   ·cases h
   ·cases h;exact⟨hx.1,Zx9 ht _ _,⟨by show(-9223372036854775808:Int)<=1;decide,by show(1:Int)<=9223372036854775807;decide⟩,Zg4⟩
 split at h
 ·unfold Zus at h;split at h
  ·cases h
  ·split at h
   ·cases h
   ·rename_i h64;cases h;refine⟨hx.1,?_,⟨by show(-9223372036854775808:Int)<=3;decide,by show(3:Int)<=9223372036854775807;decide⟩,Zg4⟩;show(List.toArray _).size < _;rw[Ydn];omega
 split at h
 ·exact Z33 hx ⟨by decide,by decide⟩ h
 split at h
 ·exact Z33 hx ⟨by decide,by decide⟩ h
 ·unfold Zse at h;split at h
  ·cases h
  ·rename_i m hm;cases h;refine⟨?_,hx.2⟩;have hmem:=List.mem_of_find?_eq_some hm;have hall: ∀ m∈Zg8,m.size < 1000000000:=by decide
   exact hall m hmem
theorem Zsk (ht:t.size<=8000)(h:Zh3 t p= .ok (u,y,q)):Zm5 y:=by
 unfold Zh3 at h;split at h
 ·cases h;exact Zym _
 ·exact Z5d ht h
theorem Zeq (ht:t.size<=8000){z:Tk}(h:Zdc t x p= .ok (z,y,q)):Zm5 y/\z=x:=by
 unfold Zdc at h;split at h
 ·cases h
 ·rename_i hr;cases h;exact⟨Zsk ht hr,rfl⟩
theorem Zlb (ht:t.size<=8000){s:List UInt8}{z:Unit}(h:Zh5 t s x p= .ok (z,y,q)):Zm5 y:=by
 unfold Zh5 at h;split at h
 ·unfold Zbg at h;split at h
  ·cases h
  ·rename_i hr;cases h;exact(Zeq ht hr).1
 ·cases h
end Go.W
namespace Go.P
def Zpi (a:Nat->Addr) (b:Nat) (w:World) (t:ByteArray) (u:World) (p:Nat) (x:Tk):Prop:=Rd u b t p x/\Zah b w u/\Zao a u/\Zm5 x
theorem Zt9 (x:Tk)(w:World):Calls prog 79 #[Zm2 x] w fun e w'=>e= .returned (.bool (Go.W.Z73 x))/\Below w.heap.size w w':=by
 have B:=Zaa ((Ydb _ w).alloc lr (.cells #[.int .i64 (x.at_:Int),.string x.text,.int .i64 x.k,.int .i64 x.i,.string x.s,.slice none 0 0] 179));have e0:Go.W.Z73 x=((x.text.toList==[]) && (x.k==0)):=by
  unfold Go.W.Z73;rw[Zec,Z3k]
 rw[e0];unfold Zm2;go_in
 cases h1:(x.text.toList==[]);all_goals
  go_wp2_with fail
  all_goals go_ret
  all_goals exact⟨by simp,B.out⟩
theorem Zqw (x:Tk)(hx:x.text.size < 1000000000)(w:World):Calls prog 172 #[Zm2 x] w fun e w'=>e= .returned (.bool (Zi1 x.text))/\Below w.heap.size w w':=by
 have B:=Zaa ((Ydb _ w).alloc lr (.cells #[.int .i64 (x.at_:Int),.string x.text,.int .i64 x.k,.int .i64 x.i,.string x.s,.slice none 0 0] 179));have C:=Zaa (Zj2 ((Zac x.text).getD 0 0));unfold Zm2;by_cases h0:x.text.size=0
 ·have e0:Zi1 x.text=false:=by unfold Zi1;rw[Yfg (by omega)];rfl
  have e1:(x.text.toList==[])=true:=by rw[Zec];exact Yfj h0
  rw[e0];clear C;go_in
  go_wp2_with fail
  all_goals go_ret
  all_goals exact⟨rfl,B.out⟩
 ·have e0:Zi1 x.text=Zcr ((Zac x.text).getD 0 0):=by unfold Zi1;rw[Yfj h0];rfl
  have e1:(x.text.toList==[])=false:=by rw[Zec];exact Yfg h0
  have hp:0 < x.text.size:=by omega
  have hb:=Zhm x.text 0 hp;rw[e0];generalize (Zac x.text).getD 0 0=c at*;generalize Zcr c=z at*;clear e0;go_in
  go_wp2_with (go_at_call 123;refine(C.out _).mono ?_;rintro e w' ⟨rfl,rfl⟩)
  all_goals go_ret
  all_goals exact⟨by simp,B.out⟩
theorem Zjc {a:Nat->Addr}{w:World}{b:Nat}{t:ByteArray}{p:Nat}{x:Tk}(s:ByteArray)(Z:Zao a w)(h:Rd w b t p x):
  Calls prog 82 #[.pointer (some ⟨b,0,none⟩),.string s] w (Ze6 a b t VU w (Zh5 t s.toList x p)):=by
 obtain⟨c0,c1,c2,c3,c4,c5,c6,c7,sf⟩:=h.1.eight;have CR:=Zaa (Zbf a (n:=2) (by decide) h);have CT:=Zaa (Zc8 Z h);have z2:=Z.c2;have H:=Zaa h;clear Z h;go_in
 by_cases hs:x.text.toList=s.toList
 ·have g:(x.text.toList==s.toList)=true:=by rw[Yfb];exact hs
  have Y:=Zaa (show Zh5 t s.toList x p=Zbg (Zdc t x p) fun _ x' p'=> .ok ((),x',p')from if_pos hs);clear CR z2 hs;go_wp2_with fail
  refine CT.out.mono ?_;rintro e w1 ⟨hk4,⟨n,r,hy,hn,L,hL,rfl,hB⟩ | ⟨v,y,x2,r,hy,rfl,hv,hr4⟩⟩
  ·exact⟨rfl,hk4,Or.inl ⟨n,r,Y.out.trans (Zai hy),hn,L,hL,rfl,hB⟩⟩
  ·obtain rfl:v=Zm2 y:=hv;have R:=Zaa (Yda hk4 (Yda (Y.out.trans (Zas hy)) hr4));clear hk4 hy hr4;go_wp2_with fail
   exact⟨rfl,_,(by simp[results,results82,go_sem];try rfl),R.out.1,Or.inr ⟨_,_,_,_,R.out.2.1,rfl,rfl,R.out.2.2⟩⟩
 ·have g:(x.text.toList==s.toList)=false:=by rw[Ye4];exact hs
  have Y:=Zaa (show Zh5 t s.toList x p= .error (2,x.at_)from if_neg hs);clear CT hs;go_wp2_with fail
  refine CR.out.mono ?_;rintro e w2 ⟨⟨L,hL,rfl,hB⟩,hb⟩;exact⟨rfl,(Zah.refl b w).ofBelow hb,Or.inl ⟨2,_,Y.out,by decide,L,hL,rfl,hB⟩⟩
end Go.P
namespace Go.W
variable {x2:Tk}{r:Nat}
section
variable {α:Type} {t:ByteArray} {f:Tk->Nat->Re α} {l:List UInt8} {m k:Nat} {xs:List α} {x:Tk} {p:Nat}
theorem Zu1 {e:Int×Nat}(h:f x p= .error e):Zor t f l m (k+1) xs x p= .error e:=by rw[Zor];exact Zai h
theorem Zy7 {z:α}(h:f x p= .ok (z,x2,r))(hm:xs.length=m):Zor t f l m (k+1) xs x p= .error (4,x.at_):=by rw[Zor,Zas h,if_pos hm]
theorem Z4t {z:α}(h:f x p= .ok (z,x2,r))(hm:xs.length≠m)(hl:x2.text.toList≠l):Zor t f l m (k+1) xs x p= .ok (xs++[z],x2,r):=by rw[Zor,Zas h,if_neg hm,if_neg hl]
theorem Zy8 {z:α}(h:f x p= .ok (z,x2,r))(hm:xs.length≠m)(hl:x2.text.toList=l):(∀ e,Zdc t x2 r= .error e->Zor t f l m (k+1) xs x p= .error e)/\ ∀ y x3 r3,Zdc t x2 r= .ok (y,x3,r3)->Zor t f l m (k+1) xs x p=Zor t f l m k (xs++[z]) x3 r3:=by
 rw[Zor,Zas h,if_neg hm,if_pos hl];exact⟨fun e he=>Zai he,fun y x3 r3 he=>Zas he⟩
theorem Zah.grew {e:TypeId}{s:Nat}{Q:Zgj α}{B:Nat}{w w1:World}{F G:List Nat}{v:Value}{ys:List α}{F':List Nat}(h:Z5k e s Q B w w1 F G v ys F'){b:Nat}{w0:World}(k:Zah b w0 w)(hF: ∀ i,i∈F->w0.heap.size<=i):Zah b w0 w1:=
 ⟨h.os.trans k.os,h.tape.trans k.tape,h.output.trans k.output,Ydc k.size h.size,fun j hj hb=>(h.same j (Ydh hj k.size) (fun hjF=>by have:=hF j hjF;omega)).trans (k.block j hj hb)⟩
end
end Go.W
namespace Go.P
variable {K d b m p:Nat}{first cap:Array Value}{a:Nat->Addr}{w:World}{t:ByteArray}{x:Tk}
def Z7z {α:Type} (e:TypeId) (s:Nat) (Q:Zgj α) (a:Nat->Addr) (b:Nat) (t:ByteArray) (f:Tk->Nat->Re α) (l:List UInt8) (m:Nat) (Y:Re (List α)) (w:World) (tv:Value) (wr:World):Prop:=
 ∃ (xs:List α) (F:List Nat) (pp:Option Addr) (c:Nat) (x:Tk) (p:Nat),tv= .slice pp xs.length c/\xs.length<=m/\Zag e s Q wr tv xs F/\Za7 w.heap.size wr F/\Zpi a b w t wr p x/\Zor t f l m (m+1 - xs.length) xs x p=Y
def Zmd:Value->Nat | .slice _ n _=>n | _=>0
theorem Zp9 (hen:Zaq K){f:Tk->Nat->Re T}(s:ByteArray)(Z:Zao a w)(h:Rd w b t p x)(hx:Zm5 x)(hm:m < 1000)
  (HC: ∀ u p x,Zpi a b w t u p x->Calls prog K (first++cap) u (Ze6 a b t (Zlh (Za3 Zad (d+1)) u.heap.size) u (f x p))):
  Calls prog 206 #[.pointer (some ⟨b,0,none⟩),.string s,.int .i64 (m:Int),.func (.func K) first cap] w (Ze6 a b t (Zkd 117 4 (Za3 Zad (d+1)) w.heap.size) w (Zor t f s.toList m (m+1) [] x p)):=by
 have HH:=Zaa HC;have hen': ∀ args w,(callFunc K args).run prog w= .ok (.enter K args) w:=hen;have hg:=h.2.2.2;have ht:=h.2.1;have hblt:=h.1.lt;have D0:Box (Zpi a b w t w p x):=⟨h,Zah.refl _ _,Z,hx⟩;have ZW:=Zaa Z;clear HC hen Z h hx;go_in
 go_wp2
 go_loopw [9] (fun tv wr=>Z7z 117 4 (Za3 Zad (d+1)) a b t f s.toList m (Zor t f s.toList m (m+1) [] x p) w tv wr) (fun tv _=>m+1 - Zmd tv)
 case atStart=>exact⟨[],[],none,0,x,p,rfl,by simp,Zag.nil,Za7.nil _ _,D0.out,rfl⟩
 case round=>
  clear D0;obtain⟨xs,F,pp,c,y,q,rfl,hxm,hR,hN,hD,hY⟩:=hrel;obtain⟨c0,c1,c2,c3,c4,c5,c6,c7,sf⟩:=hD.1.1.eight;obtain⟨k,hk⟩: ∃ k,m+1 - xs.length=k+1:=⟨m - xs.length,by omega⟩;rw[hk]at hY;have HR:=Zaa hR;have HN:=Zaa hN;have HD:=Zaa hD;have HY:=Zaa hY;have CC:=Zaa (HH.out _ _ _ hD);have hszw:=hD.2.1.size;generalize Zor t f s.toList m (m+1) [] x p=Y at*;clear hR hN hD hY HH;go_wp2_with fail
  refine CC.out.mono ?_;rintro e w2 ⟨hk2,⟨n,r,hy,hn,L,hL,rfl,hB⟩ | ⟨v,z,x2,r,hy,rfl,⟨vs,F2,rfl,hQ,hN2⟩,hr2⟩⟩
  ·exact⟨rfl,HD.out.2.1.trans hk2,Or.inl ⟨n,r,HY.out.symm.trans (Zu1 hy),hn,L,Ydc hszw hL,rfl,hB⟩⟩
  have hs2:=hk2.size;have bF: ∀ j,j∈F->j≠b:=fun j hj=>by have:=HN.out.ge j hj;omega
  have R2:Zag 117 4 (Za3 Zad (d+1)) w2 (.slice pp xs.length c) xs F:=Zag.stable (Za3.stable (ty:=Zad) (d+1)) _ _ _ _ _ HR.out fun j hj=>hk2.block j (HN.out.lt j hj) (bF j hj);have Z2:=HD.out.2.2.1.keeps hk2 hg;have CJ:=Zaa (Zwk (d:=d) (B:=w.heap.size) (m:=m) (k:=y.at_) Z2 R2 hQ (by omega) (HN.out.later lr hs2) (hN2.later (by omega) lr) (fun j hj hj2=>by have:=HN.out.lt j hj;have:=hN2.ge j hj2;omega) hm hxm);have K2:=Zaa (HD.out.2.1.trans hk2);have HR2:=Zaa hr2;have GE:=Zaa HN.out.ge;have HE:=Zaa hy;clear hk2 hQ hN2 hr2 hy CC HR HN HD R2 Z2 c0 c1 c2 c3 c4 c5 c6 c7 sf bF;go_wp2_with fail
  refine CJ.out.mono ?_;rintro e w3 (⟨hE,⟨L,hL,rfl,hB⟩,hb⟩ | ⟨hne,p',c',F',rfl,hG⟩)
  ·exact⟨rfl,K2.out.ofBelow hb,Or.inl ⟨4,_,HY.out.symm.trans (Zy7 HE.out hE),by decide,L,by omega,rfl,hB⟩⟩
  have K3:=Zaa (Zah.grew hG K2.out GE.out);have hr3:Rd w3 b t r x2:=⟨HR2.out.1.of (hG.same b HR2.out.1.lt (fun hj=>by have:=GE.out b hj;omega)),HR2.out.2⟩;have HR3:=Zaa hr3;obtain⟨c0,c1,c2,c3,c4,c5,c6,c7,sf⟩:=hr3.1.eight;have HG:=Zaa hG;have hs3:=hG.size;have Z3:Box (Zao a w3):=⟨ZW.out.keeps K3.out hg⟩;clear hG hr3 CJ HR2;by_cases hl:x2.text.toList=s.toList
  ·have g1:(x2.text.toList==s.toList)=true:=by rw[Yfb];exact hl
   have M:=Zaa (Zy8 (l:=s.toList) (k:=k) (t:=t) HE.out hne hl);have CT:=Zaa (Zc8 Z3.out HR3.out);clear hl HE;go_wp2_with fail
   refine CT.out.mono ?_;rintro e w4 ⟨hk4,⟨n,r4,hy,hn,L,hL,rfl,hB⟩ | ⟨v,y4,x4,r4,hy,rfl,hv,hr4⟩⟩
   ·exact⟨rfl,K3.out.trans hk4,Or.inl ⟨n,r4,HY.out.symm.trans (M.out.1 _ hy),hn,L,by omega,rfl,hB⟩⟩
   ·obtain rfl:v=Zm2 y4:=hv;have hs4:=hk4.size;have RR:Zag 117 4 (Za3 Zad (d+1)) w4 (.slice p' (xs.length+1) c') (xs++[z]) F':=Zag.stable (Za3.stable (ty:=Zad) (d+1)) _ _ _ _ _ HG.out.row fun j hj=>hk4.block j (HG.out.new.lt j hj) (by have:=HG.out.new.ge j hj;omega);have hEE:=HY.out.symm.trans (M.out.2 _ _ _ hy);have R:=Zaa (Yda RR (Yda (HG.out.new.later lr hs4) (Yda (show Zpi a b w t w4 r4 x4 from⟨hr4,K3.out.trans hk4,Z3.out.keeps hk4 hg,(Zeq ht hy).1⟩) hEE)));clear RR hk4 hy hr4 hEE;go_wp2
    exact⟨⟨xs++[z],F',p',c',x4,r4,by simp,by simp;omega,by simpa using R.out.1,R.out.2.1,R.out.2.2.1,by rw[<- R.out.2.2.2.symm];congr 1;simp;omega⟩,by simp[Zmd];omega⟩
  ·have g1:(x2.text.toList==s.toList)=false:=by rw[Ye4];exact hl
   have E:=Zaa (HY.out.symm.trans (Z4t (l:=s.toList) (k:=k) (t:=t) HE.out hne hl));clear hl HE;go_wp2
   go_ret
   exact⟨K3.out,Or.inr ⟨_,xs++[z],x2,r,E.out,rfl,⟨F',by simpa using HG.out.row,HG.out.new⟩,HR3.out⟩⟩
theorem Zp8 (hen:Zaq K){f:Tk->Nat->Re R}(s:ByteArray)(Z:Zao a w)(h:Rd w b t p x)(hx:Zm5 x)(hm:m < 1000)
  (HC: ∀ u p x,Zpi a b w t u p x->Calls prog K (first++cap) u (Ze6 a b t (Zlh (Zbs Zad (d)) u.heap.size) u (f x p))):
  Calls prog 137 #[.pointer (some ⟨b,0,none⟩),.string s,.int .i64 (m:Int),.func (.func K) first cap] w (Ze6 a b t (Zkd 115 4 (Zbs Zad (d)) w.heap.size) w (Zor t f s.toList m (m+1) [] x p)):=by
 have HH:=Zaa HC;have hen': ∀ args w,(callFunc K args).run prog w= .ok (.enter K args) w:=hen;have hg:=h.2.2.2;have ht:=h.2.1;have hblt:=h.1.lt;have D0:Box (Zpi a b w t w p x):=⟨h,Zah.refl _ _,Z,hx⟩;have ZW:=Zaa Z;clear HC hen Z h hx;go_in
 go_wp2
 go_loopw [9] (fun tv wr=>Z7z 115 4 (Zbs Zad (d)) a b t f s.toList m (Zor t f s.toList m (m+1) [] x p) w tv wr) (fun tv _=>m+1 - Zmd tv)
 case atStart=>exact⟨[],[],none,0,x,p,rfl,by simp,Zag.nil,Za7.nil _ _,D0.out,rfl⟩
 case round=>
  clear D0;obtain⟨xs,F,pp,c,y,q,rfl,hxm,hR,hN,hD,hY⟩:=hrel;obtain⟨c0,c1,c2,c3,c4,c5,c6,c7,sf⟩:=hD.1.1.eight;obtain⟨k,hk⟩: ∃ k,m+1 - xs.length=k+1:=⟨m - xs.length,by omega⟩;rw[hk]at hY;have HR:=Zaa hR;have HN:=Zaa hN;have HD:=Zaa hD;have HY:=Zaa hY;have CC:=Zaa (HH.out _ _ _ hD);have hszw:=hD.2.1.size;generalize Zor t f s.toList m (m+1) [] x p=Y at*;clear hR hN hD hY HH;go_wp2_with fail
  refine CC.out.mono ?_;rintro e w2 ⟨hk2,⟨n,r,hy,hn,L,hL,rfl,hB⟩ | ⟨v,z,x2,r,hy,rfl,⟨vs,F2,rfl,hQ,hN2⟩,hr2⟩⟩
  ·exact⟨rfl,HD.out.2.1.trans hk2,Or.inl ⟨n,r,HY.out.symm.trans (Zu1 hy),hn,L,Ydc hszw hL,rfl,hB⟩⟩
  have hs2:=hk2.size;have bF: ∀ j,j∈F->j≠b:=fun j hj=>by have:=HN.out.ge j hj;omega
  have R2:Zag 115 4 (Zbs Zad (d)) w2 (.slice pp xs.length c) xs F:=Zag.stable (Zbs.stable (ty:=Zad) (d)) _ _ _ _ _ HR.out fun j hj=>hk2.block j (HN.out.lt j hj) (bF j hj);have Z2:=HD.out.2.2.1.keeps hk2 hg;have CJ:=Zaa (Zn9 (d:=d) (B:=w.heap.size) (m:=m) (k:=y.at_) Z2 R2 hQ (by omega) (HN.out.later lr hs2) (hN2.later (by omega) lr) (fun j hj hj2=>by have:=HN.out.lt j hj;have:=hN2.ge j hj2;omega) hm hxm);have K2:=Zaa (HD.out.2.1.trans hk2);have HR2:=Zaa hr2;have GE:=Zaa HN.out.ge;have HE:=Zaa hy;clear hk2 hQ hN2 hr2 hy CC HR HN HD R2 Z2 c0 c1 c2 c3 c4 c5 c6 c7 sf bF;go_wp2_with fail
  refine CJ.out.mono ?_;rintro e w3 (⟨hE,⟨L,hL,rfl,hB⟩,hb⟩ | ⟨hne,p',c',F',rfl,hG⟩)
  ·exact⟨rfl,K2.out.ofBelow hb,Or.inl ⟨4,_,HY.out.symm.trans (Zy7 HE.out hE),by decide,L,by omega,rfl,hB⟩⟩
  have K3:=Zaa (Zah.grew hG K2.out GE.out);have hr3:Rd w3 b t r x2:=⟨HR2.out.1.of (hG.same b HR2.out.1.lt (fun hj=>by have:=GE.out b hj;omega)),HR2.out.2⟩;have HR3:=Zaa hr3;obtain⟨c0,c1,c2,c3,c4,c5,c6,c7,sf⟩:=hr3.1.eight;have HG:=Zaa hG;have hs3:=hG.size;have Z3:Box (Zao a w3):=⟨ZW.out.keeps K3.out hg⟩;clear hG hr3 CJ HR2;by_cases hl:x2.text.toList=s.toList
  ·have g1:(x2.text.toList==s.toList)=true:=by rw[Yfb];exact hl
   have M:=Zaa (Zy8 (l:=s.toList) (k:=k) (t:=t) HE.out hne hl);have CT:=Zaa (Zc8 Z3.out HR3.out);clear hl HE;go_wp2_with fail
   refine CT.out.mono ?_;rintro e w4 ⟨hk4,⟨n,r4,hy,hn,L,hL,rfl,hB⟩ | ⟨v,y4,x4,r4,hy,rfl,hv,hr4⟩⟩
   ·exact⟨rfl,K3.out.trans hk4,Or.inl ⟨n,r4,HY.out.symm.trans (M.out.1 _ hy),hn,L,by omega,rfl,hB⟩⟩
   ·obtain rfl:v=Zm2 y4:=hv;have hs4:=hk4.size;have RR:Zag 115 4 (Zbs Zad (d)) w4 (.slice p' (xs.length+1) c') (xs++[z]) F':=Zag.stable (Zbs.stable (ty:=Zad) (d)) _ _ _ _ _ HG.out.row fun j hj=>hk4.block j (HG.out.new.lt j hj) (by have:=HG.out.new.ge j hj;omega);have hEE:=HY.out.symm.trans (M.out.2 _ _ _ hy);have R:=Zaa (Yda RR (Yda (HG.out.new.later lr hs4) (Yda (show Zpi a b w t w4 r4 x4 from⟨hr4,K3.out.trans hk4,Z3.out.keeps hk4 hg,(Zeq ht hy).1⟩) hEE)));clear RR hk4 hy hr4 hEE;go_wp2
    exact⟨⟨xs++[z],F',p',c',x4,r4,by simp,by simp;omega,by simpa using R.out.1,R.out.2.1,R.out.2.2.1,by rw[<- R.out.2.2.2.symm];congr 1;simp;omega⟩,by simp[Zmd];omega⟩
  ·have g1:(x2.text.toList==s.toList)=false:=by rw[Ye4];exact hl
   have E:=Zaa (HY.out.symm.trans (Z4t (l:=s.toList) (k:=k) (t:=t) HE.out hne hl));clear hl HE;go_wp2
   go_ret
   exact⟨K3.out,Or.inr ⟨_,xs++[z],x2,r,E.out,rfl,⟨F',by simpa using HG.out.row,HG.out.new⟩,HR3.out⟩⟩
end Go.P
namespace Go.P
variable {w:World}{b p d:Nat}{t:ByteArray}{x:Tk}{a:Nat->Addr}
theorem Zpt:Zaq 207:=Zam func207 (by kernel_rfl) rfl
def Zib (d:Nat):Prop:= ∀ {a:Nat->Addr} {w:World} {b:Nat} {t:ByteArray} {p:Nat} {x:Tk},Zao a w->Rd w b t p x->Zm5 x->Calls prog 208 #[.pointer (some ⟨b,0,none⟩),.int .i64 ((3 - d:Nat):Int)] w (Ze6 a b t (Zlh (Za3 Zad (d+1)) w.heap.size) w (Zet t d x p))
theorem Zla (l:List UInt8):(⟨l.toArray⟩:ByteArray).toList=l:=by rw[Yd3]
theorem Rd.keepN {w':World}(h:Rd w b t p x)(k:w'.heap[b]?=w.heap[b]?):Rd w' b t p x:=⟨h.1.of k,h.2⟩
theorem Zw7 (ih:Zib d){L1 L2:Nat}(Z:Zao a w)(h:Rd w b t p x)(hx:Zm5 x)(k1:w.cell? ⟨L1,0,none⟩=some (.pointer (some ⟨b,0,none⟩)))(k2:w.cell? ⟨L2,0,none⟩=some (.int .i64 ((3 - d:Nat):Int))):
  Calls prog 207 #[.pointer (some ⟨L1,0,none⟩),.pointer (some ⟨L2,0,none⟩)] w (Ze6 a b t (Zlh (Za3 Zad (d+1)) w.heap.size) w (Zet t d x p)):=by
 have l1:=fun o=>Zab k1 ((Ydb _ w).alloc lr o);have l2:=fun o=>Zab k2 ((Ydb _ w).alloc lr o);have C:=Zaa (ih (Z.below ((Ydb _ w).alloc lr (.cells #[.int .i64 0,.int .i64 0,.string ⟨#[]⟩,.slice none 0 0] 117))) (h.alloc (.cells #[.int .i64 0,.int .i64 0,.string ⟨#[]⟩,.slice none 0 0] 117)) hx);have hb:=h.1.lt;have L0:=Zaa (Blk.new w #[.int .i64 0,.int .i64 0,.string ⟨#[]⟩,.slice none 0 0] 117);have K0:=Zaa ((Zah.refl b w).alloc (.cells #[.int .i64 0,.int .i64 0,.string ⟨#[]⟩,.slice none 0 0] 117));obtain⟨dd,hdd⟩: ∃ z:Int,((3 - d:Nat):Int)=z:=⟨_,rfl⟩;rw[hdd]at l2 C;clear k1 k2 Z h hdd;go_in
 go_wp2_with fail
 refine C.out.mono ?_;rintro e w1 ⟨hk1,⟨n,r,hy,hn,L,hL,rfl,hB⟩ | ⟨v,y,x2,r,hy,rfl,⟨vs,F,rfl,hQ,hN⟩,hr1⟩⟩
 ·exact⟨rfl,K0.out.trans hk1,Or.inl ⟨n,r,hy,hn,L,by simp at hL;omega,rfl,hB⟩⟩
 ·obtain⟨p1,c1,rfl⟩:=Za3.vals hQ;obtain⟨y0,y1,y2,y3,sf⟩:=(L0.out.of (hk1.block w.heap.size (by simp) (by omega))).four;have R:=Zaa (Yda hQ (Yda hN (Yda hr1 (Yda hy (K0.out.trans hk1)))));clear hQ hN hr1 hy hk1 C;go_wp2
  refine Ye6 (by simp[results,results207,go_sem,y0,y1,y2,y3];try rfl) rfl ?_;obtain⟨hQ,hN,hr1,hy,hk1⟩:=R.out;exact⟨hk1.r4 lr,Or.inr ⟨_,y,x2,r,hy,rfl,⟨_,F,rfl,Za3.stable (d+1) _ _ _ _ _ hQ fun j hj=>Zch (by have:=hN.ge j hj;simp at this;omega),hN.later (by simp) (by simp)⟩,hr1.keepN (Zch (by omega))⟩⟩
theorem Zrb (ih:Zib d)(s:ByteArray)(Z:Zao a w)(h:Rd w b t p x)(hx:Zm5 x):
  Calls prog 174 #[.pointer (some ⟨b,0,none⟩),.string s,.int .i64 ((3 - d:Nat):Int)] w (Ze6 a b t (Zkd 117 4 (Za3 Zad (d+1)) w.heap.size) w (Zh1 t (Zet t d) s.toList x p)):=by
 have hmf:=Zgm;obtain⟨dd,hdd⟩: ∃ z:Int,((3 - d:Nat):Int)=z:=⟨_,rfl⟩;have B0:=Zaa (((Ydb w.heap.size w).alloc lr (.cells #[.pointer (some ⟨b,0,none⟩)] 127)).alloc (by simp) (.cells #[.int .i64 dd] 3));have K0:=Zaa (((Zah.refl b w).alloc (.cells #[.pointer (some ⟨b,0,none⟩)] 127)).alloc (.cells #[.int .i64 dd] 3));have L1:=Zaa ((Blk.new w #[.pointer (some ⟨b,0,none⟩)] 127).alloc (.cells #[.int .i64 dd] 3));have L2:=Zaa (Blk.new (w.alloc (.cells #[.pointer (some ⟨b,0,none⟩)] 127)) #[.int .i64 dd] 3);have hb:=h.1.lt;have hg:=h.2.2.2;have H0:=Zaa ((h.alloc (.cells #[.pointer (some ⟨b,0,none⟩)] 127)).alloc (.cells #[.int .i64 dd] 3));have Z0:=Zaa (Z.below B0.out);have C:=Zaa (Zp9 (d:=d) (f:=Zet t d) Zpt (first:=#[]) (cap:=#[.pointer (some ⟨w.heap.size,0,none⟩),.pointer (some ⟨w.heap.size+1,0,none⟩)]) (m:=6) ⟨#[44]⟩ Z0.out H0.out hx (by omega) fun u q y hu=>Zw7 ih hu.2.2.1 hu.1 hu.2.2.2 ((L1.out.of (hu.2.1.block w.heap.size (by simp;omega) (by omega))).one.1) (by rw[hdd];have:=(L2.out.of (hu.2.1.block _ (by simp) (by simp;omega))).one.1;simpa using this));rw[show(⟨#[44]⟩:ByteArray).toList=[44]from Zla [44]]at C;obtain⟨c0,c1,c2,c3,c4,c5,c6,c7,sf⟩:=H0.out.1.eight;have CW:=Zaa (fun u q y (h1:Zao a u) (h2:Rd u b t q y)=>Zjc s h1 h2);have l1:=L1.out.one.1;rw[hdd];clear ih hdd Z h;go_in
 by_cases hs:x.text.toList=s.toList
 ·have g1:(x.text.toList==s.toList)=true:=by rw[Yfb];exact hs
  have Y:Box (Zh1 t (Zet t d) s.toList x p=Zbg (Zh5 t s.toList x p) fun _ x2 p2=> .ok ([],x2,p2)):=⟨by unfold Zh1;rw[if_pos hs];rfl⟩;clear hs;go_wp2_with fail
  refine(CW.out _ _ _ Z0.out H0.out).mono ?_;rintro e w1 ⟨hk1,⟨n,r,hy,hn,L,hL,rfl,hB⟩ | ⟨v,y,x2,r,hy,rfl,hv,hr1⟩⟩
  ·exact⟨rfl,K0.out.trans hk1,Or.inl ⟨n,r,Y.out.trans (Zai hy),hn,L,by simp at hL;omega,rfl,hB⟩⟩
  ·obtain rfl:v= .tuple #[]:=hv;have R:=Zaa (Yda hr1 (Yda (Y.out.trans (Zas hy)) (K0.out.trans hk1)));clear hr1 hy hk1 C;go_wp2
   go_ret
   exact⟨R.out.2.2,Or.inr ⟨_,[],x2,r,R.out.2.1,rfl,⟨[],Zag.nil,Za7.nil _ _⟩,R.out.1⟩⟩
 ·have g1:(x.text.toList==s.toList)=false:=by rw[Ye4];exact hs
  have Y:Box (Zh1 t (Zet t d) s.toList x p=Zbg (Zor t (Zet t d) [44] 6 7 [] x p) fun l x1 p1=>Zbg (Zh5 t s.toList x1 p1) fun _ x2 p2=> .ok (l,x2,p2)):=⟨by unfold Zh1;rw[if_neg hs]⟩;clear hs;go_wp2_with fail
  refine C.out.mono ?_;rintro e w1 ⟨hk1,⟨n,r,hy,hn,L,hL,rfl,hB⟩ | ⟨v,xs,x1,r1,hy,rfl,⟨F,hR,hN⟩,hr1⟩⟩
  ·exact⟨rfl,K0.out.trans hk1,Or.inl ⟨n,r,Y.out.trans (Zai hy),hn,L,by simp at hL;omega,rfl,hB⟩⟩
  obtain⟨p1,cc,rfl⟩:=Zag.form hR;have Y2:=Zaa (Y.out.trans (Zas hy));have l2:=(L1.out.of (hk1.block w.heap.size (by simp;omega) (by omega))).one.1;have hs1:=hk1.size;have R1:=Zaa (Yda hR (Yda hN (K0.out.trans hk1)));have HR1:=Zaa hr1;have Z1:=Zaa (Z0.out.keeps hk1 hg);clear hR hN hr1 hy hk1 C Y l1 L1 L2 K0 H0 Z0 B0 c0 c1 c2 c3 c4 c5 c6 c7 sf;go_wp2_with fail
  refine(CW.out _ _ _ Z1.out HR1.out).mono ?_;rintro e w2 ⟨hk2,⟨n,r,hy,hn,L,hL,rfl,hB⟩ | ⟨v,y,x2,r,hy,rfl,hv,hr2⟩⟩
  ·exact⟨rfl,R1.out.2.2.trans hk2,Or.inl ⟨n,r,Y2.out.trans (Zai hy),hn,L,by simp at hs1;omega,rfl,hB⟩⟩
  ·obtain rfl:v= .tuple #[]:=hv;have hN1:=R1.out.2.1;have R2:=Zaa (Yda hr2 (Yda (Y2.out.trans (Zas hy)) (Yda (R1.out.2.2.trans hk2) (Zag.stable (Za3.stable (ty:=Zad) (d+1)) _ _ _ _ _ R1.out.1 fun j hj=>hk2.block j (hN1.lt j hj) (by have:=hN1.ge j hj;simp at this;omega)))));have hs2:=hk2.size;clear hr2 hy hk2 hN1;go_wp2
   go_ret
   exact⟨R2.out.2.2.1,Or.inr ⟨_,xs,x2,r,R2.out.2.1,rfl,⟨F,R2.out.2.2.2,R1.out.2.1.later (by simp;omega) hs2⟩,R2.out.1⟩⟩
theorem Z4o (ih:Zib d)(hd:d < 3)(Z:Zao a w)(h:Rd w b t p x):
  Calls prog 238 #[.pointer (some ⟨b,0,none⟩),.int .i64 ((3 - (d+1):Nat):Int)] w (Ze6 a b t (Zlh (Za3 Zad (d+2)) w.heap.size) w (Zbg (Zdc t x p) fun _ x1 p1=>Zbg (Zh1 t (Zet t d) [93] x1 p1) fun l x2 p2=> .ok (.mk 7 0 ⟨#[]⟩ l,x2,p2))):=by
 have hg:=h.2.2.2;have hb:=h.1.lt;obtain⟨dd,hdd⟩: ∃ z:Int,((3 - (d+1):Nat):Int)=z:=⟨_,rfl⟩;have g1:(dd==3)=false:=by rw[Ye4];omega
 have g2:0<=dd/\dd < 3:=by omega
 have e1:((3 - d:Nat):Int)=dd+1:=by omega
 have L0:=Zaa (Blk.new w #[.int .i64 0,.int .i64 0,.string ⟨#[]⟩,.slice none 0 0] 117);have K0:=Zaa ((Zah.refl b w).alloc (.cells #[.int .i64 0,.int .i64 0,.string ⟨#[]⟩,.slice none 0 0] 117));have H0:=Zaa (h.alloc (.cells #[.int .i64 0,.int .i64 0,.string ⟨#[]⟩,.slice none 0 0] 117));have Z0:=Zaa (Z.below ((Ydb _ w).alloc lr (.cells #[.int .i64 0,.int .i64 0,.string ⟨#[]⟩,.slice none 0 0] 117)));have CT:=Zaa (Zc8 Z0.out H0.out);have CS:=Zaa (fun u q y (h1:Zao a u) (h2:Rd u b t q y) (h3:Zm5 y)=>Zrb ih ⟨#[93]⟩ h1 h2 h3);have ht:=h.2.1;rw[e1,show(⟨#[93]⟩:ByteArray).toList=[93]from Zla [93]]at CS;rw[hdd];clear Z h hdd e1;go_in
 go_wp2_with fail
 refine CT.out.mono ?_;rintro e w1 ⟨hk1,⟨n,r,hy,hn,L,hL,rfl,hB⟩ | ⟨v,y,x1,r1,hy,rfl,hv,hr1⟩⟩
 ·exact⟨rfl,K0.out.trans hk1,Or.inl ⟨n,r,Zai hy,hn,L,by simp at hL;omega,rfl,hB⟩⟩
 obtain rfl:v=Zm2 y:=hv;have Y1:Box (∀ f:Tk->Tk->Nat->Re T,Zbg (Zdc t x p) f=f y x1 r1):=⟨fun f=>Zas hy⟩;have Z1:=Zaa (Z0.out.keeps hk1 hg);have K1:=Zaa (K0.out.trans hk1);have L1:=Zaa (L0.out.of (hk1.block w.heap.size (by simp) (by omega)));have hs1:=hk1.size;have HR1:=Zaa hr1;have hx1:=(Zeq ht hy).1;clear hk1 hy hr1 CT H0 Z0 K0 L0;go_wp2_with fail
 refine(CS.out _ _ _ Z1.out HR1.out hx1).mono ?_;rintro e w2 ⟨hk2,⟨n,r,hy,hn,L,hL,rfl,hB⟩ | ⟨v,xs,x2,r2,hy,rfl,⟨F,hR,hN⟩,hr2⟩⟩
 ·exact⟨rfl,K1.out.trans hk2,Or.inl ⟨n,r,(Y1.out _).trans (Zai hy),hn,L,by simp at hs1;omega,rfl,hB⟩⟩
 obtain⟨p1,cc,rfl⟩:=Zag.form hR;have hs2:=hk2.size;obtain⟨y0,y1,y2,y3,sf⟩:=(L1.out.of (hk2.block w.heap.size (by simp at hs1;omega) (by omega))).four;have EY:(Zbg (Zdc t x p) fun _ x1 p1=>Zbg (Zh1 t (Zet t d) [93] x1 p1) fun l x2 p2=>(.ok (.mk 7 0 ⟨#[]⟩ l,x2,p2):Re T))= .ok (.mk 7 0 ⟨#[]⟩ xs,x2,r2):=(Y1.out _).trans (Zas hy);have R:=Zaa (Yda hR (Yda hN (Yda hr2 (Yda EY (K1.out.trans hk2)))));clear hR hN hr2 hy hk2 CS Y1 Z1 K1 L1 HR1 EY;go_wp2
 refine Ye6 (by simp[results,results238,go_sem,y0,y1,y2,y3];try rfl) rfl ?_;obtain⟨hR,hN,hr1,hy,hk1⟩:=R.out;simp at hs1;exact⟨hk1.r4 lr,Or.inr ⟨_,T.mk 7 0 ⟨#[]⟩ xs,x2,r2,hy,rfl,⟨[.int .i64 7,.int .i64 0,.string ⟨#[]⟩,.slice p1 xs.length cc],F,rfl,⟨_,rfl,(by show Zlg 7;constructor <;> decide),(by show Zlg 0;constructor <;> decide),(by show(ByteArray.mk #[]).size < 1000000000;decide),Zag.stable (Za3.stable (ty:=Zad) (d+1)) _ _ _ _ _ hR fun j hj=>Zch (by have:=hN.ge j hj;omega)⟩,hN.later (by omega) (by simp)⟩,hr1.keepN (Zch (by omega))⟩⟩
end Go.P
namespace Go.W
section
variable {t:ByteArray} {d:Nat} {x:Tk} {p:Nat}
theorem Z1m (h:Zjy x.text=true):Zet t d x p=Zbg (Zdc t x p) fun _ x1 p1=> .ok (.mk 6 (if x.text.toList=Zu7 then 1 else 0) ⟨#[]⟩ [],x1,p1):=by
 cases d <;> rw[Zet,if_pos h]
def Z9j (t:ByteArray):Nat->Tk->Nat->Re T
 | 0,x,_=> .error (3,x.at_)
 | d+1,x,p=>Zbg (Zdc t x p) fun _ x1 p1=>Zbg (Zh1 t (Zet t d) [93] x1 p1) fun l x2 p2=> .ok (.mk 7 0 ⟨#[]⟩ l,x2,p2)
theorem Z1n (h:Zjy x.text=false)(hl:x.text.toList=[91]):Zet t d x p=Z9j t d x p:=by
 cases d <;> rw[Zet,if_neg (by rw[h];simp),if_pos hl,Z9j]
theorem Z7m (h:Zjy x.text=false)(hl:x.text.toList≠[91])(hk:x.k=0\/x.k=1/\d < 3):Zet t d x p= .error (2,x.at_):=by
 cases d with
 | zero=>rw[Zet,if_neg (by rw[h];simp),if_neg hl,if_pos (hk.imp_right And.left)]
 | succ d=>rw[Zet,if_neg (by rw[h];simp),if_neg hl,if_pos hk]
theorem Zxh (h:Zjy x.text=false)(hl:x.text.toList≠[91])(hk: ¬ (x.k=0\/x.k=1/\d < 3)):Zet t d x p=Zbg (Zdc t x p) fun _ x1 p1=> .ok (.mk x.k x.i x.s [],x1,p1):=by
 cases d with
 | zero=>rw[Zet,if_neg (by rw[h];simp),if_neg hl,if_neg (fun z=>hk (z.imp_right fun g=>⟨g,by omega⟩))]
 | succ d=>rw[Zet,if_neg (by rw[h];simp),if_neg hl,if_neg hk]
end
end Go.W
namespace Go.P
def Zs4 (d:Nat):Prop:= ∀ {a:Nat->Addr} {w:World} {b:Nat} {t:ByteArray} {p:Nat} {x:Tk},Zao a w->Rd w b t p x->Calls prog 238 #[.pointer (some ⟨b,0,none⟩),.int .i64 ((3 - d:Nat):Int)] w (Ze6 a b t (Zlh (Za3 Zad (d+1)) w.heap.size) w (Z9j t d x p))
theorem Z07:Zs4 0:=by
 intro a w b t p x Z h;have H0:=Zaa (h.alloc (.cells #[.int .i64 0,.int .i64 0,.string ⟨#[]⟩,.slice none 0 0] 117));have z3:=fun o=>Zab Z.c3 ((Ydb _ w).alloc lr o);have CR:=Zaa (Zbf a (n:=3) (by decide) H0.out);have K0:=Zaa ((Zah.refl b w).alloc (.cells #[.int .i64 0,.int .i64 0,.string ⟨#[]⟩,.slice none 0 0] 117));clear Z h;go_in
 go_wp2_with fail
 refine CR.out.mono ?_;rintro e w2 ⟨⟨L,hL,rfl,hB⟩,hb⟩;exact⟨rfl,K0.out.ofBelow hb,Or.inl ⟨3,_,rfl,by decide,L,by simp at hL;omega,rfl,hB⟩⟩
theorem Zra {d:Nat}(hd:d<=3)(LI:Zs4 d):Zib d:=by
 intro a w b t p x Z h hx;have hg:=h.2.2.2;have hb:=h.1.lt;obtain⟨dd,hdd⟩: ∃ z:Int,((3 - d:Nat):Int)=z:=⟨_,rfl⟩;have G:=Zaa (show 0 < dd↔d < 3 by omega);obtain⟨W,hW⟩: ∃ W,((w.alloc (.cells #[.int .i64 0,.int .i64 0,.string ⟨#[]⟩,.slice none 0 0] 117)).alloc (.cells #[.int .i64 (x.at_:Int),.string x.text,.int .i64 x.k,.int .i64 x.i,.string x.s,.slice none 0 0] 179))=W:=⟨_,rfl⟩;have HR:Box (Rd W b t p x):=⟨hW▸(h.alloc _).alloc _⟩;have HK:Box (Zah b w W):=⟨hW▸((Zah.refl b w).alloc _).alloc _⟩;have ZW:Box (Zao a W):=⟨Z.keeps HK.out hg⟩;have L0:Box (Blk W w.heap.size #[.int .i64 0,.int .i64 0,.string ⟨#[]⟩,.slice none 0 0] 117):=⟨hW▸(Blk.new w _ _).alloc _⟩;have L1:Box (Blk W (w.heap.size+1) #[.int .i64 (x.at_:Int),.string x.text,.int .i64 x.k,.int .i64 x.i,.string x.s,.slice none 0 0] 179):=⟨by have:=Blk.new (w.alloc (.cells #[.int .i64 0,.int .i64 0,.string ⟨#[]⟩,.slice none 0 0] 117)) #[.int .i64 (x.at_:Int),.string x.text,.int .i64 x.k,.int .i64 x.i,.string x.s,.slice none 0 0] 179;rw[hW]at this;simpa using this⟩;have hWs:W.heap.size=w.heap.size+2:=by rw[<- hW];simp
 have CB:=Zaa (fun u=>Zqv x.text u);have CT:=Zaa (Zc8 ZW.out HR.out);have CL:=Zaa (LI ZW.out HR.out);rw[hdd]at CL⊢;obtain⟨c0,c1,c2,c3,c4,c5,c6,c7,sf⟩:=h.1.eight;have HW:=Zaa hW;have SW:=Zaa hWs;clear hW hWs;go_in
 go_wp2_with fail
 rw[HW.out];clear c0 c1 c2 c3 c4 c5 c6 c7 sf Z h;have hWs:=SW.out;obtain⟨d0,d1,d2,d3,d4,d5,sd⟩:=L1.out.six;obtain⟨y0,y1,y2,y3,sy⟩:=L0.out.four;cases hbw:Zjy x.text
 case' true=>
  rw[hbw]at CB;have Y:=Zaa (Z1m (t:=t) (d:=d) (p:=p) hbw);clear CL;refine(CB.out _).mono ?_;rintro e w' ⟨rfl,rfl⟩;have CV:=Zaa (fun u=>Ztf (x.text.toList==Zu7) u);go_wp2_with fail
  refine CT.out.mono ?_;rintro e w1 ⟨hk1,⟨n,r,hy,hn,L,hL,rfl,hB⟩ | ⟨v,y,x1,r1,hy,rfl,hv,hr1⟩⟩
  ·exact⟨rfl,HK.out.trans hk1,Or.inl ⟨n,r,Y.out.trans (Zai hy),hn,L,by omega,rfl,hB⟩⟩
  obtain rfl:v=Zm2 y:=hv;have M1:=Zaa (L1.out.of (hk1.block _ (by omega) (by omega)));have M0:=Zaa (L0.out.of (hk1.block _ (by omega) (by omega)));have R:=Zaa (Yda (HK.out.trans hk1) (Yda hr1 (Y.out.trans (Zas hy))));have hs1:=hk1.size;clear hk1 hr1 hy CT L0 L1 Y d0 d1 d2 d3 d4 d5 sd y0 y1 y2 y3 sy CB;obtain⟨d0,d1,d2,d3,d4,d5,sd⟩:=M1.out.six;unfold Zu7 at CV;go_wp2_with fail
  refine(CV.out _).mono ?_;rintro e w2 ⟨rfl,hb2⟩;obtain⟨y0,y1,y2,y3,sy⟩:=(M0.out.of (hb2.block _ (by omega))).four;have R2:=Zaa (Yda (R.out.1.ofBelow hb2) (Yda (R.out.2.1.of hb2) R.out.2.2));have hs2:=hb2.size;clear hb2 d0 d1 d2 d3 d4 d5 sd M1 M0 R;have eb:(if(x.text.toList==[116,114,117,101])=true then(1:Int)else 0)=if x.text.toList=Zu7 then 1 else 0:=by
   unfold Zu7;by_cases hh:x.text.toList=[116,114,117,101]
   ·rw[if_pos hh,if_pos (by rw[Yfb];exact hh)]
   ·rw[if_neg hh,if_neg (by rw[Yfb];exact hh)]
  rw[eb];obtain⟨ib,hib⟩: ∃ z:Int,(if x.text.toList=Zu7 then(1:Int)else 0)=z:=⟨_,rfl⟩;have hi64:Zlg ib:=by
   rw[<- hib];split
   ·exact⟨by decide,by decide⟩
   ·exact Zg4
  rw[hib]at R2⊢;clear eb hib;go_wp2
  refine Ye6 (by simp[results,results208,go_sem,y0,y1,y2,y3];try rfl) rfl ?_;exact⟨R2.out.1.r4 lr,Or.inr ⟨_,_,_,_,R2.out.2.2,rfl,⟨[.int .i64 6,.int .i64 ib,.string ⟨#[]⟩,.slice none 0 0],[],rfl,⟨_,rfl,⟨by show(-9223372036854775808:Int)<=6;decide,by show(6:Int)<=9223372036854775807;decide⟩,hi64,by show(0:Nat) < _;decide,Zag.nil⟩,Za7.nil _ _⟩,R2.out.2.1.keepN (Zch (by omega))⟩⟩
 rw[hbw]at CB;refine(CB.out _).mono ?_;rintro e w' ⟨rfl,rfl⟩;by_cases hl:x.text.toList=[91]
 ·have g1:(x.text.toList==[91])=true:=by rw[Yfb];exact hl
  have Y:=Zaa (Z1n (t:=t) (d:=d) (p:=p) hbw hl);clear hl CT;go_wp2_with fail
  refine CL.out.mono ?_;rintro e w1 ⟨hk1,⟨n,r,hy,hn,L,hL,rfl,hB⟩ | ⟨v,z,x1,r1,hy,rfl,⟨vs,F,rfl,hQ,hN⟩,hr1⟩⟩
  ·exact⟨rfl,HK.out.trans hk1,Or.inl ⟨n,r,Y.out.trans hy,hn,L,by omega,rfl,hB⟩⟩
  obtain⟨p1,cc,rfl⟩:=Za3.vals hQ;have hs1:=hk1.size;have R:=Zaa (Yda (HK.out.trans hk1) (Yda hr1 (Yda (Y.out.trans hy) (Yda hQ hN))));have M0:=Zaa (L0.out.of (hk1.block _ (by omega) (by omega)));clear hk1 hr1 hy hQ hN CL L0 L1 Y d0 d1 d2 d3 d4 d5 sd y0 y1 y2 y3 sy CB;obtain⟨y0,y1,y2,y3,sy⟩:=M0.out.four;go_wp2
  refine Ye6 (by simp[results,results208,go_sem,y0,y1,y2,y3];try rfl) rfl ?_;obtain⟨hk1,hr1,hy,hQ,hN⟩:=R.out;exact⟨hk1.r4 lr,Or.inr ⟨_,z,x1,r1,hy,rfl,⟨_,F,rfl,Za3.stable (d+1) _ _ _ _ _ hQ fun j hj=>Zch (by have:=hN.ge j hj;omega),hN.later (by omega) (by simp)⟩,hr1.keepN (Zch (by omega))⟩⟩
 have g1:(x.text.toList==[91])=false:=by rw[Ye4];exact hl
 clear CL;by_cases hk:x.k=0\/x.k=1/\d < 3
 ·have Y:=Zaa (Z7m (t:=t) (p:=p) hbw hl hk);have GG:(x.k==0)=true\/(x.k==0)=false/\(x.k==1)=true/\decide (0 < dd)=true:=by
   by_cases h0:x.k=0
   ·exact Or.inl (by rw[Yfb];exact h0)
   ·have:=hk.resolve_left h0
    exact Or.inr ⟨by rw[Ye4];exact h0,by rw[Yfb];exact this.1,Yfj (G.out.2 this.2)⟩
  have z2:=ZW.out.c2;have C2:=Zaa (Zbf a (n:=2) (by decide) HR.out);clear hk hl CT;rcases GG with ga | ⟨ga,gb,gc⟩;all_goals
   go_wp2_with fail
   refine C2.out.mono ?_;rintro e w2 ⟨⟨L,hL,rfl,hB⟩,hb⟩;exact⟨rfl,HK.out.ofBelow hb,Or.inl ⟨2,_,Y.out,by decide,L,by omega,rfl,hB⟩⟩
 have Y:=Zaa (Zxh (t:=t) (p:=p) hbw hl hk);have GG:(x.k==0)=false/\(x.k==1)=false\/(x.k==0)=false/\(x.k==1)=true/\decide (0 < dd)=false:=by
  have h0:x.k≠0:=fun z=>hk (Or.inl z);by_cases h1:x.k=1
  ·exact Or.inr ⟨by rw[Ye4];exact h0,by rw[Yfb];exact h1,Yfg fun z=>hk (Or.inr ⟨h1,G.out.1 z⟩)⟩
  ·exact Or.inl ⟨by rw[Ye4];exact h0,by rw[Ye4];exact h1⟩
 clear hk hl;rcases GG with⟨ga,gb⟩ | ⟨ga,gb,gc⟩;all_goals
  go_wp2_with fail
  refine CT.out.mono ?_;rintro e w1 ⟨hk1,⟨n,r,hy,hn,L,hL,rfl,hB⟩ | ⟨v,y,x1,r1,hy,rfl,hv,hr1⟩⟩
  ·exact⟨rfl,HK.out.trans hk1,Or.inl ⟨n,r,Y.out.trans (Zai hy),hn,L,by omega,rfl,hB⟩⟩
  obtain rfl:v=Zm2 y:=hv;have M1:=Zaa (L1.out.of (hk1.block _ (by omega) (by omega)));have M0:=Zaa (L0.out.of (hk1.block _ (by omega) (by omega)));have R:=Zaa (Yda (HK.out.trans hk1) (Yda hr1 (Y.out.trans (Zas hy))));have hs1:=hk1.size;clear hk1 hr1 hy CT L0 L1 Y d0 d1 d2 d3 d4 d5 sd y0 y1 y2 y3 sy CB;obtain⟨d0,d1,d2,d3,d4,d5,sd⟩:=M1.out.six;obtain⟨y0,y1,y2,y3,sy⟩:=M0.out.four;go_wp2
  refine Ye6 (by simp[results,results208,go_sem,y0,y1,y2,y3];try rfl) rfl ?_;exact⟨R.out.1.r4 lr,Or.inr ⟨_,_,_,_,R.out.2.2,rfl,⟨[.int .i64 x.k,.int .i64 x.i,.string x.s,.slice none 0 0],[],rfl,⟨_,rfl,hx.2.2.1,hx.2.2.2,hx.2.1,Zag.nil⟩,Za7.nil _ _⟩,R.out.2.1.keepN (Zch (by omega))⟩⟩
theorem Zop: ∀ d,d<=3->Zib d
 | 0,h=>Zra h Z07
 | d+1,h=>Zra h (Z4o (Zop d (by omega)) (by omega))
end Go.P
namespace Go.W
variable {s:ByteArray}
theorem Ycg {k:Nat}{m:ByteArray}(hk:Zbv[k]?=some m)(h0: ∀ j m',j < k->Zbv[j]?=some m'->m'≠s)(h1:m=s):opW s=k+1:=by
 have:Zbv.findIdx? (fun m=>decide (m=s))=some k:=by
  rw[List.findIdx?_eq_some_iff_getElem];refine⟨(Ydl.1 hk).1,by rw[(Ydl.1 hk).2];exact Yfj h1,?_⟩;intro j hj;have hl:j < Zbv.length:=Nat.lt_trans hj (Ydl.1 hk).1
  have:=h0 j Zbv[j] hj (Ydi hl)
  simpa using this
 unfold opW;rw[this]
theorem Ych (h0: ∀ j m',j < 7->Zbv[j]?=some m'->m'≠s):opW s=0:=by
 have:Zbv.findIdx? (fun m=>decide (m=s))=none:=by
  rw[List.findIdx?_eq_none_iff];intro m hm;obtain⟨j,hj,rfl⟩:=List.getElem_of_mem hm
  have:=h0 j Zbv[j] hj (Ydi hj)
  simpa using this
 unfold opW;rw[this]
theorem Ybs (s:ByteArray):opW s<=7:=by
 unfold opW;split
 ·rename_i i h
  have:=(List.findIdx?_eq_some_iff_getElem.1 h).1
  simp[Zbv]at this;omega
 ·omega
end Go.W
namespace Go.P
variable {a:Nat->Addr}{w:World}
theorem Zao.ops (h:Zao a w)(i:Nat)(s:ByteArray)(hs:Zbv[i]?=some s):w.cell? ⟨17,i,none⟩=some (.string s):=by
 obtain⟨_,h0,h1⟩:=h;exact(h1 _ _ (by decide)).2.trans (h0.ops i s hs)
theorem Z9p (k:Nat)(h:k < 7): ∃ m,Zbv[k]?=some m/\ ∀ w,(Instr.index 363 (.agg #[.string (Zgn 1),.string (Zgn 2),.string (Zgn 3),.string (Zgn 4),.string (Zgn 5),.string (Zgn 6),.string (Zgn 7)]) (.int .i64 (k:Int))).run prog w= .ok (.string m) w:=by
 have g:k=0\/k=1\/k=2\/k=3\/k=4\/k=5\/k=6:=by omega
 rcases g with rfl | rfl | rfl | rfl | rfl | rfl | rfl;all_goals exact⟨_,rfl,fun _=>by kernel_rfl⟩
def Yb9 (w:World) (s:ByteArray) (iv:Value) (wr:World):Prop:= ∃ k:Nat,k<=7/\iv= .int .i64 (k:Int)/\wr=w/\ ∀ j m',j < k->Zbv[j]?=some m'->m'≠s
theorem Zwe (Z:Zao a w)(s:ByteArray):Calls prog 209 #[.string s] w fun e w'=>e= .returned (.int .i64 (opW s:Nat))/\w'=w:=by
 have m0:=Z.ops 0 _ rfl;have m1:=Z.ops 1 _ rfl;have m2:=Z.ops 2 _ rfl;have m3:=Z.ops 3 _ rfl;have m4:=Z.ops 4 _ rfl;have m5:=Z.ops 5 _ rfl;have m6:=Z.ops 6 _ rfl;clear Z;go_in
 go_wp2_with fail
 clear m0 m1 m2 m3 m4 m5 m6;go_loopw [6] (fun iv wr=>Yb9 w s iv wr) (fun iv _=>7 - Z66 iv)
 case atStart=>exact⟨0,by omega,rfl,rfl,fun j _ hj=>absurd hj (by omega)⟩
 case round=>
  obtain⟨k,hk,rfl,rfl,hall⟩:=hrel;have A:=Zaa hall;clear hall;by_cases hlt:k < 7
  ·obtain⟨m,hm,ik⟩:=Z9p k hlt;have g:(k:Int) < 7:=by omega
   by_cases he:m=s
   ·have Y:=Zaa (Ycg hm A.out he);have g2:(m.toList==s.toList)=true:=by rw[Zjb];exact Yfj he
    clear hm A he;go_wp2
    go_ret
    rw[Y.out];exact⟨by simp,rfl⟩
   ·have g2:(m.toList==s.toList)=false:=by rw[Zjb];exact Yfg he
    have S:Box (∀ j m',j < k+1->Zbv[j]?=some m'->m'≠s):=⟨fun j m' hj hm'=>by
     by_cases hjk:j=k
     ·subst hjk;rw[hm]at hm';cases hm';exact he
     ·exact A.out j m' (by omega) hm'⟩
    clear hm A he;go_wp2
    exact⟨⟨k+1,by omega,by simp,rfl,S.out⟩,by simp[Z66];omega⟩
  ·obtain rfl:k=7:=by omega
   have Y:=Zaa (Ych A.out);go_wp2
   go_ret
   rw[Y.out];exact⟨rfl,rfl⟩
end Go.P
namespace Go.P
variable {a:Nat->Addr}{w:World}{b p:Nat}{t:ByteArray}{x:Tk}
theorem Z6d (x:Tk)(u:World):(Instr.field 179 (.agg #[.int .i64 (x.at_:Int),.string x.text,.int .i64 x.k,.int .i64 x.i,.string x.s,.slice none 0 0]) 1).run prog u= .ok (.string x.text) u:=by kernel_rfl
theorem Ybf (x:Tk)(u:World):(Instr.field 179 (.agg #[.int .i64 (x.at_:Int),.string x.text,.int .i64 x.k,.int .i64 x.i,.string x.s,.slice none 0 0]) 0).run prog u= .ok (.int .i64 (x.at_:Int)) u:=by kernel_rfl
theorem Zut (Z:Zao a w)(h:Rd w b t p x)(hx:Zm5 x):
  Calls prog 131 #[.pointer (some ⟨b,0,none⟩)] w (Ze6 a b t (Zlh (Zbk Zad 4) w.heap.size) w (Zpm t x p)):=by
 have hg:=h.2.2.2;have ht:=h.2.1;have hb:=h.1.lt;have L0:=Zaa (Blk.new w #[.string ⟨#[]⟩,.slice none 0 0] 112);have K0:=Zaa ((Zah.refl b w).alloc (.cells #[.string ⟨#[]⟩,.slice none 0 0] 112));have H0:=Zaa (h.alloc (.cells #[.string ⟨#[]⟩,.slice none 0 0] 112));have Z0:=Zaa (Z.below ((Ydb _ w).alloc lr (.cells #[.string ⟨#[]⟩,.slice none 0 0] 112)));obtain⟨c0,c1,c2,c3,c4,c5,c6,c7,sf⟩:=H0.out.1.eight;have CW:=Zaa (Zqw x hx.1 (w.alloc (.cells #[.string ⟨#[]⟩,.slice none 0 0] 112)));have CK:=Zaa (Z0r x.text);unfold Zm2 at CW;clear Z h;go_in
 go_wp2_with fail
 refine mq CW.out ?_;rintro w1 hb1;have HR1:=Zaa (H0.out.of hb1);have K1:=Zaa (K0.out.ofBelow hb1);have Z1:=Zaa (Z0.out.below hb1);have L1:=Zaa (L0.out.of (hb1.block _ (by simp)));have hs1:=hb1.size;simp at hs1;clear c0 c1 c2 c3 c4 c5 c6 c7 sf hb1 K0 H0 Z0 L0 CW;obtain⟨c0,c1,c2,c3,c4,c5,c6,c7,sf⟩:=HR1.out.1.eight;by_cases hok:Zi1 x.text=true/\Z0s x.text=false
 ·have Y:=Zaa (show Zpm t x p=Zbg (Zdc t x p) fun _ x1 p1=>Zbg (Zh5 t [40] x1 p1) fun _ x2 p2=>Zbg (Zh1 t (Zet t 3) [41] x2 p2) fun l x3 p3=> .ok (⟨x.text,l⟩,x3,p3)from if_pos hok);have CT:=Zaa (Zc8 Z1.out HR1.out);have C1:=Zaa (fun u q y (h1:Zao a u) (h2:Rd u b t q y)=>Zjc ⟨#[40]⟩ h1 h2);have C2:=Zaa (fun u q y (h1:Zao a u) (h2:Rd u b t q y) (h3:Zm5 y)=>Zrb (Zop 3 (by omega)) ⟨#[41]⟩ h1 h2 h3);rw[show(⟨#[40]⟩:ByteArray).toList=[40]from Zla [40]]at C1;rw[show(⟨#[41]⟩:ByteArray).toList=[41]from Zla [41],show((3 - 3:Nat):Int)=0 from rfl]at C2;rw[hok.2]at CK;rw[hok.1];clear hok;go_wp2_with (go_at_call 173;refine(CK.out _).mono ?_;rintro e w' ⟨rfl,rfl⟩)
  refine CT.out.mono ?_;rintro e w2 ⟨hk2,⟨n,r,hy,hn,L,hL,rfl,hB⟩ | ⟨v,y,x2,r2,hy,rfl,hv,hr2⟩⟩
  ·exact⟨rfl,K1.out.trans hk2,Or.inl ⟨n,r,Y.out.trans (Zai hy),hn,L,by omega,rfl,hB⟩⟩
  obtain rfl:v=Zm2 y:=hv;obtain⟨hx2,rfl⟩:=Zeq ht hy;have Y2:=Zaa (Y.out.trans (Zas hy));have hs2:=hk2.size;have HR2:=Zaa hr2;have K2:=Zaa (K1.out.trans hk2);have Z2:=Zaa (Z1.out.keeps hk2 hg);have L2:=Zaa (L1.out.of (hk2.block _ (by omega) (by omega)));clear c0 c1 c2 c3 c4 c5 c6 c7 sf hk2 hr2 hy CT Y HR1 K1 Z1 L1;unfold Zm2;have fd:=Z6d y;go_wp2_with fail
  clear fd;refine(C1.out _ _ _ Z2.out HR2.out).mono ?_;rintro e w3 ⟨hk3,⟨n,r,hy,hn,L,hL,rfl,hB⟩ | ⟨v,z,x3,r3,hy,rfl,hv,hr3⟩⟩
  ·exact⟨rfl,K2.out.trans hk3,Or.inl ⟨n,r,Y2.out.trans (Zai hy),hn,L,by omega,rfl,hB⟩⟩
  obtain rfl:v= .tuple #[]:=hv;have hx3:=Zlb ht hy;have Y3:=Zaa (Y2.out.trans (Zas hy));have hs3:=hk3.size;have HR3:=Zaa hr3;have K3:=Zaa (K2.out.trans hk3);have Z3:=Zaa (Z2.out.keeps hk3 hg);have L3:=Zaa (L2.out.of (hk3.block _ (by omega) (by omega)));clear hk3 hr3 hy Y2 HR2 K2 Z2 L2;go_wp2_with fail
  refine(C2.out _ _ _ Z3.out HR3.out hx3).mono ?_;rintro e w4 ⟨hk4,⟨n,r,hy,hn,L,hL,rfl,hB⟩ | ⟨v,l,x4,r4,hy,rfl,⟨F,hR,hN⟩,hr4⟩⟩
  ·exact⟨rfl,K3.out.trans hk4,Or.inl ⟨n,r,Y3.out.trans (Zai hy),hn,L,by omega,rfl,hB⟩⟩
  obtain⟨p1,cc,rfl⟩:=Zag.form hR;have hs4:=hk4.size;obtain⟨y0,y1,sy⟩:=(L3.out.of (hk4.block _ (by omega) (by omega))).two;have R:=Zaa (Yda (K3.out.trans hk4) (Yda hr4 (Yda (Y3.out.trans (Zas hy)) (Yda hR hN))));clear hk4 hr4 hy Y3 HR3 K3 Z3 L3 hR hN;go_wp2
  refine Ye6 (by simp[results,results131,go_sem,y0,y1];try rfl) rfl ?_;obtain⟨hk,hr,hy,hR,hN⟩:=R.out;exact⟨hk.r2 lr,Or.inr ⟨_,⟨y.text,l⟩,x4,r4,hy,rfl,⟨[.string y.text,.slice p1 l.length cc],F,rfl,⟨_,rfl,hx.1,Zag.stable (Za3.stable (ty:=Zad) 4) _ _ _ _ _ hR fun j hj=>Zr8 (by have:=hN.ge j hj;omega)⟩,hN.later (by omega) (by simp)⟩,hr.keepN (Zr8 (by omega))⟩⟩
 ·have Y:=Zaa (show Zpm t x p= .error (2,x.at_)from if_neg hok);have GG:Zi1 x.text=false\/Zi1 x.text=true/\Z0s x.text=true:=by
   cases h1:Zi1 x.text
   ·exact Or.inl rfl
   ·cases h2:Z0s x.text
    ·exact absurd ⟨h1,h2⟩ hok
    ·exact Or.inr ⟨rfl,rfl⟩
  have z2:=Z1.out.c2;have C2:=Zaa (Zbf a (n:=2) (by decide) HR1.out);clear hok;rcases GG with ga | ⟨ga,gb⟩
  case' inr=>rw[gb]at CK
  all_goals
   rw[ga];go_wp2_with (go_at_call 173;refine(CK.out _).mono ?_;rintro e w' ⟨rfl,rfl⟩)
   refine C2.out.mono ?_;rintro e w2 ⟨⟨L,hL,rfl,hB⟩,hb⟩;exact⟨rfl,K1.out.ofBelow hb,Or.inl ⟨2,_,Y.out,by decide,L,by omega,rfl,hB⟩⟩
theorem Z05 (Z:Zao a w)(h:Rd w b t p x)(hx:Zm5 x):
  Calls prog 178 #[.pointer (some ⟨b,0,none⟩)] w (Ze6 a b t (Zlh (Zbr Zad 4) w.heap.size) w (Zt6 t x p)):=by
 have hg:=h.2.2.2;have ht:=h.2.1;have hb:=h.1.lt;have CT:=Zaa (fun u q y (h1:Zao a u) (h2:Rd u b t q y) (h3:Zm5 y)=>Zop 3 (by omega) h1 h2 h3);rw[show((3 - 3:Nat):Int)=0 from rfl]at CT;obtain⟨O,hO⟩: ∃ O:Obj,O= .cells #[.int .i64 0,.int .i64 0,.int .i64 0,.string ⟨#[]⟩,.slice none 0 0,.int .i64 0,.int .i64 0,.string ⟨#[]⟩,.slice none 0 0] 119:=⟨_,rfl⟩;have L0:=Zaa (Blk.new w #[.int .i64 0,.int .i64 0,.int .i64 0,.string ⟨#[]⟩,.slice none 0 0,.int .i64 0,.int .i64 0,.string ⟨#[]⟩,.slice none 0 0] 119);have K0:=Zaa ((Zah.refl b w).alloc O);have H0:=Zaa (h.alloc O);have Z0:=Zaa (Z.below ((Ydb _ w).alloc lr O));have hs0:(w.alloc O).heap.size=w.heap.size+1:=by simp
 rw[<- hO]at L0;have CR:=Zaa (fun u q y (h2:Rd u b t q y)=>Zbf a (n:=2) (by decide) h2);have CK:=Zaa (fun u q y (h1:Zao a u) (h2:Rd u b t q y)=>Zc8 h1 h2);have CO:=Zaa (fun u (h1:Zao a u) s=>Zwe h1 s);have Y:Box (Zt6 t x p=Zbg (Zet t 3 x p) fun a x1 p1=>if opW x1.text=0 then .error (2,x1.at_)else Zbg (Zdc t x1 p1) fun _ x2 p2=>Zbg (Zet t 3 x2 p2) fun b x3 p3=> .ok (⟨opW x1.text,a,b⟩,x3,p3)):=⟨rfl⟩;clear Z h;go_in
 go_wp2_with fail
 rw[<- hO];refine(CT.out _ _ _ Z0.out H0.out hx).mono ?_;rintro e w1 ⟨hk1,⟨n,r,hy,hn,L,hL,rfl,hB⟩ | ⟨v,z,x1,r1,hy,rfl,⟨vs,F,rfl,hQ,hN⟩,hr1⟩⟩
 ·exact⟨rfl,K0.out.trans hk1,Or.inl ⟨n,r,Y.out.trans (Zai hy),hn,L,by omega,rfl,hB⟩⟩
 obtain⟨p1,cc,rfl⟩:=Za3.vals hQ;have Y1:=Zaa (Y.out.trans (Zas hy));have hs1:=hk1.size;have QF:=Zaa (Yda hQ hN);have LF:=Zaa (Blk.new w1 #[.int .i64 z.k,.int .i64 z.i,.string z.t,.slice p1 z.l.length cc] 117);have HR1:=Zaa (hr1.alloc (.cells #[.int .i64 z.k,.int .i64 z.i,.string z.t,.slice p1 z.l.length cc] 117));have K1:=Zaa ((K0.out.trans hk1).alloc (.cells #[.int .i64 z.k,.int .i64 z.i,.string z.t,.slice p1 z.l.length cc] 117));have Z1:=Zaa ((Z0.out.keeps hk1 hg).below ((Ydb _ w1).alloc lr (.cells #[.int .i64 z.k,.int .i64 z.i,.string z.t,.slice p1 z.l.length cc] 117)));have L1:=Zaa ((L0.out.of (hk1.block _ (by omega) (by omega))).alloc (.cells #[.int .i64 z.k,.int .i64 z.i,.string z.t,.slice p1 z.l.length cc] 117));clear hk1 hr1 hy hQ hN Y K0 H0 Z0 L0 hO;obtain⟨c0,c1,c2,c3,c4,c5,c6,c7,sf⟩:=HR1.out.1.eight;go_wp2_with fail
 obtain⟨w2,hw2⟩: ∃ w2,w1.alloc (.cells #[.int .i64 z.k,.int .i64 z.i,.string z.t,.slice p1 z.l.length cc] 117)=w2:=⟨_,rfl⟩;have hs2:w2.heap.size=w1.heap.size+1:=by rw[<- hw2];simp
 have QF2:Box (Za3 Zad 4 w2 [.int .i64 z.k,.int .i64 z.i,.string z.t,.slice p1 z.l.length cc] z F):=⟨Za3.stable (ty:=Zad) 4 _ _ _ _ _ QF.out.1 fun j hj=>by rw[<- hw2];exact Ydf _ _ _ (QF.out.2.lt j hj)⟩;have NF2:=QF.out.2;rw[hw2]at LF HR1 K1 Z1 L1 c0 c1 c2 c3 c4 c5 c6 c7 sf⊢;clear hw2 QF;refine(CO.out _ Z1.out _).mono ?_;rintro e w' ⟨rfl,rfl⟩;have ol:=Ybs x1.text;generalize opW x1.text=o at*;by_cases ho:o=0
 ·have Y2:=Zaa (Y1.out.trans (if_pos ho));have g1:((o:Int)==0)=true:=by rw[Yfb];omega
  have z2:=Z1.out.c2;clear ho;go_wp2_with fail
  refine(CR.out _ _ _ HR1.out).mono ?_;rintro e w3 ⟨⟨L,hL,rfl,hB⟩,hb⟩;exact⟨rfl,K1.out.ofBelow hb,Or.inl ⟨2,_,Y2.out,by decide,L,by omega,rfl,hB⟩⟩
 have Y2:=Zaa (Y1.out.trans (if_neg ho));have g1:((o:Int)==0)=false:=by rw[Ye4];omega
 clear ho Y1;go_wp2_with fail
 refine(CK.out _ _ _ Z1.out HR1.out).mono ?_;rintro e w3 ⟨hk3,⟨n,r,hy,hn,L,hL,rfl,hB⟩ | ⟨v,y,x3,r3,hy,rfl,hv,hr3⟩⟩
 ·exact⟨rfl,K1.out.trans hk3,Or.inl ⟨n,r,Y2.out.trans (Zai hy),hn,L,by omega,rfl,hB⟩⟩
 obtain rfl:v=Zm2 y:=hv;obtain⟨hx3,rfl⟩:=Zeq ht hy;have Y3:=Zaa (Y2.out.trans (Zas hy));have hs3:=hk3.size;have HR3:=Zaa hr3;have K3:=Zaa (K1.out.trans hk3);have Z3:=Zaa (Z1.out.keeps hk3 hg);have L3:=Zaa (L1.out.of (hk3.block _ (by omega) (by omega)));have LF3:=Zaa (LF.out.of (hk3.block _ (by omega) (by omega)));have QF3:=Zaa (Za3.stable (ty:=Zad) 4 _ _ _ _ _ QF2.out fun j hj=>hk3.block j (by have:=NF2.lt j hj;omega) (by have:=NF2.ge j hj;omega));clear hk3 hr3 hy Y2 HR1 K1 Z1 L1 LF QF2 c0 c1 c2 c3 c4 c5 c6 c7 sf;obtain⟨f0,f1,f2,f3,sg⟩:=LF3.out.four;have ZD:=Zaa Z3.out.drew;have HD:=Zaa HR3.out.drew;have KD:=Zaa K3.out.drew;go_wp2
 go_region_with (go_at_call 208;refine(CT.out _ _ _ ZD.out HD.out hx3).mono ?_;rintro e w4 ⟨hk4,⟨n,r,hy,hn,L,hL,rfl,hB⟩ | ⟨v,z4,x4,r4,hy,rfl,⟨vs,F4,rfl,hQ,hN⟩,hr4⟩⟩;(exact⟨rfl,KD.out.trans hk4,Or.inl ⟨n,r,Y3.out.trans (Zai hy),hn,L,(by show _<=L;have:w3.heap.size<=L:=hL;omega),rfl,hB⟩⟩);have LF4:=LF3.out.of (w':=w4) (hk4.block _ (by show _ < w3.heap.size;omega) (by omega));obtain⟨e0,e1,e2,e3,-⟩:=LF4.four;obtain⟨p4,cc4,rfl⟩:=Za3.vals hQ;have LR:=L3.out.of (w':=w4) (hk4.block _ (by show _ < w3.heap.size;omega) (by omega));obtain⟨y0,y1,y2,y3,y4,y5,y6,y7,y8,sy⟩:=LR.nine)
 all_goals
  have hs4:w3.heap.size<=w4.heap.size:=hk4.size;have QF4:=Zaa (Za3.stable (ty:=Zad) 4 _ w4 _ _ _ QF3.out fun j hj=>hk4.block j (by show j < w3.heap.size;have:=NF2.lt j hj;omega) (by have:=NF2.ge j hj;omega));have R:=Zaa (Yda (KD.out.trans hk4) (Yda hr4 (Yda (Y3.out.trans (Zas hy)) (Yda hQ hN))));clear hk4 hr4 hy Y3 HR3 K3 Z3 L3 hQ hN f0 f1 f2 f3 sg QF3 LF3 e0 e1 e2 e3 LF4 ZD HD KD;go_wp2
  refine Ye6 (by simp[results,results178,go_sem,y0,y1,y2,y3,y4,y5,y6,y7,y8];try rfl) rfl ?_;obtain⟨hk,hr,hy,hQ,hN⟩:=R.out;have hN':Za7 w3.heap.size w4 F4:=hN;exact⟨hk.r9 lr,Or.inr ⟨_,⟨(o:Int),z,z4⟩,x4,r4,hy,rfl,⟨[.int .i64 (o:Int),.int .i64 z.k,.int .i64 z.i,.string z.t,.slice p1 z.l.length cc,.int .i64 z4.k,.int .i64 z4.i,.string z4.t,.slice p4 z4.l.length cc4],F++F4,rfl,⟨_,_,F,F4,rfl,⟨by show(-9223372036854775808:Int)<=(o:Int);omega,by show(o:Int)<=9223372036854775807;omega⟩,Za3.stable (ty:=Zad) 4 _ _ _ _ _ QF4.out fun j hj=>Zlr (by have:=NF2.ge j hj;omega),Za3.stable (ty:=Zad) 4 _ _ _ _ _ hQ fun j hj=>Zlr (by have:=hN'.ge j hj;omega),rfl⟩,(Za7.append (NF2.later (B':=w.heap.size) (w':=w1) (by omega) lr) hN' (by omega) (by omega) (by omega)).later lr (by simp)⟩,hr.keepN (Zlr (by omega))⟩⟩
end Go.P
