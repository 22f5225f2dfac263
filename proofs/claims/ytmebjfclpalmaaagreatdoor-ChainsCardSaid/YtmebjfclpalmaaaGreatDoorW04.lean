import Derived.Test.YtmebjfclpalmaaaGreatDoorW01
set_option maxRecDepth 100000
set_option maxHeartbeats 8000000
set_option linter.unusedSimpArgs false
open Go.Proofs Go.RowKit Go.W Tryz
namespace Go.P
def Zav:Prop:= ∀ (a:Nat->Addr) (s:ByteArray) (w:World),Zao a w->s.size < 1000000000->Calls prog 239 #[.string s] w fun e w'=>e= .returned (.bool (Zzf s))/\Below w.heap.size w w'
theorem Zwf (V:Zav){a:Nat->Addr}{w:World}(Z:Zao a w)(k i:Int)(t:ByteArray)(p:Option Addr)(n c:Nat)(ht:t.size < 1000000000):
  Calls prog 211 #[.agg #[.int .i64 k,.int .i64 i,.string t,.slice p n c]] w fun e w'=>e= .returned (.bool (Zh2 k i t n))/\Below w.heap.size w w':=by
 have e0:=Zec t;have C1:=Zaa (fun u=>Zls t u ht);have C2:=Zaa (fun u hu=>V a t u hu ht);have ZZ:=Zaa Z;clear Z;have F:Box (Zh2 k i t n=Zwd k i t n (Zdm t) (Zzf t)):=⟨rfl⟩;generalize Zdm t=b1 at*;generalize Zzf t=b2 at*;generalize Zh2 k i t n=ans at*;go_in
 go_wp2
 go_quiet (fail)
 go_wp2_with (first | (go_at_call 167;refine(C1.out _).mono ?_;rintro e w' ⟨rfl,hb⟩) | (go_at_call 239;refine(C2.out _ (ZZ.out.below (Zb6 ((Ydb _ w).alloc lr _)))).mono ?_;rintro e w' ⟨rfl,hb⟩))
 all_goals go_ret
 all_goals first | exact⟨Zb7 (by rw[F.out];simp_all [Zwd]),(Zb6 ((Ydb w.heap.size w).alloc lr _)).trans (hb.mono (by simp))⟩ | exact⟨Zb7 (by rw[F.out];simp only[Z3k,Z6r]at*;simp_all [Zwd]),Zb6 ((Ydb w.heap.size w).alloc lr _)⟩
end Go.P
namespace Go.P
variable {a:Nat->Addr}{K B D c m:Nat}{first cap:Array Value}{f:T->Int}{w:World}{p:Option Addr}{xs:List T}
theorem Zir (hen:Zaq K)(hrow:Zan 4 (Zbl B w (D+1)) p xs)(hB:B<=w.heap.size)
  (HC: ∀ u vs x,x∈xs->Below w.heap.size w u->Zc2 B u D vs x->Calls prog K (first.push (.agg vs.toArray)++cap) u (Zde a (f x) u)):
  Calls prog 210 #[.slice p xs.length c,.func (.func K) first cap] w (Zde a (Za2 f xs) w):=by
 have hl:=hrow.len;have HR:=Zaa hrow;have HH:=Zaa HC;have hen': ∀ args w,(callFunc K args).run prog w= .ok (.enter K args) w:=hen;clear hrow HC hen;go_in
 go_wp2
 go_loopw [10] (fun iv wr=>Zkc w f xs iv wr) (fun iv _=>xs.length - (intOf iv).toNat)
 case atStart=>exact⟨0,by omega,rfl,rfl,Ydb _ _⟩
 case round=>
  obtain⟨q,hq,rfl,hall,hbw⟩:=hrel;have HB:=Zaa hbw;by_cases hlt:q < xs.length
  ·have FD:=Zaa (Ze8 f hlt);obtain⟨b1,o1,rfl,hx⟩:=HR.out.get q hlt;have hm:xs[q]∈xs:=Yel hlt;obtain⟨hb1,p1,c1,k0,k1,k2,k3,hS⟩:=(hx.carry (Za4 hbw hB) lr).vals;have hsz:=hbw.size;have BB:=Zaa (hbw.alloc hsz (.cells #[.int .i64 xs[q].k,.int .i64 xs[q].i,.string xs[q].t,.slice p1 xs[q].l.length c1] 117));have CC:=Zaa (HH.out _ _ _ hm BB.out (Zc2.carry hS (Zfj _ (by omega))));have AL:=Zaa hall;clear hall hbw hx hm hS HH;go_wp2_with fail
   refine mq CC.out ?_;rintro w1 hb;have B1:=tr BB hb;clear hb;by_cases hf:f xs[q]=0
   ·rw[hf,Za0];go_wp2
    go_roundw
    case rel=>exact⟨q+1,by omega,by go_num,by rw[<- AL.out,FD.out,if_neg (by omega)],B1.out⟩
    case measure=>simp[intOf];omega
   ·rw[Zaf _ hf];go_wp2
    go_ret
    exact⟨by rw[<- AL.out,FD.out,if_pos hf,Zaf _ hf];rfl,B1.out⟩
  ·obtain rfl:q=xs.length:=by omega
   have AL:Box (Za2 f xs=0):=⟨by rw[<- hall,List.drop_length];rfl⟩;go_wp2
   go_ret
   exact⟨by rw[AL.out];rfl,HB.out⟩
theorem Zpb (hen:Zaq K)(Z:Zao a w)(hrow:Zan 4 (Zbl B w (D+1)) p xs)(hB:B<=w.heap.size)
  (HC: ∀ u vs x,x∈xs->Below w.heap.size w u->Zc2 B u D vs x->Calls prog K (first.push (.agg vs.toArray)++cap) u (Zde a (f x) u)):
  Calls prog 179 #[.slice p xs.length c,.int .i64 (m:Int),.func (.func K) first cap] w (Zde a (Zb3 f m xs) w):=by
 have hl:=hrow.len;have CC:=Zaa (Zir (c:=c) hen hrow hB HC);have z4:=Z.c4;clear hrow HC hen Z;by_cases hlt:m < xs.length
 ·have h1:(m:Int) < (xs.length:Int):=by omega
  have E:Box (Zb3 f m xs=4):=⟨if_pos hlt⟩;go_in
  go_wp2
  go_ret
  exact⟨by rw[E.out];rfl,Ydb _ _⟩
 ·have h1: ¬ (m:Int) < (xs.length:Int):=by omega
  have E:Box (Zb3 f m xs=Za2 f xs):=⟨if_neg hlt⟩;go_in
  go_wp2_with fail
  refine mq CC.out ?_;rintro w1 hb;go_wp2
  go_ret
  exact⟨by rw[E.out];rfl,hb⟩
theorem Ziq (hen:Zaq K){f:A->Int}{xs:List A}(hrow:Zan 2 (Zbb B w (D+1)) p xs)(hB:B<=w.heap.size)
  (HC: ∀ u vs x,x∈xs->Below w.heap.size w u->Ze4 B u D vs x->Calls prog K (first.push (.agg vs.toArray)++cap) u (Zde a (f x) u)):
  Calls prog 139 #[.slice p xs.length c,.func (.func K) first cap] w (Zde a (Za2 f xs) w):=by
 have hl:=hrow.len;have HR:=Zaa hrow;have HH:=Zaa HC;have hen': ∀ args w,(callFunc K args).run prog w= .ok (.enter K args) w:=hen;clear hrow HC hen;go_in
 go_wp2
 go_loopw [10] (fun iv wr=>Zkc w f xs iv wr) (fun iv _=>xs.length - (intOf iv).toNat)
 case atStart=>exact⟨0,by omega,rfl,rfl,Ydb _ _⟩
 case round=>
  obtain⟨q,hq,rfl,hall,hbw⟩:=hrel;have HB:=Zaa hbw;by_cases hlt:q < xs.length
  ·have FD:=Zaa (Ze8 f hlt);obtain⟨b1,o1,rfl,hx⟩:=HR.out.get q hlt;have hm:xs[q]∈xs:=Yel hlt;obtain⟨hb1,p1,c1,k0,k1,hS⟩:=(hx.carry (Za4 hbw hB) lr).vals;have hsz:=hbw.size;have BB:=Zaa (hbw.alloc hsz (.cells #[.string xs[q].name,.slice p1 xs[q].terms.length c1] 112));have CC:=Zaa (HH.out _ _ _ hm BB.out (Ze4.carry hS (Zfj _ (by omega))));have AL:=Zaa hall;clear hall hbw hx hm hS HH;go_wp2_with fail
   refine mq CC.out ?_;rintro w1 hb;have B1:=tr BB hb;clear hb;by_cases hf:f xs[q]=0
   ·rw[hf,Za0];go_wp2
    go_roundw
    case rel=>exact⟨q+1,by omega,by go_num,by rw[<- AL.out,FD.out,if_neg (by omega)],B1.out⟩
    case measure=>simp[intOf];omega
   ·rw[Zaf _ hf];go_wp2
    go_ret
    exact⟨by rw[<- AL.out,FD.out,if_pos hf,Zaf _ hf];rfl,B1.out⟩
  ·obtain rfl:q=xs.length:=by omega
   have AL:Box (Za2 f xs=0):=⟨by rw[<- hall,List.drop_length];rfl⟩;go_wp2
   go_ret
   exact⟨by rw[AL.out];rfl,HB.out⟩
theorem Zpa (hen:Zaq K){f:A->Int}{xs:List A}(Z:Zao a w)(hrow:Zan 2 (Zbb B w (D+1)) p xs)(hB:B<=w.heap.size)
  (HC: ∀ u vs x,x∈xs->Below w.heap.size w u->Ze4 B u D vs x->Calls prog K (first.push (.agg vs.toArray)++cap) u (Zde a (f x) u)):
  Calls prog 90 #[.slice p xs.length c,.int .i64 (m:Int),.func (.func K) first cap] w (Zde a (Zb3 f m xs) w):=by
 have hl:=hrow.len;have CC:=Zaa (Ziq (c:=c) hen hrow hB HC);have z4:=Z.c4;clear hrow HC hen Z;by_cases hlt:m < xs.length
 ·have h1:(m:Int) < (xs.length:Int):=by omega
  have E:Box (Zb3 f m xs=4):=⟨if_pos hlt⟩;go_in
  go_wp2
  go_ret
  exact⟨by rw[E.out];rfl,Ydb _ _⟩
 ·have h1: ¬ (m:Int) < (xs.length:Int):=by omega
  have E:Box (Zb3 f m xs=Za2 f xs):=⟨if_neg hlt⟩;go_in
  go_wp2_with fail
  refine mq CC.out ?_;rintro w1 hb;go_wp2
  go_ret
  exact⟨by rw[E.out];rfl,hb⟩
theorem Zmy (hen:Zaq K){f:G->Int}{xs:List G}(hrow:Zan 9 (Zct B w (D+1)) p xs)(hB:B<=w.heap.size)
  (HC: ∀ u vs x,x∈xs->Below w.heap.size w u->Zgb B u D vs x->Calls prog K (first.push (.agg vs.toArray)++cap) u (Zde a (f x) u)):
  Calls prog 181 #[.slice p xs.length c,.func (.func K) first cap] w (Zde a (Za2 f xs) w):=by
 have hl:=hrow.len;have HR:=Zaa hrow;have HH:=Zaa HC;have hen': ∀ args w,(callFunc K args).run prog w= .ok (.enter K args) w:=hen;clear hrow HC hen;go_in
 go_wp2
 go_loopw [10] (fun iv wr=>Zkc w f xs iv wr) (fun iv _=>xs.length - (intOf iv).toNat)
 case atStart=>exact⟨0,by omega,rfl,rfl,Ydb _ _⟩
 case round=>
  obtain⟨q,hq,rfl,hall,hbw⟩:=hrel;have HB:=Zaa hbw;by_cases hlt:q < xs.length
  ·have FD:=Zaa (Ze8 f hlt);obtain⟨b1,o1,rfl,hx⟩:=HR.out.get q hlt;have hm:xs[q]∈xs:=Yel hlt;obtain⟨hb1,p1,c1,p2,c2,k0,k1,k2,k3,k4,k5,k6,k7,k8,hS⟩:=(hx.carry (Za4 hbw hB) lr).vals;have hsz:=hbw.size;have BB:=Zaa (hbw.alloc hsz (.cells #[.int .i64 xs[q].op,.int .i64 xs[q].a.k,.int .i64 xs[q].a.i,.string xs[q].a.t,.slice p1 xs[q].a.l.length c1,.int .i64 xs[q].b.k,.int .i64 xs[q].b.i,.string xs[q].b.t,.slice p2 xs[q].b.l.length c2] 119));have CC:=Zaa (HH.out _ _ _ hm BB.out (Zgb.carry hS (Zfj _ (by omega))));have AL:=Zaa hall;clear hall hbw hx hm hS HH;go_wp2_with fail
   refine mq CC.out ?_;rintro w1 hb;have B1:=tr BB hb;clear hb;by_cases hf:f xs[q]=0
   ·rw[hf,Za0];go_wp2
    go_roundw
    case rel=>exact⟨q+1,by omega,by go_num,by rw[<- AL.out,FD.out,if_neg (by omega)],B1.out⟩
    case measure=>simp[intOf];omega
   ·rw[Zaf _ hf];go_wp2
    go_ret
    exact⟨by rw[<- AL.out,FD.out,if_pos hf,Zaf _ hf];rfl,B1.out⟩
  ·obtain rfl:q=xs.length:=by omega
   have AL:Box (Za2 f xs=0):=⟨by rw[<- hall,List.drop_length];rfl⟩;go_wp2
   go_ret
   exact⟨by rw[AL.out];rfl,HB.out⟩
theorem Zn1 (hen:Zaq K){f:R->Int}{xs:List R}(hrow:Zan 4 (Zb5 B w (D+1)) p xs)(hB:B<=w.heap.size)
  (HC: ∀ u vs x,x∈xs->Below w.heap.size w u->Zf7 B u D vs x->Calls prog K (first.push (.agg vs.toArray)++cap) u (Zde a (f x) u)):
  Calls prog 141 #[.slice p xs.length c,.func (.func K) first cap] w (Zde a (Za2 f xs) w):=by
 have hl:=hrow.len;have HR:=Zaa hrow;have HH:=Zaa HC;have hen': ∀ args w,(callFunc K args).run prog w= .ok (.enter K args) w:=hen;clear hrow HC hen;go_in
 go_wp2
 go_loopw [10] (fun iv wr=>Zkc w f xs iv wr) (fun iv _=>xs.length - (intOf iv).toNat)
 case atStart=>exact⟨0,by omega,rfl,rfl,Ydb _ _⟩
 case round=>
  obtain⟨q,hq,rfl,hall,hbw⟩:=hrel;have HB:=Zaa hbw;by_cases hlt:q < xs.length
  ·have FD:=Zaa (Ze8 f hlt);obtain⟨b1,o1,rfl,hx⟩:=HR.out.get q hlt;have hm:xs[q]∈xs:=Yel hlt;obtain⟨hb1,p1,c1,p2,c2,p3,c3,k0,k1,k2,k3,hS⟩:=(hx.carry (Za4 hbw hB) lr).vals;have hsz:=hbw.size;have BB:=Zaa (hbw.alloc hsz (.cells #[.string xs[q].head.name,.slice p1 xs[q].head.terms.length c1,.slice p2 xs[q].body.length c2,.slice p3 xs[q].guards.length c3] 115));have CC:=Zaa (HH.out _ _ _ hm BB.out (Zf7.carry hS (Zfj _ (by omega))));have AL:=Zaa hall;clear hall hbw hx hm hS HH;go_wp2_with fail
   refine mq CC.out ?_;rintro w1 hb;have B1:=tr BB hb;clear hb;by_cases hf:f xs[q]=0
   ·rw[hf,Za0];go_wp2
    go_roundw
    case rel=>exact⟨q+1,by omega,by go_num,by rw[<- AL.out,FD.out,if_neg (by omega)],B1.out⟩
    case measure=>simp[intOf];omega
   ·rw[Zaf _ hf];go_wp2
    go_ret
    exact⟨by rw[<- AL.out,FD.out,if_pos hf,Zaf _ hf];rfl,B1.out⟩
  ·obtain rfl:q=xs.length:=by omega
   have AL:Box (Za2 f xs=0):=⟨by rw[<- hall,List.drop_length];rfl⟩;go_wp2
   go_ret
   exact⟨by rw[AL.out];rfl,HB.out⟩
theorem Zi3 (hen:Zaq K){f:R->Int}{xs:List R}(Z:Zao a w)(hrow:Zan 4 (Zb5 B w (D+1)) p xs)(hB:B<=w.heap.size)
  (HC: ∀ u vs x,x∈xs->Below w.heap.size w u->Zf7 B u D vs x->Calls prog K (first.push (.agg vs.toArray)++cap) u (Zde a (f x) u)):
  Calls prog 92 #[.slice p xs.length c,.int .i64 (m:Int),.func (.func K) first cap] w (Zde a (Zb3 f m xs) w):=by
 have hl:=hrow.len;have CC:=Zaa (Zn1 (c:=c) hen hrow hB HC);have z4:=Z.c4;clear hrow HC hen Z;by_cases hlt:m < xs.length
 ·have h1:(m:Int) < (xs.length:Int):=by omega
  have E:Box (Zb3 f m xs=4):=⟨if_pos hlt⟩;go_in
  go_wp2
  go_ret
  exact⟨by rw[E.out];rfl,Ydb _ _⟩
 ·have h1: ¬ (m:Int) < (xs.length:Int):=by omega
  have E:Box (Zb3 f m xs=Za2 f xs):=⟨if_neg hlt⟩;go_in
  go_wp2_with fail
  refine mq CC.out ?_;rintro w1 hb;go_wp2
  go_ret
  exact⟨by rw[E.out];rfl,hb⟩
theorem Zmx (hen:Zaq K){f:(List R)->Int}{xs:List (List R)}(hrow:Zan 1 (Go.W.Zhj B w (D+1)) p xs)(hB:B<=w.heap.size)
  (HC: ∀ u vs x,x∈xs->Below w.heap.size w u->Zh9 B u D vs x->Calls prog K (first.push (.agg vs.toArray)++cap) u (Zde a (f x) u)):
  Calls prog 143 #[.slice p xs.length c,.func (.func K) first cap] w (Zde a (Za2 f xs) w):=by
 have hl:=hrow.len;have HR:=Zaa hrow;have HH:=Zaa HC;have hen': ∀ args w,(callFunc K args).run prog w= .ok (.enter K args) w:=hen;clear hrow HC hen;go_in
 go_wp2
 go_loopw [10] (fun iv wr=>Zkc w f xs iv wr) (fun iv _=>xs.length - (intOf iv).toNat)
 case atStart=>exact⟨0,by omega,rfl,rfl,Ydb _ _⟩
 case round=>
  obtain⟨q,hq,rfl,hall,hbw⟩:=hrel;have HB:=Zaa hbw;by_cases hlt:q < xs.length
  ·have FD:=Zaa (Ze8 f hlt);obtain⟨b1,o1,rfl,hx⟩:=HR.out.get q hlt;have hm:xs[q]∈xs:=Yel hlt;obtain⟨hb1,p1,c1,k0,hS⟩:=(hx.carry (Za4 hbw hB) lr).vals;have hsz:=hbw.size;rw[Nat.mul_one]at k0;have BB:=Zaa (hbw.alloc hsz (.cells #[.slice p1 xs[q].length c1] 72));have CC:=Zaa (HH.out _ _ _ hm BB.out (Zh9.carry hS (Zfj _ (by omega))));have AL:=Zaa hall;clear hall hbw hx hm hS HH;go_wp2_with fail
   refine mq CC.out ?_;rintro w1 hb;have B1:=tr BB hb;clear hb;by_cases hf:f xs[q]=0
   ·rw[hf,Za0];go_wp2
    go_roundw
    case rel=>exact⟨q+1,by omega,by go_num,by rw[<- AL.out,FD.out,if_neg (by omega)],B1.out⟩
    case measure=>simp[intOf];omega
   ·rw[Zaf _ hf];go_wp2
    go_ret
    exact⟨by rw[<- AL.out,FD.out,if_pos hf,Zaf _ hf];rfl,B1.out⟩
  ·obtain rfl:q=xs.length:=by omega
   have AL:Box (Za2 f xs=0):=⟨by rw[<- hall,List.drop_length];rfl⟩;go_wp2
   go_ret
   exact⟨by rw[AL.out];rfl,HB.out⟩
theorem Zm3 (hen:Zaq K){f:(List R)->Int}{xs:List (List R)}(Z:Zao a w)(hrow:Zan 1 (Go.W.Zhj B w (D+1)) p xs)(hB:B<=w.heap.size)
  (HC: ∀ u vs x,x∈xs->Below w.heap.size w u->Zh9 B u D vs x->Calls prog K (first.push (.agg vs.toArray)++cap) u (Zde a (f x) u)):
  Calls prog 94 #[.slice p xs.length c,.int .i64 (m:Int),.func (.func K) first cap] w (Zde a (Zb3 f m xs) w):=by
 have hl:=hrow.len;have CC:=Zaa (Zmx (c:=c) hen hrow hB HC);have z4:=Z.c4;clear hrow HC hen Z;by_cases hlt:m < xs.length
 ·have h1:(m:Int) < (xs.length:Int):=by omega
  have E:Box (Zb3 f m xs=4):=⟨if_pos hlt⟩;go_in
  go_wp2
  go_ret
  exact⟨by rw[E.out];rfl,Ydb _ _⟩
 ·have h1: ¬ (m:Int) < (xs.length:Int):=by omega
  have E:Box (Zb3 f m xs=Za2 f xs):=⟨if_neg hlt⟩;go_in
  go_wp2_with fail
  refine mq CC.out ?_;rintro w1 hb;go_wp2
  go_ret
  exact⟨by rw[E.out];rfl,hb⟩
end Go.P
namespace Go.P
theorem Zcq {w u:World}{L:Nat}{cs:Array Value}{e:TypeId}(h:Blk w L cs e)(hb:Below w.heap.size w u):Blk u L cs e:=h.of (hb.block L h.lt)
theorem Zl6:Zaq 180:=Zam func180 (by kernel_rfl) rfl
def Zfx (a:Nat->Addr) (d:Nat):Prop:= ∀ {B D:Nat} {w:World} {vs:List Value} {x:T},Zao a w->B<=w.heap.size->Zc2 B w D vs x->Calls prog 180 #[.int .i64 (d:Int),.agg vs.toArray] w (Zde a (Zau d x) w)
theorem Zkn (V:Zav){a:Nat->Addr}{d:Nat}(hd:d<=3)(ih:d < 3->Zfx a (d+1)):Zfx a d:=by
 intro B D w vs x Z hB hS;obtain⟨p,c,rfl,ht,_,_,hc,hrow⟩:=hS;have OW:Box ((Zh2 x.k x.i x.t x.l.length=false\/x.k=1/\0 < d->Zau d x=2)/\(Zh2 x.k x.i x.t x.l.length=true->(x.k=1->d=0)->(64 < x.t.size\/6 < x.l.length->Zau d x=4)/\(x.t.size<=64->x.l.length<=6->(x.k=7/\d=3->Zau d x=3)/\(x.k≠7\/d≠3->Zau d x=Za2 (Zau (d+1)) x.l)))):=⟨by
  have key: ∀ r,Zyv d x.k x.i x.t x.l.length=r->r≠0->Zau d x=r:=fun r h h'=>by rw[Zlf,h,if_pos h']
  have no:Zh2 x.k x.i x.t x.l.length=true->(x.k=1->d=0)-> ¬ (Zh2 x.k x.i x.t x.l.length=false\/x.k=1/\0 < d):=fun h h'=>by
   rintro(q | q)
   ·rw[h]at q;cases q
   ·omega
  refine⟨fun h=>key 2 (if_pos h) (by decide),fun h h'=>⟨fun h2=>key 4 ?_ (by decide),fun h2 h3=>⟨fun h4=>key 3 ?_ (by decide),fun h4=>?_⟩⟩⟩
  ·unfold Zyv;rw[if_neg (no h h'),if_pos h2]
  ·unfold Zyv;rw[if_neg (no h h'),if_neg (by omega),if_pos h4]
  ·rw[Zlf,if_neg];unfold Zyv;rw[if_neg (no h h'),if_neg (by omega),if_neg (by omega)];decide⟩
 have C1:=Zaa (fun u (hu:Zao a u)=>Zwf V hu x.k x.i x.t p x.l.length c ht);have FN:Box (Zh2 x.k x.i x.t x.l.length=true->x.k=7\/x.l.length=0):=⟨fun h=>by
  unfold Zh2 Zwd at h
  (repeat' split at h) <;> simp_all⟩
 have hl:=hrow.len;have ZZ:=Zaa Z;have HR:=Zaa hrow;have IH:=Zaa (fun h=> @ih h);have XL:Box (∀ h:x.l.length=0,x.l=[]):=⟨Yds⟩;clear hrow Z ih hc;generalize Zh2 x.k x.i x.t x.l.length=b1 at*;generalize x.k=k at*;generalize x.i=i at*;generalize x.t=t at*;generalize hn:x.l.length=n at*;go_in
 go_wp2_with fail
 refine(C1.out _ (ZZ.out.below ((Ydb _ w).alloc lr _))).mono ?_;rintro e w1 ⟨rfl,hb⟩;have BB:=Zaa (((Ydb w.heap.size w).alloc lr _).trans (hb.mono (by simp)));have BL:=Zaa (Zcq (Blk.new w #[.int .i64 k,.int .i64 i,.string t,.slice p n c] 117) hb);obtain⟨z2,z3,z4⟩:=Yda (ZZ.out.below BB.out).c2 (Yda (ZZ.out.below BB.out).c3 (ZZ.out.below BB.out).c4);obtain⟨c0,c1,c2,c3,sf⟩:=BL.out.four;have CF:Box ((d < 3\/n=0)->Calls prog 210 #[.slice p n c,.func (.func 180) #[.int .i64 ((d:Int)+1)] #[]] w1 (Zde a (Za2 (Zau (d+1)) x.l) w1)):=⟨fun h=>by
  subst hn;have hB1:=BB.out.size;refine Zir (B:=B) Zl6 (HR.out.carry fun _ _ _ q=>q.carry (Za4 BB.out hB) (Yet D)) (by omega) fun u vs y hy hu hS=>?_;rcases h with h | h
  ·exact IH.out h ((ZZ.out.below BB.out).below hu) (by have:=hu.size;omega) hS
  ·rw[XL.out h]at hy;cases hy⟩
 clear hb ZZ HR IH XL;cases b1 with
 | false=>
  have W2:Box (Zau d x=2):=⟨OW.out.1 (Or.inl rfl)⟩;clear OW FN CF;go_wp2_with fail
  all_goals (go_ret;exact⟨by rw[W2.out];rfl,BB.out⟩)
 | true=>
  have W1:Box (0 < d->k=1->Zau d x=2):=⟨fun h h'=>OW.out.1 (Or.inr ⟨h',h⟩)⟩;have W2:=Zaa (OW.out.2 rfl);have F2:=Zaa (FN.out rfl);clear OW FN;have g3:(d < 3/\((d:Int)==3)=false)\/(3<=d/\((d:Int)==3)=true):=by
   rcases Ye3 d 3 with h | h
   ·exact Or.inl ⟨h,by rw[Ye4];omega⟩
   ·exact Or.inr ⟨h,by rw[Yfb];omega⟩
  rcases g3 with⟨h3,g3⟩ | ⟨h3,g3⟩;all_goals
   go_wp2_with (go_at_call 210;refine(CF.out ?_).mono ?_;rotate_left;rintro e w2 ⟨rfl,hb2⟩)
   all_goals first
    | (go_ret;exact⟨by rw[W1.out (by omega) (by omega)];rfl,BB.out⟩)
    | (go_ret;exact⟨by rw[(W2.out (by omega)).1 (by omega)];rfl,BB.out⟩)
    | (go_ret;exact⟨by rw[((W2.out (by omega)).2 (by omega) (by omega)).1 (by omega)];rfl,BB.out⟩)
    | (go_ret;exact⟨by rw[((W2.out (by omega)).2 (by omega) (by omega)).2 (by omega)];rfl,BB.out.trans (hb2.mono BB.out.size)⟩)
    | (have:=F2.out;omega)
theorem Zpe (V:Zav)(a:Nat->Addr): ∀ d,d<=3->Zfx a d:=by
 have h3:Zfx a 3:=Zkn V (by omega) fun h=>absurd h (by omega);have h2:Zfx a 2:=Zkn V (by omega) fun _=> @h3;have h1:Zfx a 1:=Zkn V (by omega) fun _=> @h2;have h0:Zfx a 0:=Zkn V (by omega) fun _=> @h1;intro d hd;match d,hd with
 | 0,_=>exact @h0
 | 1,_=>exact @h1
 | 2,_=>exact @h2
 | 3,_=>exact @h3
end Go.P
namespace Go.W
variable {q:Nat}
theorem Zxy {α:Type}(f:α->Bool){l:List α}(h:q < l.length):(l.drop q).any f=(f l[q] || (l.drop (q+1)).any f):=by
 rw[List.drop_eq_getElem_cons h,List.any_cons]
theorem Z5v {α:Type}(f:α->Bool){l:List α}(h:q < l.length):(l.drop q).all f=(f l[q] && (l.drop (q+1)).all f):=by
 rw[List.drop_eq_getElem_cons h,List.all_cons]
def Z7w {α:Type} (w:World) (f:α->Bool) (l:List α) (iv:Value) (wr:World):Prop:= ∃ q:Nat,q<=l.length/\iv= .int .i64 q/\(l.drop q).any f=l.any f/\Below w.heap.size w wr
def Yaf {α:Type} (w:World) (f:α->Bool) (l:List α) (iv:Value) (wr:World):Prop:= ∃ q:Nat,q<=l.length/\iv= .int .i64 q/\(l.drop q).all f=l.all f/\Below w.heap.size w wr
def Zva (s:ByteArray) (x:T):Bool:=Z6k x && decide (x.t=s)
def Zlq (body:List A) (s:ByteArray):Bool:=body.any fun a=>a.terms.any (Zva s)
def Yaz (body:List A) (t:T):Bool:= !Z6k t || Zlq body t.t
theorem Z8y (body:List A)(t:T):Yaz body t=(!decide (t.k=1) || Zlq body t.t):=rfl
theorem Z2k (l:List T)(body:List A):Zc4 l body=l.all (Yaz body):=rfl
end Go.W
namespace Go.P
variable {B D c:Nat}{w:World}{p:Option Addr}
theorem Zn3 {xs:List A}(s:ByteArray)(hrow:Zan 2 (Zbb B w (D+1)) p xs)(hB:B<=w.heap.size):
  Calls prog 175 #[.slice p xs.length c,.string s] w fun e w'=>e= .returned (.bool (Zlq xs s))/\Below w.heap.size w w':=by
 have hl:=hrow.len;have HR:=Zaa hrow;clear hrow;have F:Box (Zlq xs s=xs.any fun a=>a.terms.any (Zva s)):=⟨rfl⟩;generalize Zlq xs s=ans at*;go_in
 go_wp2
 go_loopw [11] (fun iv wr=>Z7w w (fun a=>a.terms.any (Zva s)) xs iv wr) (fun iv _=>xs.length - (intOf iv).toNat)
 case atStart=>exact⟨0,by omega,rfl,rfl,Ydb _ _⟩
 case round=>
  obtain⟨q,hq,rfl,hall,hbw⟩:=hrel;have AL:=Zaa hall;have HB:=Zaa hbw;by_cases hlt:q < xs.length
  ·have FD:=Zaa (Zxy (fun a:A=>a.terms.any (Zva s)) hlt);obtain⟨b1,o1,rfl,hx⟩:=HR.out.get q hlt;obtain⟨hb1,p1,c1,k0,k1,hS⟩:=(hx.carry (Za4 hbw hB) lr).vals;have hsz:=hbw.size;have BB:=Zaa (hbw.alloc hsz (.cells #[.string xs[q].name,.slice p1 xs[q].terms.length c1] 112));obtain⟨p2,c2,he,_,_,hr⟩:=hS.carry (Zfj (.cells #[.string xs[q].name,.slice p1 xs[q].terms.length c1] 112) (by omega));simp only[List.cons.injEq,Value.slice.injEq,and_true,true_and]at he;obtain⟨rfl,rfl⟩:=he;have hl2:=hr.len;have HR2:=Zaa hr;clear hall hbw hx hr;generalize xs[q].terms=ts at*;rename World=>wo
   go_wp2
   go_loopw [18] (fun iv wr=>Z7w (wo.alloc (.cells #[.string xs[q].name,.slice p1 ts.length c1] 112)) (Zva s) ts iv wr) (fun iv _=>ts.length - (intOf iv).toNat)
   case atStart=>exact⟨0,by omega,rfl,rfl,Ydb _ _⟩
   case round=>
    obtain⟨k,hk,rfl,hall,hbw⟩:=hrel;have AL2:=Zaa hall;have HW:=Zaa hbw;have HB2:=tr BB hbw;by_cases hkt:k < ts.length
    ·have FD2:=Zaa (Zxy (Zva s) hkt);have VI:Box (Zva s ts[k]=(decide (ts[k].k=1) && decide (ts[k].t=s))):=⟨rfl⟩;obtain⟨b3,o3,rfl,hx⟩:=HR2.out.get k hkt;obtain⟨hb3,p3,c3,y0,y1,y2,y3,_⟩:=(hx.carry (Za4 hbw (by simp;omega)) lr).vals;have tb:=Zjb ts[k].t s;generalize ts[k].k=kk at*;generalize ts[k].t=kt at*;generalize Zva s ts[k]=vi at*;clear hall hbw hx;go_wp2_with fail
     all_goals first
      | (go_ret;exact⟨Zb7 (by rw[F.out,<- AL.out,FD.out,<- AL2.out,FD2.out,VI.out];simp_all),HB2.out.alloc HB2.out.size _⟩)
      | (go_roundw
         case rel=>exact⟨k+1,by omega,by go_num,by rw[<- AL2.out,FD2.out,VI.out];simp_all,HW.out.alloc HW.out.size _⟩
         case measure=>simp[intOf];omega)
    ·obtain rfl:k=ts.length:=by omega
     go_wp2
     go_roundw
     case rel=>exact⟨q+1,by omega,by go_num,by rw[<- AL.out,FD.out,<- AL2.out,List.drop_length];rfl,HB2.out⟩
     case measure=>simp[intOf];omega
  ·obtain rfl:q=xs.length:=by omega
   go_wp2
   go_ret
   exact⟨Zb7 (by rw[F.out,<- AL.out,List.drop_length];rfl),HB.out⟩
theorem Zdg {xs:List T}{p':Option Addr}{ys:List A}{c':Nat}(hrow:Zan 4 (Zbl B w (D+1)) p xs)(hrow':Zan 2 (Zbb B w (D+1)) p' ys)(hB:B<=w.heap.size):
  Calls prog 132 #[.slice p xs.length c,.slice p' ys.length c'] w fun e w'=>e= .returned (.bool (Zc4 xs ys))/\Below w.heap.size w w':=by
 have hl:=hrow.len;have HR:=Zaa hrow;have HR':=Zaa hrow';clear hrow hrow';have F:=Zaa (Z2k xs ys);generalize Zc4 xs ys=ans at*;go_in
 go_wp2
 go_loopw [9] (fun iv wr=>Yaf w (Yaz ys) xs iv wr) (fun iv _=>xs.length - (intOf iv).toNat)
 case atStart=>exact⟨0,by omega,rfl,rfl,Ydb _ _⟩
 case round=>
  obtain⟨q,hq,rfl,hall,hbw⟩:=hrel;have AL:=Zaa hall;have HB:=Zaa hbw;by_cases hlt:q < xs.length
  ·have FD:=Zaa (Z5v (Yaz ys) hlt);have VI:=Zaa (Z8y ys xs[q]);obtain⟨b1,o1,rfl,hx⟩:=HR.out.get q hlt;obtain⟨hb1,p1,c1,y0,y1,y2,y3,_⟩:=(hx.carry (Za4 hbw hB) lr).vals;have hsz:=hbw.size;have CH:=Zaa (fun u (hu:Below w.heap.size w u)=>Zn3 (c:=c') xs[q].t (HR'.out.carry fun _ _ _ r=>r.carry (Za4 hu hB) lr) (Ydc hB hu.size));generalize Zlq ys xs[q].t=hv at*;generalize Yaz ys xs[q]=iv at*;generalize xs[q].k=kk at*;clear hall hbw hx;go_wp2_with (go_at_call 175;refine(CH.out _ (HB.out.alloc HB.out.size _)).mono ?_;rintro e w1 ⟨rfl,hb⟩)
   all_goals first
    | (go_ret;exact⟨Zb7 (by rw[F.out,<- AL.out,FD.out,VI.out];simp_all),(HB.out.alloc HB.out.size _).trans (hb.mono (by simp;omega))⟩)
    | (go_roundw
       case rel=>first | exact⟨q+1,by omega,by go_num,by rw[<- AL.out,FD.out,VI.out];simp_all,(HB.out.alloc HB.out.size _).trans (hb.mono (by simp;omega))⟩ | exact⟨q+1,by omega,by go_num,by rw[<- AL.out,FD.out,VI.out];simp_all,HB.out.alloc HB.out.size _⟩
       case measure=>simp[intOf];omega)
  ·obtain rfl:q=xs.length:=by omega
   go_wp2
   go_ret
   exact⟨Zb7 (by rw[F.out,<- AL.out,List.drop_length];rfl),HB.out⟩
end Go.P
