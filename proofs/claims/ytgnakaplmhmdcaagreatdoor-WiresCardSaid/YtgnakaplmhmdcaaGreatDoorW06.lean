import Derived.Test.YtgnakaplmhmdcaaGreatDoorW05
set_option maxRecDepth 100000
set_option maxHeartbeats 8000000
open Go.Proofs Go.RowKit Go.W
namespace Go.P
variable {a:Nat->Addr}{K B D c m:Nat}{first cap:Array Value}{f:T->Int}{w:World}{p:Option Addr}{xs:List T}
theorem Zir (hen:Zam K)(hrow:Zao 4 (Zbl B w (D+1)) p xs)(hB:B<=w.heap.size)
  (HC: ∀ u vs x,x∈xs->Below w.heap.size w u->Zcv B u D vs x->Calls Tryz.prog K (first.push (.agg vs.toArray)++cap) u (Zc9 a (f x) u)):
  Calls Tryz.prog 199 #[.slice p xs.length c,.func (.func K) first cap] w (Zc9 a (Zax f xs) w):=by
 have hl:=hrow.len;have HR:=Zaa hrow;have HH:=Zaa HC;have hen': ∀ args w,(callFunc K args).run Tryz.prog w= .ok (.enter K args) w:=hen;clear hrow HC hen;go_enter Tryz.func199,Tryz.ntmps199
 go_wp2_with fail
 go_loopw [10] (fun iv wr=>Zj6 w f xs iv wr) (fun iv _=>xs.length - (intOf iv).toNat)
 case atStart=>exact⟨0,by omega,rfl,rfl,Yct _ _⟩
 case round=>
  obtain⟨q,hq,rfl,hall,hbw⟩:=hrel;have HB:=Zaa hbw;by_cases hlt:q < xs.length
  ·have FD:=Zaa (Ze4 f hlt);obtain⟨b1,o1,rfl,hx⟩:=HR.out.get q hlt;have hm:xs[q]∈xs:=Yd3 hlt;obtain⟨hb1,p1,c1,k0,k1,k2,k3,hS⟩:=(hx.carry (Za6 hbw hB) lr).vals;have hsz:=hbw.size;have BB:=Zaa (hbw.alloc hsz (.cells #[.int .i64 xs[q].k,.int .i64 xs[q].i,.string xs[q].t,.slice p1 xs[q].l.length c1] 103));have CC:=Zaa (HH.out _ _ _ hm BB.out (Zcv.carry hS (Zfd _ (by omega))));have AL:=Zaa hall;clear hall hbw hx hm hS HH;go_wp2_with fail
   refine CC.out.mono ?_;rintro e w1 ⟨rfl,hb⟩;have B1:=Zaa (BB.out.trans (hb.mono BB.out.size));clear hb;by_cases hf:f xs[q]=0
   ·rw[hf,Zbb];go_wp2_with fail
    go_roundw
    case rel=>exact⟨q+1,by omega,by go_num,by rw[<- AL.out,FD.out,if_neg (by omega)],B1.out⟩
    case measure=>simp[intOf];omega
   ·rw[Zah _ hf];go_wp2_with fail
    go_ret
    exact⟨by rw[<- AL.out,FD.out,if_pos hf,Zah _ hf];rfl,B1.out⟩
  ·obtain rfl:q=xs.length:=by omega
   have AL:Box (Zax f xs=0):=⟨by rw[<- hall,List.drop_length];rfl⟩;go_wp2_with fail
   go_ret
   exact⟨by rw[AL.out];rfl,HB.out⟩
theorem Zo3 (hen:Zam K)(Z:Zap a w)(hrow:Zao 4 (Zbl B w (D+1)) p xs)(hB:B<=w.heap.size)
  (HC: ∀ u vs x,x∈xs->Below w.heap.size w u->Zcv B u D vs x->Calls Tryz.prog K (first.push (.agg vs.toArray)++cap) u (Zc9 a (f x) u)):
  Calls Tryz.prog 152 #[.slice p xs.length c,.int .i64 (m:Int),.func (.func K) first cap] w (Zc9 a (Zbw f m xs) w):=by
 have hl:=hrow.len;have CC:=Zaa (Zir (c:=c) hen hrow hB HC);have z4:=Z.c4;clear hrow HC hen Z;by_cases hlt:m < xs.length
 ·have h1:(m:Int) < (xs.length:Int):=by omega
  have E:Box (Zbw f m xs=4):=⟨if_pos hlt⟩;go_enter Tryz.func152,Tryz.ntmps152
  go_wp2_with fail
  go_ret
  exact⟨by rw[E.out];rfl,Yct _ _⟩
 ·have h1: ¬ (m:Int) < (xs.length:Int):=by omega
  have E:Box (Zbw f m xs=Zax f xs):=⟨if_neg hlt⟩;go_enter Tryz.func152,Tryz.ntmps152
  go_wp2_with fail
  refine CC.out.mono ?_;rintro e w1 ⟨rfl,hb⟩;go_wp2_with fail
  go_ret
  exact⟨by rw[E.out];rfl,hb⟩
theorem Zii (hen:Zam K){f:A->Int}{xs:List A}(hrow:Zao 2 (Zbd B w (D+1)) p xs)(hB:B<=w.heap.size)
  (HC: ∀ u vs x,x∈xs->Below w.heap.size w u->Zev B u D vs x->Calls Tryz.prog K (first.push (.agg vs.toArray)++cap) u (Zc9 a (f x) u)):
  Calls Tryz.prog 106 #[.slice p xs.length c,.func (.func K) first cap] w (Zc9 a (Zax f xs) w):=by
 have hl:=hrow.len;have HR:=Zaa hrow;have HH:=Zaa HC;have hen': ∀ args w,(callFunc K args).run Tryz.prog w= .ok (.enter K args) w:=hen;clear hrow HC hen;go_enter Tryz.func106,Tryz.ntmps106
 go_wp2_with fail
 go_loopw [10] (fun iv wr=>Zj6 w f xs iv wr) (fun iv _=>xs.length - (intOf iv).toNat)
 case atStart=>exact⟨0,by omega,rfl,rfl,Yct _ _⟩
 case round=>
  obtain⟨q,hq,rfl,hall,hbw⟩:=hrel;have HB:=Zaa hbw;by_cases hlt:q < xs.length
  ·have FD:=Zaa (Ze4 f hlt);obtain⟨b1,o1,rfl,hx⟩:=HR.out.get q hlt;have hm:xs[q]∈xs:=Yd3 hlt;obtain⟨hb1,p1,c1,k0,k1,hS⟩:=(hx.carry (Za6 hbw hB) lr).vals;have hsz:=hbw.size;have BB:=Zaa (hbw.alloc hsz (.cells #[.string xs[q].name,.slice p1 xs[q].terms.length c1] 98));have CC:=Zaa (HH.out _ _ _ hm BB.out (Zev.carry hS (Zfd _ (by omega))));have AL:=Zaa hall;clear hall hbw hx hm hS HH;go_wp2_with fail
   refine CC.out.mono ?_;rintro e w1 ⟨rfl,hb⟩;have B1:=Zaa (BB.out.trans (hb.mono BB.out.size));clear hb;by_cases hf:f xs[q]=0
   ·rw[hf,Zbb];go_wp2_with fail
    go_roundw
    case rel=>exact⟨q+1,by omega,by go_num,by rw[<- AL.out,FD.out,if_neg (by omega)],B1.out⟩
    case measure=>simp[intOf];omega
   ·rw[Zah _ hf];go_wp2_with fail
    go_ret
    exact⟨by rw[<- AL.out,FD.out,if_pos hf,Zah _ hf];rfl,B1.out⟩
  ·obtain rfl:q=xs.length:=by omega
   have AL:Box (Zax f xs=0):=⟨by rw[<- hall,List.drop_length];rfl⟩;go_wp2_with fail
   go_ret
   exact⟨by rw[AL.out];rfl,HB.out⟩
theorem Zo7 (hen:Zam K){f:A->Int}{xs:List A}(Z:Zap a w)(hrow:Zao 2 (Zbd B w (D+1)) p xs)(hB:B<=w.heap.size)
  (HC: ∀ u vs x,x∈xs->Below w.heap.size w u->Zev B u D vs x->Calls Tryz.prog K (first.push (.agg vs.toArray)++cap) u (Zc9 a (f x) u)):
  Calls Tryz.prog 48 #[.slice p xs.length c,.int .i64 (m:Int),.func (.func K) first cap] w (Zc9 a (Zbw f m xs) w):=by
 have hl:=hrow.len;have CC:=Zaa (Zii (c:=c) hen hrow hB HC);have z4:=Z.c4;clear hrow HC hen Z;by_cases hlt:m < xs.length
 ·have h1:(m:Int) < (xs.length:Int):=by omega
  have E:Box (Zbw f m xs=4):=⟨if_pos hlt⟩;go_enter Tryz.func48,Tryz.ntmps48
  go_wp2_with fail
  go_ret
  exact⟨by rw[E.out];rfl,Yct _ _⟩
 ·have h1: ¬ (m:Int) < (xs.length:Int):=by omega
  have E:Box (Zbw f m xs=Zax f xs):=⟨if_neg hlt⟩;go_enter Tryz.func48,Tryz.ntmps48
  go_wp2_with fail
  refine CC.out.mono ?_;rintro e w1 ⟨rfl,hb⟩;go_wp2_with fail
  go_ret
  exact⟨by rw[E.out];rfl,hb⟩
theorem Zms (hen:Zam K){f:G->Int}{xs:List G}(hrow:Zao 9 (Zco B w (D+1)) p xs)(hB:B<=w.heap.size)
  (HC: ∀ u vs x,x∈xs->Below w.heap.size w u->Zf5 B u D vs x->Calls Tryz.prog K (first.push (.agg vs.toArray)++cap) u (Zc9 a (f x) u)):
  Calls Tryz.prog 155 #[.slice p xs.length c,.func (.func K) first cap] w (Zc9 a (Zax f xs) w):=by
 have hl:=hrow.len;have HR:=Zaa hrow;have HH:=Zaa HC;have hen': ∀ args w,(callFunc K args).run Tryz.prog w= .ok (.enter K args) w:=hen;clear hrow HC hen;go_enter Tryz.func155,Tryz.ntmps155
 go_wp2_with fail
 go_loopw [10] (fun iv wr=>Zj6 w f xs iv wr) (fun iv _=>xs.length - (intOf iv).toNat)
 case atStart=>exact⟨0,by omega,rfl,rfl,Yct _ _⟩
 case round=>
  obtain⟨q,hq,rfl,hall,hbw⟩:=hrel;have HB:=Zaa hbw;by_cases hlt:q < xs.length
  ·have FD:=Zaa (Ze4 f hlt);obtain⟨b1,o1,rfl,hx⟩:=HR.out.get q hlt;have hm:xs[q]∈xs:=Yd3 hlt;obtain⟨hb1,p1,c1,p2,c2,k0,k1,k2,k3,k4,k5,k6,k7,k8,hS⟩:=(hx.carry (Za6 hbw hB) lr).vals;have hsz:=hbw.size;have BB:=Zaa (hbw.alloc hsz (.cells #[.int .i64 xs[q].op,.int .i64 xs[q].a.k,.int .i64 xs[q].a.i,.string xs[q].a.t,.slice p1 xs[q].a.l.length c1,.int .i64 xs[q].b.k,.int .i64 xs[q].b.i,.string xs[q].b.t,.slice p2 xs[q].b.l.length c2] 105));have CC:=Zaa (HH.out _ _ _ hm BB.out (Zf5.carry hS (Zfd _ (by omega))));have AL:=Zaa hall;clear hall hbw hx hm hS HH;go_wp2_with fail
   refine CC.out.mono ?_;rintro e w1 ⟨rfl,hb⟩;have B1:=Zaa (BB.out.trans (hb.mono BB.out.size));clear hb;by_cases hf:f xs[q]=0
   ·rw[hf,Zbb];go_wp2_with fail
    go_roundw
    case rel=>exact⟨q+1,by omega,by go_num,by rw[<- AL.out,FD.out,if_neg (by omega)],B1.out⟩
    case measure=>simp[intOf];omega
   ·rw[Zah _ hf];go_wp2_with fail
    go_ret
    exact⟨by rw[<- AL.out,FD.out,if_pos hf,Zah _ hf];rfl,B1.out⟩
  ·obtain rfl:q=xs.length:=by omega
   have AL:Box (Zax f xs=0):=⟨by rw[<- hall,List.drop_length];rfl⟩;go_wp2_with fail
   go_ret
   exact⟨by rw[AL.out];rfl,HB.out⟩
theorem Zn2 (hen:Zam K){f:R->Int}{xs:List R}(hrow:Zao 4 (Zb4 B w (D+1)) p xs)(hB:B<=w.heap.size)
  (HC: ∀ u vs x,x∈xs->Below w.heap.size w u->Zfy B u D vs x->Calls Tryz.prog K (first.push (.agg vs.toArray)++cap) u (Zc9 a (f x) u)):
  Calls Tryz.prog 109 #[.slice p xs.length c,.func (.func K) first cap] w (Zc9 a (Zax f xs) w):=by
 have hl:=hrow.len;have HR:=Zaa hrow;have HH:=Zaa HC;have hen': ∀ args w,(callFunc K args).run Tryz.prog w= .ok (.enter K args) w:=hen;clear hrow HC hen;go_enter Tryz.func109,Tryz.ntmps109
 go_wp2_with fail
 go_loopw [10] (fun iv wr=>Zj6 w f xs iv wr) (fun iv _=>xs.length - (intOf iv).toNat)
 case atStart=>exact⟨0,by omega,rfl,rfl,Yct _ _⟩
 case round=>
  obtain⟨q,hq,rfl,hall,hbw⟩:=hrel;have HB:=Zaa hbw;by_cases hlt:q < xs.length
  ·have FD:=Zaa (Ze4 f hlt);obtain⟨b1,o1,rfl,hx⟩:=HR.out.get q hlt;have hm:xs[q]∈xs:=Yd3 hlt;obtain⟨hb1,p1,c1,p2,c2,p3,c3,k0,k1,k2,k3,hS⟩:=(hx.carry (Za6 hbw hB) lr).vals;have hsz:=hbw.size;have BB:=Zaa (hbw.alloc hsz (.cells #[.string xs[q].head.name,.slice p1 xs[q].head.terms.length c1,.slice p2 xs[q].body.length c2,.slice p3 xs[q].guards.length c3] 101));have CC:=Zaa (HH.out _ _ _ hm BB.out (Zfy.carry hS (Zfd _ (by omega))));have AL:=Zaa hall;clear hall hbw hx hm hS HH;go_wp2_with fail
   refine CC.out.mono ?_;rintro e w1 ⟨rfl,hb⟩;have B1:=Zaa (BB.out.trans (hb.mono BB.out.size));clear hb;by_cases hf:f xs[q]=0
   ·rw[hf,Zbb];go_wp2_with fail
    go_roundw
    case rel=>exact⟨q+1,by omega,by go_num,by rw[<- AL.out,FD.out,if_neg (by omega)],B1.out⟩
    case measure=>simp[intOf];omega
   ·rw[Zah _ hf];go_wp2_with fail
    go_ret
    exact⟨by rw[<- AL.out,FD.out,if_pos hf,Zah _ hf];rfl,B1.out⟩
  ·obtain rfl:q=xs.length:=by omega
   have AL:Box (Zax f xs=0):=⟨by rw[<- hall,List.drop_length];rfl⟩;go_wp2_with fail
   go_ret
   exact⟨by rw[AL.out];rfl,HB.out⟩
theorem Zib (hen:Zam K){f:R->Int}{xs:List R}(Z:Zap a w)(hrow:Zao 4 (Zb4 B w (D+1)) p xs)(hB:B<=w.heap.size)
  (HC: ∀ u vs x,x∈xs->Below w.heap.size w u->Zfy B u D vs x->Calls Tryz.prog K (first.push (.agg vs.toArray)++cap) u (Zc9 a (f x) u)):
  Calls Tryz.prog 50 #[.slice p xs.length c,.int .i64 (m:Int),.func (.func K) first cap] w (Zc9 a (Zbw f m xs) w):=by
 have hl:=hrow.len;have CC:=Zaa (Zn2 (c:=c) hen hrow hB HC);have z4:=Z.c4;clear hrow HC hen Z;by_cases hlt:m < xs.length
 ·have h1:(m:Int) < (xs.length:Int):=by omega
  have E:Box (Zbw f m xs=4):=⟨if_pos hlt⟩;go_enter Tryz.func50,Tryz.ntmps50
  go_wp2_with fail
  go_ret
  exact⟨by rw[E.out];rfl,Yct _ _⟩
 ·have h1: ¬ (m:Int) < (xs.length:Int):=by omega
  have E:Box (Zbw f m xs=Zax f xs):=⟨if_neg hlt⟩;go_enter Tryz.func50,Tryz.ntmps50
  go_wp2_with fail
  refine CC.out.mono ?_;rintro e w1 ⟨rfl,hb⟩;go_wp2_with fail
  go_ret
  exact⟨by rw[E.out];rfl,hb⟩
theorem Zml (hen:Zam K){f:(List R)->Int}{xs:List (List R)}(hrow:Zao 1 (Go.W.Zhg B w (D+1)) p xs)(hB:B<=w.heap.size)
  (HC: ∀ u vs x,x∈xs->Below w.heap.size w u->Ziw B u D vs x->Calls Tryz.prog K (first.push (.agg vs.toArray)++cap) u (Zc9 a (f x) u)):
  Calls Tryz.prog 111 #[.slice p xs.length c,.func (.func K) first cap] w (Zc9 a (Zax f xs) w):=by
 have hl:=hrow.len;have HR:=Zaa hrow;have HH:=Zaa HC;have hen': ∀ args w,(callFunc K args).run Tryz.prog w= .ok (.enter K args) w:=hen;clear hrow HC hen;go_enter Tryz.func111,Tryz.ntmps111
 go_wp2_with fail
 go_loopw [10] (fun iv wr=>Zj6 w f xs iv wr) (fun iv _=>xs.length - (intOf iv).toNat)
 case atStart=>exact⟨0,by omega,rfl,rfl,Yct _ _⟩
 case round=>
  obtain⟨q,hq,rfl,hall,hbw⟩:=hrel;have HB:=Zaa hbw;by_cases hlt:q < xs.length
  ·have FD:=Zaa (Ze4 f hlt);obtain⟨b1,o1,rfl,hx⟩:=HR.out.get q hlt;have hm:xs[q]∈xs:=Yd3 hlt;obtain⟨hb1,p1,c1,k0,hS⟩:=(hx.carry (Za6 hbw hB) lr).vals;have hsz:=hbw.size;rw[Nat.mul_one]at k0;have BB:=Zaa (hbw.alloc hsz (.cells #[.slice p1 xs[q].length c1] 67));have CC:=Zaa (HH.out _ _ _ hm BB.out (Ziw.carry hS (Zfd _ (by omega))));have AL:=Zaa hall;clear hall hbw hx hm hS HH;go_wp2_with fail
   refine CC.out.mono ?_;rintro e w1 ⟨rfl,hb⟩;have B1:=Zaa (BB.out.trans (hb.mono BB.out.size));clear hb;by_cases hf:f xs[q]=0
   ·rw[hf,Zbb];go_wp2_with fail
    go_roundw
    case rel=>exact⟨q+1,by omega,by go_num,by rw[<- AL.out,FD.out,if_neg (by omega)],B1.out⟩
    case measure=>simp[intOf];omega
   ·rw[Zah _ hf];go_wp2_with fail
    go_ret
    exact⟨by rw[<- AL.out,FD.out,if_pos hf,Zah _ hf];rfl,B1.out⟩
  ·obtain rfl:q=xs.length:=by omega
   have AL:Box (Zax f xs=0):=⟨by rw[<- hall,List.drop_length];rfl⟩;go_wp2_with fail
   go_ret
   exact⟨by rw[AL.out];rfl,HB.out⟩
theorem Zmu (hen:Zam K){f:(List R)->Int}{xs:List (List R)}(Z:Zap a w)(hrow:Zao 1 (Go.W.Zhg B w (D+1)) p xs)(hB:B<=w.heap.size)
  (HC: ∀ u vs x,x∈xs->Below w.heap.size w u->Ziw B u D vs x->Calls Tryz.prog K (first.push (.agg vs.toArray)++cap) u (Zc9 a (f x) u)):
  Calls Tryz.prog 52 #[.slice p xs.length c,.int .i64 (m:Int),.func (.func K) first cap] w (Zc9 a (Zbw f m xs) w):=by
 have hl:=hrow.len;have CC:=Zaa (Zml (c:=c) hen hrow hB HC);have z4:=Z.c4;clear hrow HC hen Z;by_cases hlt:m < xs.length
 ·have h1:(m:Int) < (xs.length:Int):=by omega
  have E:Box (Zbw f m xs=4):=⟨if_pos hlt⟩;go_enter Tryz.func52,Tryz.ntmps52
  go_wp2_with fail
  go_ret
  exact⟨by rw[E.out];rfl,Yct _ _⟩
 ·have h1: ¬ (m:Int) < (xs.length:Int):=by omega
  have E:Box (Zbw f m xs=Zax f xs):=⟨if_neg hlt⟩;go_enter Tryz.func52,Tryz.ntmps52
  go_wp2_with fail
  refine CC.out.mono ?_;rintro e w1 ⟨rfl,hb⟩;go_wp2_with fail
  go_ret
  exact⟨by rw[E.out];rfl,hb⟩
end Go.P
namespace Go.P
theorem Zci {w u:World}{L:Nat}{cs:Array Value}{e:TypeId}(h:Blk w L cs e)(hb:Below w.heap.size w u):Blk u L cs e:=h.of (hb.block L h.lt)
theorem Zls:Zam 153:=Zak Tryz.func153 (by kernel_rfl) rfl
def Zfu (a:Nat->Addr) (d:Nat):Prop:= ∀ {B D:Nat} {w:World} {vs:List Value} {x:T},Zap a w->B<=w.heap.size->Zcv B w D vs x->Calls Tryz.prog 153 #[.int .i64 (d:Int),.agg vs.toArray] w (Zc9 a (Zal d x) w)
theorem Zkq (V:Zbe){a:Nat->Addr}{d:Nat}(hd:d<=3)(ih:d < 3->Zfu a (d+1)):Zfu a d:=by
 intro B D w vs x Z hB hS;obtain⟨p,c,rfl,ht,_,_,hc,hrow⟩:=hS;have OW:Box ((Ze9 x.k x.i x.t x.l.length=false\/x.k=1/\0 < d->Zal d x=2)/\(Ze9 x.k x.i x.t x.l.length=true->(x.k=1->d=0)->(64 < x.t.size\/6 < x.l.length->Zal d x=4)/\(x.t.size<=64->x.l.length<=6->(x.k=7/\d=3->Zal d x=3)/\(x.k≠7\/d≠3->Zal d x=Zax (Zal (d+1)) x.l)))):=⟨by
  have key: ∀ r,Zug d x.k x.i x.t x.l.length=r->r≠0->Zal d x=r:=fun r h h'=>by rw[Zkw,h,if_pos h']
  have no:Ze9 x.k x.i x.t x.l.length=true->(x.k=1->d=0)-> ¬ (Ze9 x.k x.i x.t x.l.length=false\/x.k=1/\0 < d):=fun h h'=>by
   rintro(q | q)
   ·rw[h]at q;cases q
   ·omega
  refine⟨fun h=>key 2 (if_pos h) (by decide),fun h h'=>⟨fun h2=>key 4 ?_ (by decide),fun h2 h3=>⟨fun h4=>key 3 ?_ (by decide),fun h4=>?_⟩⟩⟩
  ·unfold Zug;rw[if_neg (no h h'),if_pos h2]
  ·unfold Zug;rw[if_neg (no h h'),if_neg (by omega),if_pos h4]
  ·rw[Zkw,if_neg];unfold Zug;rw[if_neg (no h h'),if_neg (by omega),if_neg (by omega)];decide⟩
 have C1:=Zaa (fun u (hu:Zap a u)=>Zvk V hu x.k x.i x.t p x.l.length c ht);have FN:Box (Ze9 x.k x.i x.t x.l.length=true->x.k=7\/x.l.length=0):=⟨fun h=>by
  unfold Ze9 Zmn at h
  (repeat' split at h) <;> simp_all⟩
 have hl:=hrow.len;have ZZ:=Zaa Z;have HR:=Zaa hrow;have IH:=Zaa (fun h=> @ih h);have XL:Box (∀ h:x.l.length=0,x.l=[]):=⟨Yda⟩;clear hrow Z ih hc;generalize Ze9 x.k x.i x.t x.l.length=b1 at*;generalize x.k=k at*;generalize x.i=i at*;generalize x.t=t at*;generalize hn:x.l.length=n at*;go_enter Tryz.func153,Tryz.ntmps153
 go_wp2_with fail
 refine(C1.out _ (ZZ.out.below ((Yct _ w).alloc lr _))).mono ?_;rintro e w1 ⟨rfl,hb⟩;have BB:=Zaa (((Yct w.heap.size w).alloc lr _).trans (hb.mono (by simp)));have BL:=Zaa (Zci (Blk.new w #[.int .i64 k,.int .i64 i,.string t,.slice p n c] 103) hb);obtain⟨z2,z3,z4⟩:=Ycs (ZZ.out.below BB.out).c2 (Ycs (ZZ.out.below BB.out).c3 (ZZ.out.below BB.out).c4);obtain⟨c0,c1,c2,c3,sf⟩:=BL.out.four;have CF:Box ((d < 3\/n=0)->Calls Tryz.prog 199 #[.slice p n c,.func (.func 153) #[.int .i64 ((d:Int)+1)] #[]] w1 (Zc9 a (Zax (Zal (d+1)) x.l) w1)):=⟨fun h=>by
  subst hn;have hB1:=BB.out.size;refine Zir (B:=B) Zls (HR.out.carry fun _ _ _ q=>q.carry (Za6 BB.out hB) (Yeb D)) (by omega) fun u vs y hy hu hS=>?_;rcases h with h | h
  ·exact IH.out h ((ZZ.out.below BB.out).below hu) (by have:=hu.size;omega) hS
  ·rw[XL.out h]at hy;cases hy⟩
 clear hb ZZ HR IH XL;cases b1 with
 | false=>
  have W2:Box (Zal d x=2):=⟨OW.out.1 (Or.inl rfl)⟩;clear OW FN CF;go_wp2_with fail
  all_goals (go_ret;exact⟨by rw[W2.out];rfl,BB.out⟩)
 | true=>
  have W1:Box (0 < d->k=1->Zal d x=2):=⟨fun h h'=>OW.out.1 (Or.inr ⟨h',h⟩)⟩;have W2:=Zaa (OW.out.2 rfl);have F2:=Zaa (FN.out rfl);clear OW FN;have g3:(d < 3/\((d:Int)==3)=false)\/(3<=d/\((d:Int)==3)=true):=by
   rcases Yel d 3 with h | h
   ·exact Or.inl ⟨h,by rw[beq_eq_false_iff_ne];omega⟩
   ·exact Or.inr ⟨h,by rw[beq_iff_eq];omega⟩
  rcases g3 with⟨h3,g3⟩ | ⟨h3,g3⟩;all_goals
   go_wp2_with (go_at_call 199;refine(CF.out ?_).mono ?_;rotate_left;rintro e w2 ⟨rfl,hb2⟩)
   all_goals first
    | (go_ret;exact⟨by rw[W1.out (by omega) (by omega)];rfl,BB.out⟩)
    | (go_ret;exact⟨by rw[(W2.out (by omega)).1 (by omega)];rfl,BB.out⟩)
    | (go_ret;exact⟨by rw[((W2.out (by omega)).2 (by omega) (by omega)).1 (by omega)];rfl,BB.out⟩)
    | (go_ret;exact⟨by rw[((W2.out (by omega)).2 (by omega) (by omega)).2 (by omega)];rfl,BB.out.trans (hb2.mono BB.out.size)⟩)
    | (have:=F2.out;omega)
theorem Zod (V:Zbe)(a:Nat->Addr): ∀ d,d<=3->Zfu a d:=by
 have h3:Zfu a 3:=Zkq V (by omega) fun h=>absurd h (by omega);have h2:Zfu a 2:=Zkq V (by omega) fun _=> @h3;have h1:Zfu a 1:=Zkq V (by omega) fun _=> @h2;have h0:Zfu a 0:=Zkq V (by omega) fun _=> @h1;intro d hd;match d,hd with
 | 0,_=>exact @h0
 | 1,_=>exact @h1
 | 2,_=>exact @h2
 | 3,_=>exact @h3
end Go.P
