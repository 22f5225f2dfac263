import Derived.Test.YtaoiihbjdonaoaaGreatDoorW02
set_option maxRecDepth 100000
set_option maxHeartbeats 8000000
set_option linter.unusedSimpArgs false
open Go.Proofs Go.RowKit Go.W Tryz
namespace Go.P
def D9:Prop:= ∀ (a:Nat->Addr) (s:ByteArray) (w:World),AZ a w->s.size<1000000000->Calls prog 207 #[.string s] w fun e w'=>e= .returned (.bool<|pV s)/\Bl w w'
theorem Z0m (V:D9){a:Nat->Addr}{w:World}(Z:AZ a w)(k i:Int)(t:ByteArray)(p:Option Addr)(n c:Nat)(ht:t.size<1000000000):
  Calls prog 175 #[.agg #[zo k,zo i,.string t,.slice p n c]] w fun e w'=>e= .returned (.bool<|Ih k i t n)/\Bl w w':=by
 have e0:=X4 t;have C1:=AC fun u=>Zni t u ht;have C2:=AC fun u hu=>V a t u hu ht;have ZZ:=AC Z;clear Z;have F:AF (Ih k i t n=UX k i t n (IR t) (pV t)):=⟨rfl⟩;generalize IR t=b1 at*;generalize pV t=b2 at*;generalize Ih k i t n=ans at*;go_in
 go_wp2
 go_quiet (fail)
 go_wp2_with (first | (go_at_call 135;refine(C1.out _).mono ?_;rintro e w' ⟨rfl,hb⟩) | (go_at_call 207;refine(C2.out _<|ZZ.out.below<|MW<|(AR _ w).alloc lr _).mono ?_;rintro e w' ⟨rfl,hb⟩))
 all_goals go_ret
 all_goals first | exact⟨Ns (by rw[F.out];simp_all [UX]),(MW<|(AR w.heap.size w).alloc lr _).trans<|hb.mono zw⟩ | exact⟨Ns (by rw[F.out];simp only[Z9c,Yc0]at*;simp_all [UX]),MW<|(AR w.heap.size w).alloc lr _⟩
end Go.P
namespace Go.P
variable {a:Nat->Addr}{K B D c m:Nat}{first cap:Array Value}{f:T->Int}{w:World}{p:Option Addr}{xs:List T}
theorem Zjp (hen:Da K)(hrow:Ap 4 (He B w<|D+1) p xs)(hB:B<=w.heap.size)
  (HC: ∀ u vs x,x∈xs->Bl w u->Ed B u D vs x->Calls prog K (first.push (.agg vs.toArray)++cap) u (FT a (f x) u)):
  Calls prog 174 #[.slice p xs.length c,.func (.func K) first cap] w (FT a (EU f xs) w):=by
 have hl:=hrow.len;have HR:=AC hrow;have HH:=AC HC;have Dz: ∀ args w,(callFunc K args).run prog w= .ok (.enter K args) w:=hen;clear hrow HC hen;go_in
 go_wp2
 go_loopw [10] (fun iv wr=>qP w f xs iv wr) (fun iv _=>xs.length-(intOf iv).toNat)
 case atStart=>exact⟨0,zx,rfl,rfl,AR _ _⟩
 case round=>
  obtain⟨q,hq,rfl,hall,Af⟩:=hrel;have HB:=AC Af;by_cases hlt:q<xs.length
  ·have FD:=AC<|rA f hlt;obtain⟨b1,o1,rfl,hx⟩:=HR.out.get q hlt;have hm:xs[q]∈xs:=QO hlt;obtain⟨hb1,p1,c1,k0,k1,k2,k3,hS⟩:=(hx.carry (Bq Af hB) lr).vals;have hsz:=Af.size;have BB:=AC<|Af.alloc hsz<|.cells #[zo xs[q].k,zo xs[q].i,.string xs[q].t,.slice p1 xs[q].l.length c1] 46;have CC:=AC<|HH.out _ _ _ hm BB.out<|Ed.carry hS<|Qk _ zx;have AL:=AC hall;clear hall Af hx hm hS HH;go_wp2_with fail
   refine mq CC.out ?_;rintro w1 hb;have B1:=tr BB hb;clear hb;by_cases hf:f xs[q]=0
   ·rw[hf,JR];go_wp2
    go_roundw
    case rel=>exact⟨q+1,zx,by go_num,by rw[<- AL.out,FD.out,if_neg zx],B1.out⟩
    case measure=>simp[intOf];omega
   ·rw[BU _ hf];go_wp2
    go_ret
    exact⟨by rw[<- AL.out,FD.out,if_pos hf,BU _ hf];rfl,B1.out⟩
  ·obtain rfl:q=xs.length:=zx
   have AL:AF (EU f xs=0):=⟨by rw[<- hall,List.drop_length];rfl⟩;go_wp2
   go_ret
   exact⟨by rw[AL.out];rfl,HB.out⟩
theorem Zr8 (hen:Da K)(Z:AZ a w)(hrow:Ap 4 (He B w<|D+1) p xs)(hB:B<=w.heap.size)
  (HC: ∀ u vs x,x∈xs->Bl w u->Ed B u D vs x->Calls prog K (first.push (.agg vs.toArray)++cap) u (FT a (f x) u)):
  Calls prog 136 #[.slice p xs.length c,zo (m:Int),.func (.func K) first cap] w (FT a (Ei f m xs) w):=by
 have hl:=hrow.len;have CC:=AC<|Zjp (c:=c) hen hrow hB HC;have z4:=Z.c4;clear hrow HC hen Z;by_cases hlt:m<xs.length
 ·have h1:(m:Int)<(xs.length:Int):=zx
  have E:AF (Ei f m xs=4):=⟨if_pos hlt⟩;go_in
  go_wp2
  go_ret
  exact⟨by rw[E.out];rfl,AR _ _⟩
 ·have h1: ¬ (m:Int)<(xs.length:Int):=zx
  have E:AF (Ei f m xs=EU f xs):=⟨if_neg hlt⟩;go_in
  go_wp2_with fail
  refine mq CC.out ?_;rintro w1 hb;go_wp2
  go_ret
  exact⟨by rw[E.out];rfl,hb⟩
theorem Zjo (hen:Da K){f:A->Int}{xs:List A}(hrow:Ap 2 (Ep B w<|D+1) p xs)(hB:B<=w.heap.size)
  (HC: ∀ u vs x,x∈xs->Bl w u->Jz B u D vs x->Calls prog K (first.push (.agg vs.toArray)++cap) u (FT a (f x) u)):
  Calls prog 91 #[.slice p xs.length c,.func (.func K) first cap] w (FT a (EU f xs) w):=by
 have hl:=hrow.len;have HR:=AC hrow;have HH:=AC HC;have Dz: ∀ args w,(callFunc K args).run prog w= .ok (.enter K args) w:=hen;clear hrow HC hen;go_in
 go_wp2
 go_loopw [10] (fun iv wr=>qP w f xs iv wr) (fun iv _=>xs.length-(intOf iv).toNat)
 case atStart=>exact⟨0,zx,rfl,rfl,AR _ _⟩
 case round=>
  obtain⟨q,hq,rfl,hall,Af⟩:=hrel;have HB:=AC Af;by_cases hlt:q<xs.length
  ·have FD:=AC<|rA f hlt;obtain⟨b1,o1,rfl,hx⟩:=HR.out.get q hlt;have hm:xs[q]∈xs:=QO hlt;obtain⟨hb1,p1,c1,k0,k1,hS⟩:=(hx.carry (Bq Af hB) lr).vals;have hsz:=Af.size;have BB:=AC<|Af.alloc hsz<|.cells #[.string xs[q].name,.slice p1 xs[q].terms.length c1] 41;have CC:=AC<|HH.out _ _ _ hm BB.out<|Jz.carry hS<|Qk _ zx;have AL:=AC hall;clear hall Af hx hm hS HH;go_wp2_with fail
   refine mq CC.out ?_;rintro w1 hb;have B1:=tr BB hb;clear hb;by_cases hf:f xs[q]=0
   ·rw[hf,JR];go_wp2
    go_roundw
    case rel=>exact⟨q+1,zx,by go_num,by rw[<- AL.out,FD.out,if_neg zx],B1.out⟩
    case measure=>simp[intOf];omega
   ·rw[BU _ hf];go_wp2
    go_ret
    exact⟨by rw[<- AL.out,FD.out,if_pos hf,BU _ hf];rfl,B1.out⟩
  ·obtain rfl:q=xs.length:=zx
   have AL:AF (EU f xs=0):=⟨by rw[<- hall,List.drop_length];rfl⟩;go_wp2
   go_ret
   exact⟨by rw[AL.out];rfl,HB.out⟩
theorem Zr7 (hen:Da K){f:A->Int}{xs:List A}(Z:AZ a w)(hrow:Ap 2 (Ep B w<|D+1) p xs)(hB:B<=w.heap.size)
  (HC: ∀ u vs x,x∈xs->Bl w u->Jz B u D vs x->Calls prog K (first.push (.agg vs.toArray)++cap) u (FT a (f x) u)):
  Calls prog 51 #[.slice p xs.length c,zo (m:Int),.func (.func K) first cap] w (FT a (Ei f m xs) w):=by
 have hl:=hrow.len;have CC:=AC<|Zjo (c:=c) hen hrow hB HC;have z4:=Z.c4;clear hrow HC hen Z;by_cases hlt:m<xs.length
 ·have h1:(m:Int)<(xs.length:Int):=zx
  have E:AF (Ei f m xs=4):=⟨if_pos hlt⟩;go_in
  go_wp2
  go_ret
  exact⟨by rw[E.out];rfl,AR _ _⟩
 ·have h1: ¬ (m:Int)<(xs.length:Int):=zx
  have E:AF (Ei f m xs=EU f xs):=⟨if_neg hlt⟩;go_in
  go_wp2_with fail
  refine mq CC.out ?_;rintro w1 hb;go_wp2
  go_ret
  exact⟨by rw[E.out];rfl,hb⟩
theorem Zo8 (hen:Da K){f:G->Int}{xs:List G}(hrow:Ap 9 (QK B w<|D+1) p xs)(hB:B<=w.heap.size)
  (HC: ∀ u vs x,x∈xs->Bl w u->TQ B u D vs x->Calls prog K (first.push (.agg vs.toArray)++cap) u (FT a (f x) u)):
  Calls prog 139 #[.slice p xs.length c,.func (.func K) first cap] w (FT a (EU f xs) w):=by
 have hl:=hrow.len;have HR:=AC hrow;have HH:=AC HC;have Dz: ∀ args w,(callFunc K args).run prog w= .ok (.enter K args) w:=hen;clear hrow HC hen;go_in
 go_wp2
 go_loopw [10] (fun iv wr=>qP w f xs iv wr) (fun iv _=>xs.length-(intOf iv).toNat)
 case atStart=>exact⟨0,zx,rfl,rfl,AR _ _⟩
 case round=>
  obtain⟨q,hq,rfl,hall,Af⟩:=hrel;have HB:=AC Af;by_cases hlt:q<xs.length
  ·have FD:=AC<|rA f hlt;obtain⟨b1,o1,rfl,hx⟩:=HR.out.get q hlt;have hm:xs[q]∈xs:=QO hlt;obtain⟨hb1,p1,c1,p2,c2,k0,k1,k2,k3,k4,k5,k6,k7,k8,hS⟩:=(hx.carry (Bq Af hB) lr).vals;have hsz:=Af.size;have BB:=AC<|Af.alloc hsz<|.cells #[zo xs[q].op,zo xs[q].a.k,zo xs[q].a.i,.string xs[q].a.t,.slice p1 xs[q].a.l.length c1,zo xs[q].b.k,zo xs[q].b.i,.string xs[q].b.t,.slice p2 xs[q].b.l.length c2] 48;have CC:=AC<|HH.out _ _ _ hm BB.out<|TQ.carry hS<|Qk _ zx;have AL:=AC hall;clear hall Af hx hm hS HH;go_wp2_with fail
   refine mq CC.out ?_;rintro w1 hb;have B1:=tr BB hb;clear hb;by_cases hf:f xs[q]=0
   ·rw[hf,JR];go_wp2
    go_roundw
    case rel=>exact⟨q+1,zx,by go_num,by rw[<- AL.out,FD.out,if_neg zx],B1.out⟩
    case measure=>simp[intOf];omega
   ·rw[BU _ hf];go_wp2
    go_ret
    exact⟨by rw[<- AL.out,FD.out,if_pos hf,BU _ hf];rfl,B1.out⟩
  ·obtain rfl:q=xs.length:=zx
   have AL:AF (EU f xs=0):=⟨by rw[<- hall,List.drop_length];rfl⟩;go_wp2
   go_ret
   exact⟨by rw[AL.out];rfl,HB.out⟩
theorem Zqn (hen:Da K){f:R->Int}{xs:List R}(hrow:Ap 4 (FJ B w<|D+1) p xs)(hB:B<=w.heap.size)
  (HC: ∀ u vs x,x∈xs->Bl w u->Jy B u D vs x->Calls prog K (first.push (.agg vs.toArray)++cap) u (FT a (f x) u)):
  Calls prog 94 #[.slice p xs.length c,.func (.func K) first cap] w (FT a (EU f xs) w):=by
 have hl:=hrow.len;have HR:=AC hrow;have HH:=AC HC;have Dz: ∀ args w,(callFunc K args).run prog w= .ok (.enter K args) w:=hen;clear hrow HC hen;go_in
 go_wp2
 go_loopw [10] (fun iv wr=>qP w f xs iv wr) (fun iv _=>xs.length-(intOf iv).toNat)
 case atStart=>exact⟨0,zx,rfl,rfl,AR _ _⟩
 case round=>
  obtain⟨q,hq,rfl,hall,Af⟩:=hrel;have HB:=AC Af;by_cases hlt:q<xs.length
  ·have FD:=AC<|rA f hlt;obtain⟨b1,o1,rfl,hx⟩:=HR.out.get q hlt;have hm:xs[q]∈xs:=QO hlt;obtain⟨hb1,p1,c1,p2,c2,p3,c3,k0,k1,k2,k3,hS⟩:=(hx.carry (Bq Af hB) lr).vals;have hsz:=Af.size;have BB:=AC<|Af.alloc hsz<|.cells #[.string xs[q].head.name,.slice p1 xs[q].head.terms.length c1,.slice p2 xs[q].body.length c2,.slice p3 xs[q].guards.length c3] 44;have CC:=AC<|HH.out _ _ _ hm BB.out<|Jy.carry hS<|Qk _ zx;have AL:=AC hall;clear hall Af hx hm hS HH;go_wp2_with fail
   refine mq CC.out ?_;rintro w1 hb;have B1:=tr BB hb;clear hb;by_cases hf:f xs[q]=0
   ·rw[hf,JR];go_wp2
    go_roundw
    case rel=>exact⟨q+1,zx,by go_num,by rw[<- AL.out,FD.out,if_neg zx],B1.out⟩
    case measure=>simp[intOf];omega
   ·rw[BU _ hf];go_wp2
    go_ret
    exact⟨by rw[<- AL.out,FD.out,if_pos hf,BU _ hf];rfl,B1.out⟩
  ·obtain rfl:q=xs.length:=zx
   have AL:AF (EU f xs=0):=⟨by rw[<- hall,List.drop_length];rfl⟩;go_wp2
   go_ret
   exact⟨by rw[AL.out];rfl,HB.out⟩
theorem Zj2 (hen:Da K){f:R->Int}{xs:List R}(Z:AZ a w)(hrow:Ap 4 (FJ B w<|D+1) p xs)(hB:B<=w.heap.size)
  (HC: ∀ u vs x,x∈xs->Bl w u->Jy B u D vs x->Calls prog K (first.push (.agg vs.toArray)++cap) u (FT a (f x) u)):
  Calls prog 53 #[.slice p xs.length c,zo (m:Int),.func (.func K) first cap] w (FT a (Ei f m xs) w):=by
 have hl:=hrow.len;have CC:=AC<|Zqn (c:=c) hen hrow hB HC;have z4:=Z.c4;clear hrow HC hen Z;by_cases hlt:m<xs.length
 ·have h1:(m:Int)<(xs.length:Int):=zx
  have E:AF (Ei f m xs=4):=⟨if_pos hlt⟩;go_in
  go_wp2
  go_ret
  exact⟨by rw[E.out];rfl,AR _ _⟩
 ·have h1: ¬ (m:Int)<(xs.length:Int):=zx
  have E:AF (Ei f m xs=EU f xs):=⟨if_neg hlt⟩;go_in
  go_wp2_with fail
  refine mq CC.out ?_;rintro w1 hb;go_wp2
  go_ret
  exact⟨by rw[E.out];rfl,hb⟩
theorem Zo7 (hen:Da K){f:(List R)->Int}{xs:List (List R)}(hrow:Ap 1 (Go.W.Rw B w<|D+1) p xs)(hB:B<=w.heap.size)
  (HC: ∀ u vs x,x∈xs->Bl w u->Wi B u D vs x->Calls prog K (first.push (.agg vs.toArray)++cap) u (FT a (f x) u)):
  Calls prog 96 #[.slice p xs.length c,.func (.func K) first cap] w (FT a (EU f xs) w):=by
 have hl:=hrow.len;have HR:=AC hrow;have HH:=AC HC;have Dz: ∀ args w,(callFunc K args).run prog w= .ok (.enter K args) w:=hen;clear hrow HC hen;go_in
 go_wp2
 go_loopw [10] (fun iv wr=>qP w f xs iv wr) (fun iv _=>xs.length-(intOf iv).toNat)
 case atStart=>exact⟨0,zx,rfl,rfl,AR _ _⟩
 case round=>
  obtain⟨q,hq,rfl,hall,Af⟩:=hrel;have HB:=AC Af;by_cases hlt:q<xs.length
  ·have FD:=AC<|rA f hlt;obtain⟨b1,o1,rfl,hx⟩:=HR.out.get q hlt;have hm:xs[q]∈xs:=QO hlt;obtain⟨hb1,p1,c1,k0,hS⟩:=(hx.carry (Bq Af hB) lr).vals;have hsz:=Af.size;rw[Nat.mul_one]at k0;have BB:=AC<|Af.alloc hsz<|.cells #[.slice p1 xs[q].length c1] 52;have CC:=AC<|HH.out _ _ _ hm BB.out<|Wi.carry hS<|Qk _ zx;have AL:=AC hall;clear hall Af hx hm hS HH;go_wp2_with fail
   refine mq CC.out ?_;rintro w1 hb;have B1:=tr BB hb;clear hb;by_cases hf:f xs[q]=0
   ·rw[hf,JR];go_wp2
    go_roundw
    case rel=>exact⟨q+1,zx,by go_num,by rw[<- AL.out,FD.out,if_neg zx],B1.out⟩
    case measure=>simp[intOf];omega
   ·rw[BU _ hf];go_wp2
    go_ret
    exact⟨by rw[<- AL.out,FD.out,if_pos hf,BU _ hf];rfl,B1.out⟩
  ·obtain rfl:q=xs.length:=zx
   have AL:AF (EU f xs=0):=⟨by rw[<- hall,List.drop_length];rfl⟩;go_wp2
   go_ret
   exact⟨by rw[AL.out];rfl,HB.out⟩
theorem Zpe (hen:Da K){f:(List R)->Int}{xs:List (List R)}(Z:AZ a w)(hrow:Ap 1 (Go.W.Rw B w<|D+1) p xs)(hB:B<=w.heap.size)
  (HC: ∀ u vs x,x∈xs->Bl w u->Wi B u D vs x->Calls prog K (first.push (.agg vs.toArray)++cap) u (FT a (f x) u)):
  Calls prog 55 #[.slice p xs.length c,zo (m:Int),.func (.func K) first cap] w (FT a (Ei f m xs) w):=by
 have hl:=hrow.len;have CC:=AC<|Zo7 (c:=c) hen hrow hB HC;have z4:=Z.c4;clear hrow HC hen Z;by_cases hlt:m<xs.length
 ·have h1:(m:Int)<(xs.length:Int):=zx
  have E:AF (Ei f m xs=4):=⟨if_pos hlt⟩;go_in
  go_wp2
  go_ret
  exact⟨by rw[E.out];rfl,AR _ _⟩
 ·have h1: ¬ (m:Int)<(xs.length:Int):=zx
  have E:AF (Ei f m xs=EU f xs):=⟨if_neg hlt⟩;go_in
  go_wp2_with fail
  refine mq CC.out ?_;rintro w1 hb;go_wp2
  go_ret
  exact⟨by rw[E.out];rfl,hb⟩
end Go.P
