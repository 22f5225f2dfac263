import Derived.Test.YtpmcefkhkkpnbaaGreatDoorW02
set_option linter.all false
set_option maxRecDepth 100000
set_option maxHeartbeats 8000000
open Go.Proofs Go.RowKit Go.W Tryz
namespace Go.W
def D9:Prop:= ∀ (a:Nat->Addr) (s:Ay) (w:Bb),AZ a w->s.size<1000000000->Calls prog 260 #[um s] w fun e w'=>e=uY (.bool<|pV s)/\Bl w w'
theorem Z0m (V:D9){a:Nat->Addr}{w:Bb}(Z:AZ a w)(k i:Int)(t:Ay)(p:Bp)(n c:Nat)(ht:t.size<1000000000):
  Calls prog 221 #[.agg #[zo k,zo i,um t,sP p n c]] w fun e w'=>e=uY (.bool<|Ih k i t n)/\Bl w w':=by
 have e0:=X4 t;have C1:=AC fun u=>Zni t u ht;have C2:=AC fun u hu=>V a t u hu ht;have ZZ:=AC Z;clear Z;have F:AF (Ih k i t n=UX k i t n (IR t) (pV t)):=⟨rfl⟩;generalize IR t=b1 at*;generalize pV t=b2 at*;generalize Ih k i t n=ans at*;go_in
 go_wp2
 go_quiet (fail)
 go_wp2_with (first | (go_at_call 158;apply(C1.o _).mono;rintro e w' ⟨rfl,hb⟩) | (go_at_call 260;apply(C2.o _<|ZZ.o.be<|MW<|(AR _ w).alloc lr _).mono;rintro e w' ⟨rfl,hb⟩))
 all_goals go_ret
 all_goals first | exact⟨Ns (by rw[F.o];simp_all [UX]),(MW<|zv w _).trans<|hb.mono zw⟩ | exact⟨Ns (by rw[F.o];simp only[Z9c,Yc0]at*;simp_all [UX]),MW<|zv w _⟩
end Go.W
set_option linter.defProp false
namespace Go.W
section
variable {a:Nat->Addr}{K c m B D:Nat}{first cap:Ca}{w:Bb}{p:Bp}
theorem Zk8 {α:Type}{N s B:Nat}{Q:Bb->Nat->Nat->α->Prop}{S:Bb->Bu->α->Prop}(I:Ra 220 103 162 106 108 106 N s Q S)(CQ: ∀ {w u b o x},EG B B w u->Q w b o x->Q u b o x)(CS: ∀ {w u vs x},S w vs x->EG B B w u->S u vs x){a:Nat->Addr}{K:Nat}(hen:Da K){first cap:Ca}{f:α->Int}{w:Bb}{p:Bp}{xs:List α}{c:Nat}(hrow:Ap s (Q w) p xs)(hB:B<=w.heap.size)
  (HC: ∀ u vs x,x∈xs->Bl w u->S u vs x->Calls prog K (first.push (.agg vs.toArray)++cap) u (FT a (f x) u)):
  Calls prog N #[sP p xs.length c,.func (.func K) first cap] w (FT a (EU f xs) w):=by
 have hl:=hrow.len;have HR:=AC hrow;have HH:=AC HC;have Dz: ∀ args w,(callFunc K args).run prog w= .ok (.enter K args) w:=hen;clear hrow HC hen;rcases I with⟨rfl,rfl,hV⟩ | ⟨rfl,rfl,hV⟩ | ⟨rfl,rfl,hV⟩ | ⟨rfl | rfl,rfl,hV⟩ | ⟨rfl,rfl,hV⟩;all_goals
  go_in
  go_wp2
  go_loopw [10] (fun iv wr=>qP w f xs iv wr) (fun iv _=>xs.length-(intOf iv).toNat)
  .exact⟨0,zx,rfl,rfl,AR _ _⟩
  .obtain⟨q,hq,rfl,hall,Af⟩:=hrel;have HB:=AC Af;by_cases hlt:q<xs.length
   .have FD:=AC<|rA f hlt;obtain⟨b1,o1,rfl,hx⟩:=HR.o.get q hlt;try rw[Nat.mul_one]at hx
    have hm:xs[q]∈xs:=QO hlt;refine hV (CQ (Bq Af hB) hx) ?_;intros
    rename_i hS hv;have hsz:=Af.size;have BB:=AC fun o=>Af.alloc hsz o;have CC:=AC fun o=>HH.o _ _ _ hm (BB.o o) (CS hS<|Qk o zx);have AL:=AC hall;subst hv;clear hall Af hx hm hS HH hV;go_wp2_with fail
    apply(CC.o _).mono;rintro e w1 ⟨rfl,hb⟩;have B1:=AC<|(BB.o _).trans<|hb.mono (BB.o _).size;clear hb;by_cases hf:f xs[q]=0
    .rw[hf,JR];go_wp2
     go_roundw
     .exact⟨q+1,zx,by go_num,by rw[<- AL.o,FD.o,xd zx],B1.o⟩
     simp[intOf];omega
    .rw[BU _ hf];go_wp2
     go_ret
     exact⟨by rw[<- AL.o,FD.o,xj hf,BU _ hf];rfl,B1.o⟩
   .obtain rfl:q=xs.length:=zx
    have AL:AF (EU f xs=0):=⟨by rw[<- hall,List.drop_length];rfl⟩;go_wp2
    go_ret
    exact⟨by rw[AL.o];rfl,HB.o⟩
theorem Zpq {α:Type}{N N2:Nat}(I:(N=159/\N2=220)\/(N=47/\N2=103)\/(N=49/\N2=106)\/(N=51/\N2=108)){f:α->Int}{xs:List α}(Z:AZ a w)(CC:Calls prog N2 #[sP p xs.length c,.func (.func K) first cap] w (FT a (EU f xs) w)):
  Calls prog N #[sP p xs.length c,zo (m:Int),.func (.func K) first cap] w (FT a (Ei f m xs) w):=by
 have CC:=AC CC;have z4:=Z.c4;clear Z;rcases I with⟨rfl,rfl⟩ | ⟨rfl,rfl⟩ | ⟨rfl,rfl⟩ | ⟨rfl,rfl⟩;all_goals
  by_cases hlt:m<xs.length
  .have h1:(m:Int)<(xs.length:Int):=zx
   have E:AF (Ei f m xs=4):=⟨xj hlt⟩;go_in
   go_wp2
   go_ret
   exact⟨by rw[E.o];rfl,AR _ _⟩
  .have h1: ¬ (m:Int)<(xs.length:Int):=zx
   have E:AF (Ei f m xs=EU f xs):=⟨xd hlt⟩;go_in
   go_wp2_with fail
   apply mq CC.o;rintro w1 hb;go_wp2
   go_ret
   exact⟨by rw[E.o];rfl,hb⟩
def Zjp {B D:Nat}:= @Zk8 _ _ _ B (fun w=>He B w (D+1)) (fun w=>Ed B w D) raT (fun c q=>q.cy c lr) Ed.cy
def Zjo {B D:Nat}:= @Zk8 _ _ _ B (fun w=>Ep B w (D+1)) (fun w=>Jz B w D) raA (fun c q=>q.cy c lr) Jz.cy
def Zo8 {B D:Nat}:= @Zk8 _ _ _ B (fun w=>QK B w (D+1)) (fun w=>TQ B w D) raG (fun c q=>q.cy c lr) TQ.cy
def Zqn {B D:Nat}:= @Zk8 _ _ _ B (fun w=>FJ B w (D+1)) (fun w=>Jy B w D) raR (fun c q=>q.cy c lr) Jy.cy
def Zo7 {B D:Nat}:= @Zk8 _ _ _ B (fun w=>Go.W.Rw B w (D+1)) (fun w=>Wi B w D) raC (fun c q=>q.cy c lr) Wi.cy
theorem Zr8 (hen:Da K){f:T->Int}{xs:List T}(Z:AZ a w)(hrow:Ap 4 (He B w<|D+1) p xs)(hB:B<=w.heap.size)
  (HC: ∀ u vs x,x∈xs->Bl w u->Ed B u D vs x->Calls prog K (first.push (.agg vs.toArray)++cap) u (FT a (f x) u)):
  Calls prog 159 #[sP p xs.length c,zo (m:Int),.func (.func K) first cap] w (FT a (Ei f m xs) w):=
 Zpq (.inl ⟨rfl,rfl⟩) Z (Zjp hen hrow hB HC)
theorem Zr7 (hen:Da K){f:A->Int}{xs:List A}(Z:AZ a w)(hrow:Ap 2 (Ep B w<|D+1) p xs)(hB:B<=w.heap.size)
  (HC: ∀ u vs x,x∈xs->Bl w u->Jz B u D vs x->Calls prog K (first.push (.agg vs.toArray)++cap) u (FT a (f x) u)):
  Calls prog 47 #[sP p xs.length c,zo (m:Int),.func (.func K) first cap] w (FT a (Ei f m xs) w):=
 Zpq (.inr<|.inl ⟨rfl,rfl⟩) Z (Zjo hen hrow hB HC)
theorem Zj2 (hen:Da K){f:R->Int}{xs:List R}(Z:AZ a w)(hrow:Ap 4 (FJ B w<|D+1) p xs)(hB:B<=w.heap.size)
  (HC: ∀ u vs x,x∈xs->Bl w u->Jy B u D vs x->Calls prog K (first.push (.agg vs.toArray)++cap) u (FT a (f x) u)):
  Calls prog 49 #[sP p xs.length c,zo (m:Int),.func (.func K) first cap] w (FT a (Ei f m xs) w):=
 Zpq (.inr<|.inr<|.inl ⟨rfl,rfl⟩) Z (Zqn hen hrow hB HC)
theorem Zpe (hen:Da K){f:(List R)->Int}{xs:List (List R)}(Z:AZ a w)(hrow:Ap 1 (Go.W.Rw B w<|D+1) p xs)(hB:B<=w.heap.size)
  (HC: ∀ u vs x,x∈xs->Bl w u->Wi B u D vs x->Calls prog K (first.push (.agg vs.toArray)++cap) u (FT a (f x) u)):
  Calls prog 51 #[sP p xs.length c,zo (m:Int),.func (.func K) first cap] w (FT a (Ei f m xs) w):=
 Zpq (.inr<|.inr<|.inr ⟨rfl,rfl⟩) Z (Zo7 hen hrow hB HC)
end
end Go.W
