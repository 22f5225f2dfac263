import Derived.Test.YtgnakaplmhmdcaaGreatDoorW03
set_option maxRecDepth 100000
set_option maxHeartbeats 8000000
open Go.Proofs Go.RowKit Go.W
namespace Go.P
variable {K B D b c:Nat}{first cap:Array Value}{s:ByteArray}{w:World}{p:Option Addr}
theorem Zif (hen:Zam K){f:T->ByteArray}{xs:List T}(h:Bld 80 B b s w)(hs:s.size+(Za4 f xs).size < 1000000000)(hrow:Zao 4 (Zbl B w (D+1)) p xs)(hB:B<=w.heap.size)
  (HC: ∀ u vs x s',x∈xs->Bld 80 B b s' u->Fr B b w u->Zcv B u D vs x->s'.size+(f x).size < 1000000000->Calls Tryz.prog K (first.push (.agg vs.toArray)++cap) u (Zfw 80 B b (s'++f x) u)):
  Calls Tryz.prog 115 #[.pointer (some ⟨b,0,none⟩),.slice p xs.length c,.func (.func K) first cap] w (Zfw 80 B b (s++Za4 f xs) w):=by
 have hl:=hrow.len;have HR:=Zaa hrow;have HH:=Zaa HC;have hen': ∀ args w,(callFunc K args).run Tryz.prog w= .ok (.enter K args) w:=hen;have hz:s.size+((Zfi xs.length).size+(cat f xs).size) < 1000000000:=by rw[Za4,Zae]at hs;exact hs
 have EQ:Box (s++Zfi xs.length++cat f xs=s++Za4 f xs):=⟨by rw[Za4,Za2]⟩;have C:=Zaa (Zd2 Zfc h xs.length (by omega) (by omega) hB);have SZ:Box ((s++Zfi xs.length).size=s.size+(Zfi xs.length).size):=⟨Zae _ _⟩;clear hrow HC hen h hs;generalize s++Zfi xs.length=s1 at*;go_enter Tryz.func115,Tryz.ntmps115
 go_wp2_with fail
 refine C.out.mono ?_;rintro e w1 ⟨rfl,hb1,hw1⟩;have H1:=Zaa (Ycs hb1 hw1);clear hb1 hw1 C;go_wp2_with fail
 go_loopw [15] (fun iv wr=>Zli 80 B b s1 f w xs iv wr) (fun iv _=>xs.length - (intOf iv).toNat)
 case atStart=>exact⟨0,by omega,rfl,by simpa[cat]using H1.out.1,H1.out.2⟩
 case round=>
  obtain⟨q,hq,rfl,hbl,hbw⟩:=hrel;have HB:=Zaa (Ycs hbl hbw);by_cases hlt:q < xs.length
  ·have FD:=Zaa (Zix f hlt);have LE:=Zqr f xs (q+1);obtain⟨b1,o1,rfl,hx⟩:=HR.out.get q hlt;have hm:xs[q]∈xs:=Yd3 hlt;obtain⟨hb1,p1,c1,k0,k1,k2,k3,hS⟩:=(hx.carry (Go.W.Below.carry hbw.below lr) lr).vals;have hsz:=Ycu hB hbw.size;rw[FD.out,Zae]at LE;have CC:=Zaa (HH.out _ _ _ _ hm (hbl.alloc (.cells #[.int .i64 xs[q].k,.int .i64 xs[q].i,.string xs[q].t,.slice p1 xs[q].l.length c1] 103)) (hbw.alloc hsz _) (Zcv.carry hS (Zfd _ hsz)) (by rw[Zae,SZ.out];omega));clear hbl hbw hx hm hS HH;go_wp2_with fail
   refine CC.out.mono ?_;rintro e w2 ⟨rfl,hb2,hw2⟩;have R:=Zaa (Ycs hb2 ((HB.out.2.alloc hsz _).trans hw2));clear hb2 hw2 CC;go_wp2_with fail
   go_roundw
   case rel=>exact⟨q+1,by omega,by go_num,by rw[FD.out,<- Za2];exact R.out.1,R.out.2⟩
   case measure=>simp[intOf];omega
  ·obtain rfl:q=xs.length:=by omega
   rw[Yd2]at hbl;have HB2:=Zaa (Ycs hbl hbw);clear hbl hbw HB;go_wp2_with fail
   go_end0
   exact⟨rfl,EQ.out▸HB2.out.1,HB2.out.2⟩
theorem Zh7 (hen:Zam K){f:A->ByteArray}{xs:List A}(h:Bld 80 B b s w)(hs:s.size+(Za4 f xs).size < 1000000000)(hrow:Zao 2 (Zbd B w (D+1)) p xs)(hB:B<=w.heap.size)
  (HC: ∀ u vs x s',x∈xs->Bld 80 B b s' u->Fr B b w u->Zev B u D vs x->s'.size+(f x).size < 1000000000->Calls Tryz.prog K (first.push (.agg vs.toArray)++cap) u (Zfw 80 B b (s'++f x) u)):
  Calls Tryz.prog 54 #[.pointer (some ⟨b,0,none⟩),.slice p xs.length c,.func (.func K) first cap] w (Zfw 80 B b (s++Za4 f xs) w):=by
 have hl:=hrow.len;have HR:=Zaa hrow;have HH:=Zaa HC;have hen': ∀ args w,(callFunc K args).run Tryz.prog w= .ok (.enter K args) w:=hen;have hz:s.size+((Zfi xs.length).size+(cat f xs).size) < 1000000000:=by rw[Za4,Zae]at hs;exact hs
 have EQ:Box (s++Zfi xs.length++cat f xs=s++Za4 f xs):=⟨by rw[Za4,Za2]⟩;have C:=Zaa (Zd2 Zfc h xs.length (by omega) (by omega) hB);have SZ:Box ((s++Zfi xs.length).size=s.size+(Zfi xs.length).size):=⟨Zae _ _⟩;clear hrow HC hen h hs;generalize s++Zfi xs.length=s1 at*;go_enter Tryz.func54,Tryz.ntmps54
 go_wp2_with fail
 refine C.out.mono ?_;rintro e w1 ⟨rfl,hb1,hw1⟩;have H1:=Zaa (Ycs hb1 hw1);clear hb1 hw1 C;go_wp2_with fail
 go_loopw [15] (fun iv wr=>Zli 80 B b s1 f w xs iv wr) (fun iv _=>xs.length - (intOf iv).toNat)
 case atStart=>exact⟨0,by omega,rfl,by simpa[cat]using H1.out.1,H1.out.2⟩
 case round=>
  obtain⟨q,hq,rfl,hbl,hbw⟩:=hrel;have HB:=Zaa (Ycs hbl hbw);by_cases hlt:q < xs.length
  ·have FD:=Zaa (Zix f hlt);have LE:=Zqr f xs (q+1);obtain⟨b1,o1,rfl,hx⟩:=HR.out.get q hlt;have hm:xs[q]∈xs:=Yd3 hlt;obtain⟨hb1,p1,c1,k0,k1,hS⟩:=(hx.carry (Go.W.Below.carry hbw.below lr) lr).vals;have hsz:=Ycu hB hbw.size;rw[FD.out,Zae]at LE;have CC:=Zaa (HH.out _ _ _ _ hm (hbl.alloc (.cells #[.string xs[q].name,.slice p1 xs[q].terms.length c1] 98)) (hbw.alloc hsz _) (Zev.carry hS (Zfd _ hsz)) (by rw[Zae,SZ.out];omega));clear hbl hbw hx hm hS HH;go_wp2_with fail
   refine CC.out.mono ?_;rintro e w2 ⟨rfl,hb2,hw2⟩;have R:=Zaa (Ycs hb2 ((HB.out.2.alloc hsz _).trans hw2));clear hb2 hw2 CC;go_wp2_with fail
   go_roundw
   case rel=>exact⟨q+1,by omega,by go_num,by rw[FD.out,<- Za2];exact R.out.1,R.out.2⟩
   case measure=>simp[intOf];omega
  ·obtain rfl:q=xs.length:=by omega
   rw[Yd2]at hbl;have HB2:=Zaa (Ycs hbl hbw);clear hbl hbw HB;go_wp2_with fail
   go_end0
   exact⟨rfl,EQ.out▸HB2.out.1,HB2.out.2⟩
theorem Zmv (hen:Zam K){f:G->ByteArray}{xs:List G}(h:Bld 80 B b s w)(hs:s.size+(Za4 f xs).size < 1000000000)(hrow:Zao 9 (Zco B w (D+1)) p xs)(hB:B<=w.heap.size)
  (HC: ∀ u vs x s',x∈xs->Bld 80 B b s' u->Fr B b w u->Zf5 B u D vs x->s'.size+(f x).size < 1000000000->Calls Tryz.prog K (first.push (.agg vs.toArray)++cap) u (Zfw 80 B b (s'++f x) u)):
  Calls Tryz.prog 160 #[.pointer (some ⟨b,0,none⟩),.slice p xs.length c,.func (.func K) first cap] w (Zfw 80 B b (s++Za4 f xs) w):=by
 have hl:=hrow.len;have HR:=Zaa hrow;have HH:=Zaa HC;have hen': ∀ args w,(callFunc K args).run Tryz.prog w= .ok (.enter K args) w:=hen;have hz:s.size+((Zfi xs.length).size+(cat f xs).size) < 1000000000:=by rw[Za4,Zae]at hs;exact hs
 have EQ:Box (s++Zfi xs.length++cat f xs=s++Za4 f xs):=⟨by rw[Za4,Za2]⟩;have C:=Zaa (Zd2 Zfc h xs.length (by omega) (by omega) hB);have SZ:Box ((s++Zfi xs.length).size=s.size+(Zfi xs.length).size):=⟨Zae _ _⟩;clear hrow HC hen h hs;generalize s++Zfi xs.length=s1 at*;go_enter Tryz.func160,Tryz.ntmps160
 go_wp2_with fail
 refine C.out.mono ?_;rintro e w1 ⟨rfl,hb1,hw1⟩;have H1:=Zaa (Ycs hb1 hw1);clear hb1 hw1 C;go_wp2_with fail
 go_loopw [15] (fun iv wr=>Zli 80 B b s1 f w xs iv wr) (fun iv _=>xs.length - (intOf iv).toNat)
 case atStart=>exact⟨0,by omega,rfl,by simpa[cat]using H1.out.1,H1.out.2⟩
 case round=>
  obtain⟨q,hq,rfl,hbl,hbw⟩:=hrel;have HB:=Zaa (Ycs hbl hbw);by_cases hlt:q < xs.length
  ·have FD:=Zaa (Zix f hlt);have LE:=Zqr f xs (q+1);obtain⟨b1,o1,rfl,hx⟩:=HR.out.get q hlt;have hm:xs[q]∈xs:=Yd3 hlt;obtain⟨hb1,p1,c1,p2,c2,k0,k1,k2,k3,k4,k5,k6,k7,k8,hS⟩:=(hx.carry (Go.W.Below.carry hbw.below lr) lr).vals;have hsz:=Ycu hB hbw.size;rw[FD.out,Zae]at LE;have CC:=Zaa (HH.out _ _ _ _ hm (hbl.alloc (.cells #[.int .i64 xs[q].op,.int .i64 xs[q].a.k,.int .i64 xs[q].a.i,.string xs[q].a.t,.slice p1 xs[q].a.l.length c1,.int .i64 xs[q].b.k,.int .i64 xs[q].b.i,.string xs[q].b.t,.slice p2 xs[q].b.l.length c2] 105)) (hbw.alloc hsz _) (Zf5.carry hS (Zfd _ hsz)) (by rw[Zae,SZ.out];omega));clear hbl hbw hx hm hS HH;go_wp2_with fail
   refine CC.out.mono ?_;rintro e w2 ⟨rfl,hb2,hw2⟩;have R:=Zaa (Ycs hb2 ((HB.out.2.alloc hsz _).trans hw2));clear hb2 hw2 CC;go_wp2_with fail
   go_roundw
   case rel=>exact⟨q+1,by omega,by go_num,by rw[FD.out,<- Za2];exact R.out.1,R.out.2⟩
   case measure=>simp[intOf];omega
  ·obtain rfl:q=xs.length:=by omega
   rw[Yd2]at hbl;have HB2:=Zaa (Ycs hbl hbw);clear hbl hbw HB;go_wp2_with fail
   go_end0
   exact⟨rfl,EQ.out▸HB2.out.1,HB2.out.2⟩
theorem Zim (hen:Zam K){f:R->ByteArray}{xs:List R}(h:Bld 80 B b s w)(hs:s.size+(Za4 f xs).size < 1000000000)(hrow:Zao 4 (Zb4 B w (D+1)) p xs)(hB:B<=w.heap.size)
  (HC: ∀ u vs x s',x∈xs->Bld 80 B b s' u->Fr B b w u->Zfy B u D vs x->s'.size+(f x).size < 1000000000->Calls Tryz.prog K (first.push (.agg vs.toArray)++cap) u (Zfw 80 B b (s'++f x) u)):
  Calls Tryz.prog 56 #[.pointer (some ⟨b,0,none⟩),.slice p xs.length c,.func (.func K) first cap] w (Zfw 80 B b (s++Za4 f xs) w):=by
 have hl:=hrow.len;have HR:=Zaa hrow;have HH:=Zaa HC;have hen': ∀ args w,(callFunc K args).run Tryz.prog w= .ok (.enter K args) w:=hen;have hz:s.size+((Zfi xs.length).size+(cat f xs).size) < 1000000000:=by rw[Za4,Zae]at hs;exact hs
 have EQ:Box (s++Zfi xs.length++cat f xs=s++Za4 f xs):=⟨by rw[Za4,Za2]⟩;have C:=Zaa (Zd2 Zfc h xs.length (by omega) (by omega) hB);have SZ:Box ((s++Zfi xs.length).size=s.size+(Zfi xs.length).size):=⟨Zae _ _⟩;clear hrow HC hen h hs;generalize s++Zfi xs.length=s1 at*;go_enter Tryz.func56,Tryz.ntmps56
 go_wp2_with fail
 refine C.out.mono ?_;rintro e w1 ⟨rfl,hb1,hw1⟩;have H1:=Zaa (Ycs hb1 hw1);clear hb1 hw1 C;go_wp2_with fail
 go_loopw [15] (fun iv wr=>Zli 80 B b s1 f w xs iv wr) (fun iv _=>xs.length - (intOf iv).toNat)
 case atStart=>exact⟨0,by omega,rfl,by simpa[cat]using H1.out.1,H1.out.2⟩
 case round=>
  obtain⟨q,hq,rfl,hbl,hbw⟩:=hrel;have HB:=Zaa (Ycs hbl hbw);by_cases hlt:q < xs.length
  ·have FD:=Zaa (Zix f hlt);have LE:=Zqr f xs (q+1);obtain⟨b1,o1,rfl,hx⟩:=HR.out.get q hlt;have hm:xs[q]∈xs:=Yd3 hlt;obtain⟨hb1,p1,c1,p2,c2,p3,c3,k0,k1,k2,k3,hS⟩:=(hx.carry (Go.W.Below.carry hbw.below lr) lr).vals;have hsz:=Ycu hB hbw.size;rw[FD.out,Zae]at LE;have CC:=Zaa (HH.out _ _ _ _ hm (hbl.alloc (.cells #[.string xs[q].head.name,.slice p1 xs[q].head.terms.length c1,.slice p2 xs[q].body.length c2,.slice p3 xs[q].guards.length c3] 101)) (hbw.alloc hsz _) (Zfy.carry hS (Zfd _ hsz)) (by rw[Zae,SZ.out];omega));clear hbl hbw hx hm hS HH;go_wp2_with fail
   refine CC.out.mono ?_;rintro e w2 ⟨rfl,hb2,hw2⟩;have R:=Zaa (Ycs hb2 ((HB.out.2.alloc hsz _).trans hw2));clear hb2 hw2 CC;go_wp2_with fail
   go_roundw
   case rel=>exact⟨q+1,by omega,by go_num,by rw[FD.out,<- Za2];exact R.out.1,R.out.2⟩
   case measure=>simp[intOf];omega
  ·obtain rfl:q=xs.length:=by omega
   rw[Yd2]at hbl;have HB2:=Zaa (Ycs hbl hbw);clear hbl hbw HB;go_wp2_with fail
   go_end0
   exact⟨rfl,EQ.out▸HB2.out.1,HB2.out.2⟩
theorem Zmx (hen:Zam K){f:(List R)->ByteArray}{xs:List (List R)}(h:Bld 80 B b s w)(hs:s.size+(Za4 f xs).size < 1000000000)(hrow:Zao 1 (Go.W.Zhg B w (D+1)) p xs)(hB:B<=w.heap.size)
  (HC: ∀ u vs x s',x∈xs->Bld 80 B b s' u->Fr B b w u->Ziw B u D vs x->s'.size+(f x).size < 1000000000->Calls Tryz.prog K (first.push (.agg vs.toArray)++cap) u (Zfw 80 B b (s'++f x) u)):
  Calls Tryz.prog 58 #[.pointer (some ⟨b,0,none⟩),.slice p xs.length c,.func (.func K) first cap] w (Zfw 80 B b (s++Za4 f xs) w):=by
 have hl:=hrow.len;have HR:=Zaa hrow;have HH:=Zaa HC;have hen': ∀ args w,(callFunc K args).run Tryz.prog w= .ok (.enter K args) w:=hen;have hz:s.size+((Zfi xs.length).size+(cat f xs).size) < 1000000000:=by rw[Za4,Zae]at hs;exact hs
 have EQ:Box (s++Zfi xs.length++cat f xs=s++Za4 f xs):=⟨by rw[Za4,Za2]⟩;have C:=Zaa (Zd2 Zfc h xs.length (by omega) (by omega) hB);have SZ:Box ((s++Zfi xs.length).size=s.size+(Zfi xs.length).size):=⟨Zae _ _⟩;clear hrow HC hen h hs;generalize s++Zfi xs.length=s1 at*;go_enter Tryz.func58,Tryz.ntmps58
 go_wp2_with fail
 refine C.out.mono ?_;rintro e w1 ⟨rfl,hb1,hw1⟩;have H1:=Zaa (Ycs hb1 hw1);clear hb1 hw1 C;go_wp2_with fail
 go_loopw [15] (fun iv wr=>Zli 80 B b s1 f w xs iv wr) (fun iv _=>xs.length - (intOf iv).toNat)
 case atStart=>exact⟨0,by omega,rfl,by simpa[cat]using H1.out.1,H1.out.2⟩
 case round=>
  obtain⟨q,hq,rfl,hbl,hbw⟩:=hrel;have HB:=Zaa (Ycs hbl hbw);by_cases hlt:q < xs.length
  ·have FD:=Zaa (Zix f hlt);have LE:=Zqr f xs (q+1);obtain⟨b1,o1,rfl,hx⟩:=HR.out.get q hlt;have hm:xs[q]∈xs:=Yd3 hlt;obtain⟨hb1,p1,c1,k0,hS⟩:=(hx.carry (Go.W.Below.carry hbw.below lr) lr).vals;have hsz:=Ycu hB hbw.size;rw[Nat.mul_one]at k0;rw[FD.out,Zae]at LE;have CC:=Zaa (HH.out _ _ _ _ hm (hbl.alloc (.cells #[.slice p1 xs[q].length c1] 67)) (hbw.alloc hsz _) (Ziw.carry hS (Zfd _ hsz)) (by rw[Zae,SZ.out];omega));clear hbl hbw hx hm hS HH;go_wp2_with fail
   refine CC.out.mono ?_;rintro e w2 ⟨rfl,hb2,hw2⟩;have R:=Zaa (Ycs hb2 ((HB.out.2.alloc hsz _).trans hw2));clear hb2 hw2 CC;go_wp2_with fail
   go_roundw
   case rel=>exact⟨q+1,by omega,by go_num,by rw[FD.out,<- Za2];exact R.out.1,R.out.2⟩
   case measure=>simp[intOf];omega
  ·obtain rfl:q=xs.length:=by omega
   rw[Yd2]at hbl;have HB2:=Zaa (Ycs hbl hbw);clear hbl hbw HB;go_wp2_with fail
   go_end0
   exact⟨rfl,EQ.out▸HB2.out.1,HB2.out.2⟩
end Go.P
