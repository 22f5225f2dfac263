import Derived.Test.YtghnjdpgbldlkaaGreatDoorW13
import Derived.Test.YtghnjdpgbldlkaaGreatDoorW23
import Derived.Shelf.Strconv.ErrVarParseInt
import Derived.Lib.AtoiErrMem
set_option linter.defProp false
set_option maxRecDepth 100000
set_option maxHeartbeats 8000000
set_option linter.unusedSimpArgs false
open Go.Proofs Go.RowKit Go.W Tryz
namespace Go.P
open Go.RowKit Go.Extern.Stop Go.Stop Go.Extern Go.W
variable {a:Nat->Addr}{w:World}
structure OQ (a:Nat->Addr) (w:World):Prop where
 row: ∀ k,k<10-> ∃ c t,w.heap[(a k).block]?=some (.cells c t (0,0))
 apart: ∀ i j,i<10->j<10->i≠j->a i≠a j
 et:w.cell? ⟨10,0,none⟩=some (.iface 201<|.agg #[.pointer<|Qb 23 56])
def OQ.below {w':World}(g:OQ a w)(hb:Bl w w'):OQ a w' where
 row:=fun k hk=>by
  obtain⟨c,t,h⟩:=g.row k hk;exact⟨c,t,by rw[hb.block _ (IU.1 h).1];exact h⟩
 apart:=g.apart
 et:=Aq g.et hb
def Z0p (g:OQ a w)(pb po k i:Nat)(hk:k<10)(hi:i<10)(hp:w.cell? ⟨pb,po+1,none⟩=some (.iface 411<|.pointer<|some<|a k)):
  Calls prog 27 #[.iface 83<|.pointer<|Qb pb po,.iface 411<|.pointer<|some<|a i] w fun e w'=>e= .returned (.bool<|decide<|i=k)/\w'=w:=by
 by_cases h:i=k
 ·subst h;simpa using Ztu pb po (a i) w hp
 ·obtain⟨c1,t1,h1⟩:=g.row k hk;obtain⟨c2,t2,h2⟩:=g.row i hi;simpa[h]using Zrc pb po (a i) (a k) c1 c2 t1 t2 w hp (g.apart k i hk hi<|Ne.symm h) h1 h2
def Z99 (a:Nat->Addr)(w:World)(q:Nat)(hq:q<10):(w.alloc<|.cells #[.iface 411<|.pointer<|some<|a 0,.iface 411<|.pointer<|some<|a 1,.iface 411<|.pointer<|some<|a 2,.iface 411<|.pointer<|some<|a 3,.iface 411<|.pointer<|some<|a 4,.iface 411<|.pointer<|some<|a 5,.iface 411<|.pointer<|some<|a 6,.iface 411<|.pointer<|some<|a 7,.iface 411<|.pointer<|some<|a 8,.iface 411<|.pointer<|some<|a 9] 56).cell? ⟨w.heap.size,q,none⟩=some (.iface 411<|.pointer<|some<|a q):=by
 have h:q=0\/q=1\/q=2\/q=3\/q=4\/q=5\/q=6\/q=7\/q=8\/q=9:=zx
 rcases h with h | h | h | h | h | h | h | h | h | h <;> (subst h;simp)
def seen (k q:Nat):Int:=if k<q then(k:Int)+1 else 0
def Z9w (k:Nat):seen k (k+1)=(k:Int)+1:=by simp[seen]
def Ycy (k:Nat):seen k k=0:=by simp[seen]
def Z68 (k q:Nat)(h:q≠k):seen k (q+1)=seen k q:=by
 unfold seen;by_cases h1:k<q
 ·rw[if_pos zx,if_pos h1]
 ·rw[if_neg zx,if_neg h1]
def Z9x (k:Nat)(h:k<10):seen k 10=(k:Int)+1:=by simp[seen,h]
def Znr (Z:Aa a w)(g:OQ a w)(pb po k:Nat)(tC:Int)(hk:k<10)(h0:w.cell? ⟨pb,po,none⟩=some (.int .i64 tC))(h1:w.cell? ⟨pb,po+1,none⟩=some (.iface 411<|.pointer<|some<|a k)):
  Calls prog 16 #[.iface 83<|.pointer<|Qb pb po] w fun e w'=>e= .returned (.tuple #[.int .i64<|k+1,.int .i64 tC])/\Bl w w':=by
 have g0:w.cell? _=some (.iface 411<|.pointer<|some<|a 0):=Z.c1;have g1:w.cell? _=some (.iface 411<|.pointer<|some<|a 1):=Z.c2;have g2:w.cell? _=some (.iface 411<|.pointer<|some<|a 2):=Z.c3;have g3:w.cell? _=some (.iface 411<|.pointer<|some<|a 3):=Z.c4;have g4:w.cell? _=some (.iface 411<|.pointer<|some<|a 4):=Z.c5;have g5:w.cell? _=some (.iface 411<|.pointer<|some<|a 5):=Z.c6;have g6:w.cell? _=some (.iface 411<|.pointer<|some<|a 6):=Z.c7;have g7:w.cell? _=some (.iface 411<|.pointer<|some<|a 7):=Z.c8;have g8:w.cell? _=some (.iface 411<|.pointer<|some<|a 8):=Z.c9;have g9:w.cell? _=some (.iface 411<|.pointer<|some<|a 9):=Z.c10;have hb:Bl w (w.alloc<|.cells #[.iface 411<|.pointer<|some<|a 0,.iface 411<|.pointer<|some<|a 1,.iface 411<|.pointer<|some<|a 2,.iface 411<|.pointer<|some<|a 3,.iface 411<|.pointer<|some<|a 4,.iface 411<|.pointer<|some<|a 5,.iface 411<|.pointer<|some<|a 6,.iface 411<|.pointer<|some<|a 7,.iface 411<|.pointer<|some<|a 8,.iface 411<|.pointer<|some<|a 9] 56):=(AQ _ _).alloc lr _;have G:=g.below hb;have T:=Z99 a w;have hpl:=Ll h0;have Vk:(w.alloc<|.cells #[.iface 411<|.pointer<|some<|a 0,.iface 411<|.pointer<|some<|a 1,.iface 411<|.pointer<|some<|a 2,.iface 411<|.pointer<|some<|a 3,.iface 411<|.pointer<|some<|a 4,.iface 411<|.pointer<|some<|a 5,.iface 411<|.pointer<|some<|a 6,.iface 411<|.pointer<|some<|a 7,.iface 411<|.pointer<|some<|a 8,.iface 411<|.pointer<|some<|a 9] 56).cell? ⟨pb,po+1,none⟩=some (.iface 411<|.pointer<|some<|a k):=by rw[hb.cell (p:=⟨pb,po+1,none⟩) hpl];exact h1
 go_in
 go_wp2
 clear g0 g1 g2 g3 g4 g5 g6 g7 g8 g9;go_loop [4,22] (fun n i=> ∃ q:Nat,q<=10/\i= .int .i64 q/\n= .int .i64 (seen k q)) (fun _ i=>10-(intOf i).toNat)
 case atStart=>exact⟨0,zx,rfl,rfl⟩
 case round=>
  obtain⟨q,hq,rfl,rfl⟩:=hrel;by_cases hlt:q<10
  ·have Tq:=T q hlt;clear T;by_cases h:q=k
   ·subst h;have I:=Z0p G pb po q q hk hlt Vk;simp only[Ycy,decide_true]at I⊢;go_wp2_with (go_at_call 27;refine mq I ?_;rintro w' rfl)
    exact⟨⟨q+1,zx,by go_num,by rw[Z9w]⟩,by simp[intOf];omega⟩
   ·have I:=Z0p G pb po k q hk hlt Vk;simp only[h,decide_false]at I;go_wp2_with (go_at_call 27;refine mq I ?_;rintro w' rfl)
    exact⟨⟨q+1,zx,by go_num,by rw[Z68 k q h]⟩,by simp[intOf];omega⟩
  ·obtain rfl:q=10:=zx
   rw[Z9x k hk];have hb2:Bl w ((w.alloc<|.cells #[.iface 411<|.pointer<|some<|a 0,.iface 411<|.pointer<|some<|a 1,.iface 411<|.pointer<|some<|a 2,.iface 411<|.pointer<|some<|a 3,.iface 411<|.pointer<|some<|a 4,.iface 411<|.pointer<|some<|a 5,.iface 411<|.pointer<|some<|a 6,.iface 411<|.pointer<|some<|a 7,.iface 411<|.pointer<|some<|a 8,.iface 411<|.pointer<|some<|a 9] 56).alloc<|.cells #[.pointer none] 83):=hb.alloc zw _;have E:=(g.below hb2).et;go_wp2_with fail
   refine(Yd0 _ _ (.pointer none) _ E zw zw).mono ?_;rintro e w' ⟨rfl,hw⟩;have eZ:pb<w.heap.size:=hpl;have k2:Bl w w':=by
    rw[hw];exact((((hb2.alloc (by simp;omega) _).alloc (by simp;omega) _).alloc (by simp;omega) _).alloc (by simp;omega) _).setCell zw _
   have k1:w'.cell? ⟨pb,po,none⟩=some (.int .i64 tC):=by rw[k2.cell (p:=⟨pb,po,none⟩) eZ];exact h0
   have k0:w'.cell? ⟨w.heap.size+1,0,none⟩=some (.pointer<|Qb pb po):=by rw[hw];go_simp
   clear hw;go_wp2
   go_region
   all_goals (try go_wp2)
   all_goals go_ret2
   all_goals exact⟨rfl,k2.drew⟩
end Go.P
namespace Go.W
variable {t m:ByteArray}{p:Nat}{x:Tk}
def Ql (t:ByteArray) (p:Nat) (m:ByteArray):Bool:=Lib.hasPrefix (t.extract p t.size).data.toList m.data.toList
def TX (t:ByteArray) (x:Tk) (p:Nat):Except (Int×Nat) (Unit×Tk×Nat):=match PM.find? (Ql t p)with
 | none=> .error (1,x.at_)
 | some m=> .ok ((),{x with text:=m},p+m.size)
def Z5i (hp:p<=t.size)(h:Ql t p m=true):p+m.size<=t.size:=by
 have g:=(List.isPrefixOf_iff_prefix.1 h).length_le;simp at g
 have:m.size=m.data.size:=rfl
 omega
def Ycc {k:Nat}(hk:PM[k]?=some m)(h0: ∀ j m',j<k->PM[j]?=some m'->Ql t p m'=false)(h1:Ql t p m=true):TX t x p= .ok ((),{x with text:=m},p+m.size):=by
 have:PM.find? (Ql t p)=some m:=by
  rw[List.find?_eq_some_iff_getElem];refine⟨h1,k,?_,?_,?_⟩
  ·exact(Gl.1 hk).1
  ·exact(Gl.1 hk).2
  ·intro j hj;rw[h0 j _ hj<|DK _];rfl
 unfold TX;rw[this]
def Ycd (h0: ∀ j m',j<14->PM[j]?=some m'->Ql t p m'=false):TX t x p= .error (1,x.at_):=by
 have:PM.find? (Ql t p)=none:=by
  rw[List.find?_eq_none];intro m hm;obtain⟨j,hj,rfl⟩:=List.getElem_of_mem hm;rw[h0 j _ hj<|DK _];simp
 unfold TX;rw[this]
end Go.W
namespace Go.P
variable {a:Nat->Addr}{w:World}
def Aa.marks (h:Aa a w)(i:Nat)(s:ByteArray)(hs:PM[i]?=some s):w.cell? ⟨12,i,none⟩=some (.string s):=by
 obtain⟨_,h0,h1⟩:=h;exact(h1 _ _ zu).2.trans<|h0.marks i s hs
def Ybb (w:World) (t:ByteArray) (p:Nat) (iv:Value) (wr:World):Prop:= ∃ k:Nat,k<=14/\iv= .int .i64 (k:Int)/\(∃ n,wr=w.drewN n)/\ ∀ j m',j<k->PM[j]?=some m'->Ql t p m'=false
def Z54 (k:Nat)(h:k<14): ∃ m,PM[k]?=some m/\ ∀ w,(Instr.index 269 (.agg #[.string ⟨#[60,45]⟩,.string ⟨#[60,61]⟩,.string ⟨#[62,61]⟩,.string ⟨#[61,61]⟩,.string ⟨#[33,61]⟩,.string ⟨#[94,61]⟩,.string ⟨#[60]⟩,.string ⟨#[62]⟩,.string ⟨#[40]⟩,.string ⟨#[41]⟩,.string ⟨#[91]⟩,.string ⟨#[93]⟩,.string ⟨#[44]⟩,.string ⟨#[59]⟩])<|.int .i64 (k:Int)).run prog w= .ok (.string m) w:=by
 have g:k=0\/k=1\/k=2\/k=3\/k=4\/k=5\/k=6\/k=7\/k=8\/k=9\/k=10\/k=11\/k=12\/k=13:=zx
 rcases g with rfl | rfl | rfl | rfl | rfl | rfl | rfl | rfl | rfl | rfl | rfl | rfl | rfl | rfl;all_goals exact⟨_,rfl,fun _=>zt⟩
def nZ (v:Value):Nat:=match v with
 | .int _ i=>i.toNat
 | _=>0
def Zwz {b:Nat}{t:ByteArray}{p:Nat}{x:Tk}(Z:Aa a w)(h:Rd w b t p x):
  Calls prog 116 #[.pointer<|Qb b 0] w (IA a b t VU w<|TX t x p):=by
 obtain⟨c0,c1,-,c3,-,-,-,-,sf⟩:=h.1.eight;have hp:=h.2.2.1;have ht:=h.2.1;have z1:=Z.c1;have m0:=Z.marks 0 _ rfl;have m1:=Z.marks 1 _ rfl;have m2:=Z.marks 2 _ rfl;have m3:=Z.marks 3 _ rfl;have m4:=Z.marks 4 _ rfl;have m5:=Z.marks 5 _ rfl;have m6:=Z.marks 6 _ rfl;have m7:=Z.marks 7 _ rfl;have m8:=Z.marks 8 _ rfl;have m9:=Z.marks 9 _ rfl;have m10:=Z.marks 10 _ rfl;have m11:=Z.marks 11 _ rfl;have m12:=Z.marks 12 _ rfl;have m13:=Z.marks 13 _ rfl;have H:=AA h;clear Z h;go_in
 go_wp2_with fail
 clear m0 m1 m2 m3 m4 m5 m6 m7 m8 m9 m10 m11 m12 m13;go_loopw [5] (fun iv wr=>Ybb w t p iv wr) (fun iv _=>14-nZ iv)
 case atStart=>exact⟨0,zx,rfl,⟨0,rfl⟩,fun j _ hj=>absurd hj zx⟩
 case round=>
  obtain⟨k,hk,rfl,⟨n,rfl⟩,hall⟩:=hrel;have A:=AA hall;clear hall;by_cases hlt:k<14
  ·obtain⟨m,hm,ik⟩:=Z54 k hlt;have g:(k:Int)<14:=zx
   have C:=AA fun u=>Zsk (t.extract p t.size) m u;rw[show Lib.hasPrefix (t.extract p t.size).data.toList m.data.toList=Ql t p m from rfl]at C;cases hgo:Ql t p m
   ·rw[hgo]at C;have S:AC (∀ j m',j<k+1->PM[j]?=some m'->Ql t p m'=false):=⟨fun j m' hj S9=>by
     by_cases hjk:j=k
     ·subst hjk;rw[hm]at S9;cases S9;exact hgo
     ·exact A.out j m' zx S9⟩
    clear hm hgo A;go_wp2
    go_quiet ((go_at_call 161;first | exact Calls.quiet_of_same (C.out _) | exact Zk C.out))
    go_wp2
    go_roundw
    case rel=>exact⟨k+1,zx,zw,⟨_,rfl⟩,S.out⟩
    case measure=>simp[nZ];omega
   ·rw[hgo]at C;have Y:=AA<|Ycc (x:=x) hm A.out hgo;have hle:=Z5i hp hgo;clear hm hgo A;go_wp2
    go_quiet ((go_at_call 161;first | exact Calls.quiet_of_same (C.out _) | exact Zk C.out))
    go_wp2
    refine CQ (by simp[results,results116,go_sem];try rfl) rfl ?_;exact⟨(((Ac.refl b w).dr _).set _ _).set _ _,Or.inr ⟨_,_,_,_,Y.out,rfl,rfl,((H.out.dr _).goes hle).text m⟩⟩
  ·obtain rfl:k=14:=zx
   have Y:=AA<|Ycd (x:=x) A.out;have C1:=AA fun n=>Nr a (n:=1) zu (H.out.dr n);clear A;go_wp2_with fail
   refine(C1.out _).mono ?_;rintro e w2 ⟨⟨L,hL,rfl,hB⟩,hb⟩;exact⟨rfl,((Ac.refl b w).dr _).AR hb,Or.inl ⟨1,_,Y.out,zu,L,hL,rfl,hB⟩⟩
end Go.P
namespace Go.Proofs
open Go.RowKit Go.Shelf Go.Lib
def Tryz.laysInt_ren:Go.Shelf.Ren:=⟨fun | 174=>171 | 247=>208 | 245=>209 | 287=>238 | 279=>239 | 280=>240 | 281=>241 | 282=>242 | 321=>267 | 322=>268 | 316=>204 | 171=>270 | 205=>269 | 243=>289 | 246=>198 | 283=>233 | 284=>234 | 285=>235 | 286=>236 | 129=>263 | 317=>262 | 318=>264 | 319=>265 | 320=>266 | 337=>288 | 338=>284 | n=>n,fun | 9=>9 | 3=>3 | 2=>2 | 75=>56 | 85=>267 | 4=>4 | 167=>356 | 5=>5 | 53=>228 | 175=>357 | 46=>276 | 168=>359 | 37=>74 | 0=>0 | 210=>391 | 21=>21 | 127=>136 | 145=>413 | 143=>411 | 171=>346 | 173=>349 | 212=>387 | 51=>226 | 20=>20 | 213=>388 | 232=>110 | 233=>166 | 80=>80 | n=>n,fun | 15=>19 | 16=>20 | 17=>18 | 18=>22 | 19=>21 | n=>n⟩
def Tryz.laysInt:Go.Proofs.LaysC.n174 prog Tryz.laysInt_ren where
 mixed:=zt
 f129:=func263.trans (congrArg some zt)
 f171:=func270.trans (congrArg some zt)
 f174:=func171.trans (congrArg some zt)
 f205:=func269.trans (congrArg some zt)
 f243:=func289.trans (congrArg some zt)
 f245:=func209.trans (congrArg some zt)
 f246:=func198.trans (congrArg some zt)
 f247:=func208.trans (congrArg some zt)
 f279:=func239.trans (congrArg some zt)
 f280:=func240.trans (congrArg some zt)
 f281:=func241.trans (congrArg some zt)
 f282:=func242.trans (congrArg some zt)
 f283:=func233.trans (congrArg some zt)
 f284:=func234.trans (congrArg some zt)
 f285:=func235.trans (congrArg some zt)
 f286:=func236.trans (congrArg some zt)
 f287:=func238.trans (congrArg some zt)
 f316:=func204.trans (congrArg some zt)
 f317:=func262.trans (congrArg some zt)
 f318:=func264.trans (congrArg some zt)
 f319:=func265.trans (congrArg some zt)
 f320:=func266.trans (congrArg some zt)
 f321:=func267.trans (congrArg some zt)
 f322:=func268.trans (congrArg some zt)
 f337:=func288.trans (congrArg some zt)
 f338:=func284.trans (congrArg some zt)
 t0:=underlying0
 a0:=isAgg0
 z0:=sizeOf0
 v0:=zeroValue0
 t2:=underlying2
 a2:=isAgg2
 z2:=sizeOf2
 v2:=zeroValue2
 t3:=underlying3
 a3:=isAgg3
 z3:=sizeOf3
 v3:=zeroValue3
 t4:=underlying4
 a4:=isAgg4
 z4:=sizeOf4
 v4:=zeroValue4
 t5:=underlying5
 a5:=isAgg5
 z5:=sizeOf5
 v5:=zeroValue5
 t9:=underlying9
 a9:=isAgg9
 z9:=sizeOf9
 v9:=zeroValue9
 t20:=underlying20
 a20:=isAgg20
 z20:=sizeOf20
 v20:=zeroValue20
 t21:=underlying21
 a21:=isAgg21
 z21:=sizeOf21
 v21:=zeroValue21
 t37:=underlying74
 a37:=isAgg74
 z37:=sizeOf74
 v37:=zeroValue74
 t46:=underlying276
 a46:=isAgg276
 z46:=sizeOf276
 v46:=zeroValue276
 t51:=underlying226
 a51:=isAgg226
 z51:=sizeOf226
 v51:=zeroValue226
 t53:=underlying228
 a53:=isAgg228
 z53:=sizeOf228
 v53:=zeroValue228
 t75:=underlying56
 a75:=isAgg56
 z75:=sizeOf56
 v75:=zeroValue56
 t85:=underlying267
 a85:=isAgg267
 z85:=sizeOf267
 v85:=zeroValue267
 t127:=underlying136
 a127:=isAgg136
 z127:=sizeOf136
 v127:=zeroValue136
 t143:=underlying411
 a143:=isAgg411
 z143:=sizeOf411
 v143:=zeroValue411
 t145:=underlying413
 a145:=isAgg413
 z145:=sizeOf413
 v145:=zeroValue413
 t167:=underlying356
 a167:=isAgg356
 z167:=sizeOf356
 v167:=zeroValue356
 t168:=underlying359
 a168:=isAgg359
 z168:=sizeOf359
 v168:=zeroValue359
 t171:=underlying346
 a171:=isAgg346
 z171:=sizeOf346
 v171:=zeroValue346
 t173:=underlying349
 a173:=isAgg349
 z173:=sizeOf349
 v173:=zeroValue349
 t175:=underlying357
 a175:=isAgg357
 z175:=sizeOf357
 v175:=zeroValue357
 t210:=underlying391
 a210:=isAgg391
 z210:=sizeOf391
 v210:=zeroValue391
 t212:=underlying387
 a212:=isAgg387
 z212:=sizeOf387
 v212:=zeroValue387
 t213:=underlying388
 a213:=isAgg388
 z213:=sizeOf388
 t232:=underlying110
 a232:=isAgg110
 z232:=sizeOf110
 v232:=zeroValue110
 t233:=underlying166
 a233:=isAgg166
 z233:=sizeOf166
 v233:=zeroValue166
 g15:=zt
 g16:=zt
 g17:=zt
 g18:=zt
 g19:=zt
 t80:=underlying80
 a80:=isAgg80
 z80:=sizeOf80
 v80:=zeroValue80
 i0:=zt
 i2:=zt
 i3:=zt
 i4:=zt
 i5:=zt
 i9:=zt
 i20:=zt
 i21:=zt
 i37:=zt
 i46:=zt
 i51:=zt
 i53:=zt
 i75:=zt
 i80:=zt
 i85:=zt
 i127:=zt
 i143:=zt
 i145:=zt
 i167:=zt
 i168:=zt
 i171:=zt
 i173:=zt
 i175:=zt
 i210:=zt
 i212:=zt
 i232:=zt
 i233:=zt
 m15:=zt
 m16:=zt
 m17:=zt
 m18:=zt
 m19:=zt
 c0:=zt
 c2:=zt
 c3:=zt
 c4:=zt
 c5:=zt
 c9:=zt
 c20:=zt
 c21:=zt
 c37:=zt
 c46:=zt
 c51:=zt
 c53:=zt
 c75:=zt
 c80:=zt
 c85:=zt
 c127:=zt
 c143:=zt
 c145:=zt
 c167:=zt
 c168:=zt
 c171:=zt
 c173:=zt
 c175:=zt
 c210:=zt
 c212:=zt
 c213:=zt
 c232:=zt
 c233:=zt
end Go.Proofs
namespace Go.W
def OO (t:ByteArray) (x:Tk) (p:Nat):Except (Int×Nat) (Int×Tk×Nat):=
 let p1:=if(Ab t).getD p 0=45 then p+1 else p
 let q:=Cm (Ab t) Dr p1
 if q=p1\/(Ab t).getD p1 0=48/\(t.extract p q).toList≠[48]then .error (1,x.at_)else match Lib.parseIntB 64 (t.extract p q).data.toList with
 | .ok n=> .ok (n,x,q)
 | _=> .error (1,x.at_)
end Go.W
namespace Go.P
open Go.RowKit Go.Shelf Go.Lib Go.W
variable {a:Nat->Addr}{w:World}{s:ByteArray}
def Zyy (s:ByteArray)(hs:s.size<=8000)(v:Int)(h:Lib.parseIntB 64 s.data.toList= .ok v)(w:World):Calls prog 171 #[.string s,.int .i64 10,.int .i64 64] w fun e w'=>e= .returned (.tuple #[.int .i64 v,.nilIface])/\Bl w w':=by
 refine(Any.strconv_ParseInt_10_at64_ok Tryz.laysInt s zx v h w).mono ?_;rintro e w' ⟨rfl,rfl | ⟨t,rfl⟩⟩
 ·exact⟨rfl,AQ _ _⟩
 ·exact⟨rfl,Lib.bytesWorld_below w _ t⟩
def Zyx (Z:Aa a w)(s:ByteArray)(hs:s.size<=8000)(h: ∀ v,Lib.parseIntB 64 s.data.toList≠ .ok v):Calls prog 171 #[.string s,.int .i64 10,.int .i64 64] w fun e w'=>(∃ v te pe,e= .returned (.tuple #[.int .i64 v,.iface te pe]))/\Bl w w':=by
 obtain⟨_,h0,h1⟩:=Z;cases hp:Lib.parseIntB 64 s.data.toList with
 | ok v=>exact absurd hp (h v)
 | range=>
  obtain⟨te,pe,hc⟩:=h0.rng;refine(Any.strconv_ParseInt_10_at64_range Tryz.laysInt s zx hp _ w ((h1 _ _ zu).2.trans hc)<|Or.inr ⟨te,pe,rfl⟩).mono ?_;rintro e w' ⟨N,rfl,-,-,hb⟩;exact⟨⟨_,_,_,rfl⟩,hb⟩
 | _=>
  obtain⟨te,pe,hc⟩:=h0.syn;refine(Any.strconv_ParseInt_10_at64_syntax Tryz.laysInt s zx hp _ w ((h1 _ _ zu).2.trans hc)<|Or.inr ⟨te,pe,rfl⟩).mono ?_;rintro e w' ⟨N,rfl,-,-,hb⟩;exact⟨⟨_,_,_,rfl⟩,hb⟩
def Yfl (h:0<s.size):(s.toList==[])=false:=by
 rw[BK];intro h0
 have:=Zj s
 rw[h0]at this;simp at this;omega
def Yd2 (h:s.size=0):(s.toList==[])=true:=by
 rw[DJ];exact Ht<|(Zj s).trans h
def Zqc {b:Nat}{t:ByteArray}{p:Nat}{x:Tk}(Z:Aa a w)(h:Rd w b t p x):
  Calls prog 115 #[.pointer<|Qb b 0] w (IA a b t (fun _ v (y:Int)=>v= .int .i64 y) w<|OO t x p):=by
 have ht:=h.2.1;have hg:=h.2.2.2;have hp:=h.2.2.1;have CP:=AA<|iY h;have hl:=UB t;obtain⟨c0,c1,-,-,-,-,-,-,sf⟩:=h.1.eight;have H:=AA h;have ZZ:=AA Z;have GI:AC ((Ab t).getD p 0=45->p<t.size):=⟨fun hh=>iU zx⟩;obtain⟨p1,Oq⟩: ∃ p1,(if(Ab t).getD p 0=45 then p+1 else p)=p1:=⟨_,rfl⟩;have F:AC (OO t x p=if Cm (Ab t) Dr p1=p1\/(Ab t).getD p1 0=48/\(t.extract p<|Cm (Ab t) Dr p1).toList≠[48]then .error (1,x.at_)else match Lib.parseIntB 64 (t.extract p<|Cm (Ab t) Dr p1).data.toList with
  | .ok n=> .ok (n,x,Cm (Ab t) Dr p1)
  | _=> .error (1,x.at_)):=⟨by rw[<- Oq];rfl⟩
 have hp1l:p<=p1/\p1<=t.size:=by
  have:=GI.out
  split at Oq <;> omega
 have hs:=Zb (bs:=Ab t) (ok:=Dr) (p:=p1) zx;have CR:=AA fun u (hu:Rd u b t p1 x)=>iT Zwa hu;have BY:AC (∀ q,q<=t.size->p1<q->(Ab<|t.extract p1 q).getD 0 0=(Ab t).getD p1 0):=⟨fun q h1 h2=>vR (j:=0) h1 zx⟩;generalize Cm (Ab t) Dr p1=q at*;have hz0:(t.extract p1 q).size=q-p1:=by rw[U9];omega
 have hz:(t.extract p q).size=q-p:=by rw[U9];omega
 clear h Z;go_in
 go_wp2_with fail
 refine mq CP.out ?_;rintro w1 hb;have ZA:=AA<|ZZ.out.below hb;have HK:=AA<|(Ac.refl b w).AR hb;have hr:=H.out.of hb;have HR:=AA hr;clear c0 c1 sf CP H ZZ;obtain⟨c0,c1,-,-,-,-,-,-,sf⟩:=hr.1.eight;clear hr hb;generalize (Ab t).getD p 0=c at*;by_cases hc:c=45
 case' pos=>
  have g1:((c:Int)==45)=true:=by rw[DJ];omega
  have hpl:=GI.out hc;rw[if_pos hc]at Oq;have xf:AC (Rd (w1.setCell ⟨b,1,none⟩<|.int .i64<|(p:Int)+1) b t p1 x):=⟨by rw[<- Oq];exact HR.out.next hpl⟩;have o8:AC (Ac b w1<|w1.setCell ⟨b,1,none⟩<|.int .i64<|(p:Int)+1):=⟨(Ac.refl b w1).set _ _⟩;clear GI hc Oq;go_wp2_with fail
 case' neg=>
  have g1:((c:Int)==45)=false:=by rw[BK];omega
  rw[if_neg hc]at Oq;have xf:AC (Rd w1 b t p1 x):=⟨by rw[<- Oq];exact HR.out⟩;have o8:AC (Ac b w1 w1):=⟨Ac.refl b w1⟩;clear GI hc Oq;go_wp2_with fail
 all_goals
  refine(CR.out _ xf.out).mono ?_;rintro e w2 ⟨rfl,hk2,hr2⟩;have ZB:=AA<|ZA.out.keeps (o8.out.trans hk2) hg;have IE:=AA<|(HK.out.trans o8.out).trans hk2;have BF:=AA hr2;have C1:=AA fun u (hu:Rd u b t q x)=>Nr a (n:=1) zu hu;clear c0 c1 sf;obtain⟨d0,d1,-,-,-,-,-,-,UR⟩:=hr2.1.eight;have z1:=ZB.out.c1;clear hk2 hr2 CR xf o8 HR;have BY:=BY.out q zx;generalize t.extract p1 q=s0 at*;generalize (Ab t).getD p1 0=d at*;have CI:=AA fun s (hs:s.size<=8000) v (h:Lib.parseIntB 64 s.data.toList= .ok v) u=>Zyy s hs v h u;have CJ:=AA fun u (Z:Aa a u) s (hs:s.size<=8000) (h: ∀ v,Lib.parseIntB 64 s.data.toList≠ .ok v)=>Zyx Z s hs h;go_wp2
  go_quiet (fail)
  have ZC:=AA<|ZB.out.below<|KR (n:=nq)<|AQ _ w2;generalize t.extract p q=s at*;by_cases YR:q=p1
  ·have Y:AC (OO t x p= .error (1,x.at_)):=⟨by rw[F.out,if_pos<|Or.inl YR]⟩;have e1:(s0.toList==[])=true:=Yd2 zx;clear BY YR;go_wp2_with fail
   refine(C1.out _<|BF.out.dr _).mono ?_;rintro e w3 ⟨⟨L,hL,rfl,hB⟩,hb⟩;exact⟨rfl,(IE.out.dr _).AR hb,Or.inl ⟨1,_,Y.out,zu,L,AU IE.out.size hL,rfl,hB⟩⟩
  have e1:(s0.toList==[])=false:=Yfl zx;have h0:0<s0.size:=zx
  have hx0:=(V5 s0 0 h0).trans<|BY zx;by_cases Yz:d=48/\s.toList≠[48]
  ·have Y:AC (OO t x p= .error (1,x.at_)):=⟨by rw[F.out,if_pos<|Or.inr Yz]⟩;have g4:((d:Int)==48)=true:=by rw[DJ];omega
   have g5:(s.toList==[48])=false:=by rw[BK];exact Yz.2
   clear Yz;go_wp2_with fail
   refine(C1.out _<|BF.out.dr _).mono ?_;rintro e w3 ⟨⟨L,hL,rfl,hB⟩,hb⟩;exact⟨rfl,(IE.out.dr _).AR hb,Or.inl ⟨1,_,Y.out,zu,L,AU IE.out.size hL,rfl,hB⟩⟩
  have F2:=AA<|F.out.trans<|if_neg (by rintro(z | z);exact YR z;exact Yz z);have GG:((d:Int)==48)=false\/((d:Int)==48)=true/\(s.toList==[48])=true:=by
   by_cases hd:d=48
   ·right
    exact⟨by rw[DJ];omega,by rw[DJ];exact Decidable.byContradiction fun hh=>Yz ⟨hd,hh⟩⟩
   ·left
    rw[BK];omega
  have zK:s.size<=8000:=zx
  by_cases hv: ∃ v,Lib.parseIntB 64 s.data.toList= .ok v
  ·obtain⟨v,hv⟩:=hv;have Y:AC (OO t x p= .ok (v,x,q)):=⟨by rw[F2.out,hv]⟩;have C:=AA<|CI.out s zK v hv;clear Yz hv F F2 CI CJ C1;rcases GG with ga | ⟨ga,gb⟩;all_goals
    go_wp2_with fail
    refine(C.out _).mono ?_;rintro e w3 ⟨rfl,hb⟩;have R:=AA<|AF ((IE.out.dr nq).AR hb)<|(BF.out.dr nq).of hb;clear hb;go_wp2
    go_ret
    exact⟨R.out.1,Or.inr ⟨_,v,x,q,Y.out,rfl,zw,R.out.2⟩⟩
  ·have Y:AC (OO t x p= .error (1,x.at_)):=⟨by
    rw[F2.out];split
    ·rename_i n hn;exact absurd ⟨n,hn⟩ hv
    ·rfl⟩
   have C:=AA (CJ.out _ ZC.out s zK fun v h=>hv ⟨v,h⟩);clear Yz hv F F2 CI CJ;rcases GG with ga | ⟨ga,gb⟩;all_goals
    go_wp2_with fail
    refine C.out.mono ?_;rintro e w3 ⟨⟨v,te,pe,rfl⟩,hb⟩;have D8:=AA<|(IE.out.dr nq).AR hb;have Du:=AA<|(BF.out.dr nq).of hb;have z1:=(ZC.out.below hb).c1;clear hb d0 d1 UR;go_wp2_with fail
    refine(C1.out _ Du.out).mono ?_;rintro e w4 ⟨⟨L,hL,rfl,hB⟩,hb⟩;exact⟨rfl,D8.out.AR hb,Or.inl ⟨1,_,Y.out,zu,L,AU D8.out.size hL,rfl,hB⟩⟩
end Go.P
