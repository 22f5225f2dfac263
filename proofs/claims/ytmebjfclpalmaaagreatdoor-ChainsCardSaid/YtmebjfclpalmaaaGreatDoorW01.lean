import Derived.Test.YtmebjfclpalmaaaGreatDoorW00
import Derived.Laws.BitsAllLaws
import Derived.Lib.AppendZerosOnto
set_option maxRecDepth 100000
set_option maxHeartbeats 8000000
set_option linter.unusedSimpArgs false
open Go.Proofs Go.RowKit Go.W Tryz
namespace Go.W
variable {b L k B:Nat}{u v w w0:World}{x0 x1 x2 x3:Value}
structure Zah (b:Nat) (w w':World):Prop where
 os:w'.os=w.os
 tape:w'.tape=w.tape
 output:w'.output=w.output
 size:w.heap.size<=w'.heap.size
 block: ∀ k,k < w.heap.size->k≠b->w'.heap[k]?=w.heap[k]?
theorem Zah.refl (b:Nat)(w:World):Zah b w w:=⟨rfl,rfl,rfl,Yec _,fun _ _ _=>rfl⟩
theorem Zah.trans (h:Zah b u v)(k:Zah b v w):Zah b u w:=
 ⟨k.os.trans h.os,k.tape.trans h.tape,k.output.trans h.output,Ydc h.size k.size,fun i hi hn=>(k.block i (Ydh hi h.size) hn).trans (h.block i hi hn)⟩
theorem Zah.alloc (h:Zah b w0 w)(o:Obj):Zah b w0 (w.alloc o):=
 ⟨h.os,h.tape,h.output,Ydc h.size (by simp),fun k hk hn=>(Ydf w o k (Ydh hk h.size)).trans (h.block k hk hn)⟩
theorem Zah.setNew (h:Zah b w0 w)(L o:Nat)(v:Value)(hL:w0.heap.size<=L):Zah b w0 (w.setCell ⟨L,o,none⟩ v):=
 ⟨h.os,h.tape,h.output,by simpa[World.setCell]using h.size,fun k hk hn=>(Ydg w ⟨L,o,none⟩ v k (by show k≠L;omega)).trans (h.block k hk hn)⟩
theorem Zah.set (h:Zah b w0 w)(o:Nat)(v:Value):Zah b w0 (w.setCell ⟨b,o,none⟩ v):=
 ⟨h.os,h.tape,h.output,by simpa[World.setCell]using h.size,fun k hk hn=>(Ydg w ⟨b,o,none⟩ v k hn).trans (h.block k hk hn)⟩
theorem Z3a (hk:k≠L):(w.setCell ⟨L,0,none⟩ x0).heap[k]?=w.heap[k]?:=Ydg _ _ _ _ hk
theorem Zr8 (hk:k≠L):((w.setCell ⟨L,0,none⟩ x0).setCell ⟨L,1,none⟩ x1).heap[k]?=w.heap[k]?:=by
 rw[Ydg _ _ _ _ hk,Ydg _ _ _ _ hk]
theorem Zfe (hk:k≠L):(((w.setCell ⟨L,0,none⟩ x0).setCell ⟨L,1,none⟩ x1).setCell ⟨L,2,none⟩ x2).heap[k]?=w.heap[k]?:=by
 rw[Ydg _ _ _ _ hk,Ydg _ _ _ _ hk,Ydg _ _ _ _ hk]
theorem Zch (hk:k≠L):((((w.setCell ⟨L,0,none⟩ x0).setCell ⟨L,1,none⟩ x1).setCell ⟨L,2,none⟩ x2).setCell ⟨L,3,none⟩ x3).heap[k]?=w.heap[k]?:=by
 rw[Ydg _ _ _ _ hk,Ydg _ _ _ _ hk,Ydg _ _ _ _ hk,Ydg _ _ _ _ hk]
theorem Zah.r1 (h:Zah b w0 w)(hL:w0.heap.size<=L):Zah b w0 (w.setCell ⟨L,0,none⟩ x0):=h.setNew _ _ _ hL
theorem Zah.r2 (h:Zah b w0 w)(hL:w0.heap.size<=L):Zah b w0 ((w.setCell ⟨L,0,none⟩ x0).setCell ⟨L,1,none⟩ x1):=(h.setNew _ _ _ hL).setNew _ _ _ hL
theorem Zah.r3 (h:Zah b w0 w)(hL:w0.heap.size<=L):Zah b w0 (((w.setCell ⟨L,0,none⟩ x0).setCell ⟨L,1,none⟩ x1).setCell ⟨L,2,none⟩ x2):=(h.r2 hL).setNew _ _ _ hL
theorem Zah.r4 (h:Zah b w0 w)(hL:w0.heap.size<=L):Zah b w0 ((((w.setCell ⟨L,0,none⟩ x0).setCell ⟨L,1,none⟩ x1).setCell ⟨L,2,none⟩ x2).setCell ⟨L,3,none⟩ x3):=(h.r3 hL).setNew _ _ _ hL
theorem Zah.dr (h:Zah b w0 w)(n:Nat):Zah b w0 (w.drewN n):=⟨h.os,h.tape,h.output,h.size,h.block⟩
theorem Zah.drew (h:Zah b w0 w):Zah b w0 w.drew:=⟨h.os,h.tape,h.output,h.size,h.block⟩
theorem Zah.appO {α:Type}{e:TypeId}{s:Nat}{Q:Zgj α}{w1:World}{xs:List α}{F G:List Nat}{y:α}{g cap:Nat}{F':List Nat}(h:Zs0 e s Q B w w1 xs F G y g cap F')(k:Zah b w0 w)(hF: ∀ i,i∈F->w0.heap.size<=i):Zah b w0 w1:=
 ⟨h.os.trans k.os,h.tape.trans k.tape,h.output.trans k.output,Ydc k.size h.size,fun i hi hn=>(h.same i (Ydh hi k.size) fun q=>by have:=hF i q;omega).trans (k.block i hi hn)⟩
theorem Zah.below (h:Zah b w0 w)(hB:B<=b)(hw:B<=w0.heap.size):Below B w0 w:=⟨h.os,h.tape,h.output,h.size,fun k hk=>h.block k (by omega) (by omega)⟩
theorem Zah.later {w':World}(h:Below w.heap.size w u)(k:Zah b u w'):Zah b w w':=
 ⟨k.os.trans h.os,k.tape.trans h.tape,k.output.trans h.output,Ydc h.size k.size,fun i hi hn=>(k.block i (Ydh hi h.size) hn).trans (h.block i hi)⟩
theorem Zah.ofBelow (h:Zah b w u)(k:Below u.heap.size u v):Zah b w v:=
 ⟨k.os.trans h.os,k.tape.trans h.tape,k.output.trans h.output,Ydc h.size k.size,fun i hi hn=>(k.block i (Ydh hi h.size)).trans (h.block i hi hn)⟩
end Go.W
namespace Go.P
variable {a:Nat->Addr}{b n c k:Nat}{w:World}{l:By}
def Dc (w:World) (b:Nat) (l:By):Prop:=Blk w b #[.string (ba l)] 226/\l.length < 1000000000/\23<=b
theorem Zao.keeps {u:World}(h:Zao a w)(k:Zah b w u)(hb:23<=b):Zao a u:=by
 obtain⟨w0,h0,h1⟩:=h;exact⟨w0,h0,fun g o hg=>⟨Ydh (h1 g o hg).1 k.size,(Yde (w:=w) (w':=u) (a:=⟨g,o,none⟩) (k.block g (h1 g o hg).1 (by omega))).trans (h1 g o hg).2⟩⟩
def Zw6 (a:Nat->Addr) (n:Int):Ending:= .panicked [{v:= .iface 224 (.agg #[Zcm a n]),recovered:=false}]
def Zev {α:Type} (a:Nat->Addr) (b:Nat) (V:World->Value->α->Prop) (w:World) (Y:Except Int (α×By)) (e:Ending) (w':World):Prop:=
 Zah b w w'/\((∃ n,Y= .error n/\n≠0/\e=Zw6 a n)\/ ∃ x r v,Y= .ok (x,r)/\e= .returned v/\V w' v x/\Dc w' b r)
theorem Dc.drew (h:Dc w b l):Dc w.drew b l:=h
theorem Dc.alloc (h:Dc w b l)(o:Obj):Dc (w.alloc o) b l:=⟨h.1.alloc o,h.2⟩
theorem Dc.of {w':World}(h:Dc w b l)(k:w'.heap[b]?=w.heap[b]?):Dc w' b l:=⟨h.1.of k,h.2⟩
theorem Zbp (a:Nat->Addr)(b:Nat)(w:World){n:Int}(hn:n≠0):Calls prog 110 #[.pointer (some ⟨b,0,none⟩),Zcm a n] w fun e w'=>e=Zw6 a n/\w'=w:=by
 unfold Zw6;rw[Zaf _ hn];go_in
 go_wp2_with fail
 exact⟨rfl,rfl,rfl⟩
theorem Zk7 (Z:Zao a w)(h:Dc w b l)(n:Nat)(hn:n < 18446744073709551616):
  Calls prog 111 #[.pointer (some ⟨b,0,none⟩),.int .u64 (n:Int)] w (Zev a b (fun _ v x=>v= .string (ba x)) w (Zfp n l)):=by
 obtain⟨hb,hl,hg⟩:=h;obtain⟨c0,sf⟩:=hb.one;have E1:=Zaa (Z8x l n);have E2:=Zaa (Z8w l n);have HB:=Zaa hb;have z6:=Z.c6;have C:=Zaa (Zbp a b w (n:=6) (by decide));have hsl:(ba l).size < 1000000000:=by rw[Zcx];exact hl
 have HS:=Zaa (Zcx l);clear Z hb;generalize ba l=s at*;by_cases h:l.length < n
 ·have F:Box (Zfp n l= .error 6):=⟨if_pos h⟩;have g:(s.size:Int) < (n:Int):=by have:=HS.out;omega
  go_in
  go_wp2_with fail
  refine mq C.out ?_;rintro w1 rfl;exact⟨rfl,Zah.refl _ _,Or.inl ⟨6,F.out,by decide,rfl⟩⟩
 ·have F:Box (Zfp n l= .ok (l.take n,l.drop n)):=⟨if_neg h⟩;have g: ¬ (s.size:Int) < (n:Int):=by have:=HS.out;omega
  have g2:n<=s.size:=by have:=HS.out;omega
  clear z6 C;go_in
  go_wp2
  go_ret
  refine⟨(Zah.refl b w).set _ _,Or.inr ⟨_,_,_,F.out,rfl,by simp[E1.out],?_,by rw[List.length_drop];omega,hg⟩⟩;rw[<- E2.out];exact HB.out.set 0 _
theorem Yaw (c:UInt8)(r:By)(h:0 < (ba (c::r)).size):(ba (c::r))[0]=c:=rfl
theorem Zkh (Z:Zao a w)(h:Dc w b l):
  Calls prog 112 #[.pointer (some ⟨b,0,none⟩)] w (Zev a b (fun _ v (x:Nat)=>v= .int .u8 (x:Int)/\x < 256) w (Zf9 l)):=by
 have C:=Zaa (Zk7 Z h 1 (by decide));go_in
 go_wp2_with fail
 refine C.out.mono ?_;rintro e w1 ⟨hk,⟨n,hy,hn,rfl⟩ | ⟨x,r,v,hy,rfl,rfl,hd⟩⟩
 ·have Y:Box (Zf9 l= .error n):=⟨by
   cases l with
   | nil=>simp[Zfp]at hy;rw[<- hy];rfl
   | cons c r=>simp[Zfp]at hy⟩
  exact⟨rfl,hk,Or.inl ⟨n,Y.out,hn,rfl⟩⟩
 ·cases l with
  | nil=>simp[Zfp]at hy
  | cons c l'=>
   obtain⟨rfl,rfl⟩:x=[c]/\r=l':=by simp[Zfp]at hy;exact⟨hy.1.symm,hy.2.symm⟩
   have h0:0 < (ba [c]).size:=by rw[Zcx];simp
   have hg:=Yaw c [] h0;have HD:=Zaa hd;have HK:=Zaa hk;have h256:=c.toNat_lt;clear hd hk hy;generalize ba [c]=s at*;go_wp2
   go_ret
   exact⟨HK.out,Or.inr ⟨c.toNat,_,_,rfl,rfl,⟨by simp,h256⟩,HD.out⟩⟩
theorem Z6w (n c k:Nat)(h:n < 128 ^ k):n ||| (c*128 ^ k)=n+c*128 ^ k:=by
 rw[Nat.or_comm];have e:(128:Nat) ^ k=2 ^ (7*k):=by rw[show(128:Nat)=2 ^ 7 by rfl,<- Nat.pow_mul]
 rw[e]at h⊢;rw[nat_join (7*k) (c*2 ^ (7*k)) n (Nat.mul_mod_left _ _) h,Nat.add_comm]
theorem Ybx (k:Nat):(128:Nat) ^ k=2 ^ (7*k):=by rw[show(128:Nat)=2 ^ 7 by rfl,<- Nat.pow_mul]
theorem Zuq (hn:n < 128 ^ k)(hk:k<=9)(hc:c < 128)(h9:k=9->c<=1):n+c*128 ^ k < 18446744073709551616:=by
 rcases Ye3 k 9 with h | h
 ·have:(128:Nat) ^ k<=128 ^ 8:=Nat.pow_le_pow_right (by omega) (by omega)
  have h2:c*128 ^ k<=127*128 ^ k:=Nat.mul_le_mul_right _ (by omega);have e:(128:Nat) ^ 8=72057594037927936:=by decide
  omega
 ·obtain rfl:k=9:=by omega
  have e:(128:Nat) ^ 9=9223372036854775808:=by decide
  rw[e]at hn⊢
  have:=h9 rfl
  omega
theorem Ybu (hn:n < 128 ^ k)(hk:k<=9)(hc:c < 128)(h9:k=9->c<=1):bits .or .u64 (n:Int) (IntKind.u64.wrap ((c:Int)*2 ^ (7*k)))=((n+c*128 ^ k:Nat):Int):=by
 have hs:=Zuq hn hk hc h9;have e:(c:Int)*2 ^ (7*k)=((c*128 ^ k:Nat):Int):=by rw[Ybx];simp
 rw[e,IntKind.wrap_u64,show((c*128 ^ k:Nat):Int) % 18446744073709551616=((c*128 ^ k:Nat):Int)by omega,u64_or_nat _ _ (by omega) (by omega),Z6w n c k hn]
theorem Z8t: ∀ X:Fin 256,bits .and .u8 ((X.val:Nat):Int) 127=((X.val % 128:Nat):Int):=by decide
theorem Yau (c:Nat)(h:c < 256):bits .and .u8 (c:Int) 127=((c % 128:Nat):Int):=Z8t ⟨c,h⟩
def Yb6 (a:Nat->Addr) (b:Nat) (w:World) (l:By) (nv sv:Value) (wr:World):Prop:= ∃ (k n:Nat) (r:By),k<=9/\n < 128 ^ k/\nv= .int .u64 (n:Int)/\sv= .int .i64 ((7*k:Nat):Int)/\Zuk k n r=Zdv l/\Dc wr b r/\Zah b w wr/\Zao a wr
def Z3p (b:Nat) (w:World):Nat:=match w.cell? ⟨b,0,none⟩with
 | some (.string s)=>s.size
 | _=>0
theorem Zyj (h:Dc w b l):Z3p b w=l.length:=by
 unfold Z3p;rw[h.1.one.1];exact Zcx l
theorem Zc5 (Z:Zao a w)(h:Dc w b l):
  Calls prog 152 #[.pointer (some ⟨b,0,none⟩)] w (Zev a b (fun _ v (x:Nat)=>v= .int .u64 (x:Int)/\x < 18446744073709551616) w (Zdv l)):=by
 have hgb:=h.2.2;go_in
 go_wp2
 go_loopw [3,4] (fun nv sv wr=>Yb6 a b w l nv sv wr) (fun _ _ wr=>Z3p b wr)
 case atStart=>exact⟨0,0,l,by omega,by decide,rfl,rfl,rfl,h,Zah.refl _ _,Z⟩
 case round=>
  obtain⟨k,n,r,hk,hn,rfl,rfl,hE,hd,hK,hZ⟩:=hrel;have C:=Zaa (Zkh hZ hd);have HK:=Zaa hK;have HZ:=Zaa hZ;have HD:=Zaa hd;have HE:=Zaa hE;clear hK hZ hd hE h Z;go_wp2_with fail
  refine C.out.mono ?_;rintro e w1 ⟨hk1,⟨m,hy,hm,rfl⟩ | ⟨c,r1,v,hy,rfl,⟨rfl,hc⟩,hd1⟩⟩
  ·exact⟨rfl,HK.out.trans hk1,Or.inl ⟨m,by
    rw[<- HE.out];cases r with
    | nil=>simp[Zf9]at hy;subst hy;rfl
    | cons c r=>simp[Zf9]at hy,hm,rfl⟩⟩
  ·have NX:Box (∃ c8:UInt8,r=c8::r1/\c8.toNat=c):=⟨by
    cases r with
    | nil=>simp[Zf9]at hy
    | cons c' r'=>simp[Zf9]at hy;exact⟨c',by rw[hy.2],hy.1⟩⟩
   have HK1:=Zaa (HK.out.trans hk1);have HZ1:=Zaa (HZ.out.keeps hk1 hgb);have HD1:=Zaa hd1;clear hy hk1 hd1 HK HZ C;have A1:=Yau c hc;have hk9:((7*k:Nat):Int)<=63:=by omega
   by_cases bad:(k=9/\1 < c)\/(0 < k/\c=0)
   ·have Y:Box (Zdv l= .error 7):=⟨by
     obtain⟨c8,rfl,rfl⟩:=NX.out;rw[<- HE.out,Zuk,if_pos bad]⟩
    have z7:=HZ1.out.c7;have CR:=Zaa (Zbp a b w1 (n:=7) (by decide));have W:((((7*k:Nat):Int)==63)=true/\(1:Int) < c)\/((((7*k:Nat):Int)==63)=true/\decide ((1:Int) < c)=false/\(0:Int) < ((7*k:Nat):Int)/\((c:Int)==0)=true)\/((((7*k:Nat):Int)==63)=false/\(0:Int) < ((7*k:Nat):Int)/\((c:Int)==0)=true):=by
     simp only[Yfb,Ye4,decide_eq_false_iff_not];omega
    clear bad A1 HD HE NX;generalize 7*k=k7 at*;rcases W with⟨g1,g2⟩ | ⟨g1,g2,g3,g4⟩ | ⟨g1,g2,g3⟩;all_goals
     go_wp2_with fail
     refine mq CR.out ?_;rintro w2 rfl;exact⟨rfl,HK1.out,Or.inl ⟨7,Y.out,by decide,rfl⟩⟩
   ·have h9:k=9->c % 128<=1:=by omega
    have hc1:k=9->c < 128:=by omega
    have OV:Box (bits .or .u64 (n:Int) (IntKind.u64.wrap ((c:Int) % 128*2 ^ (7*k)))=((n+c % 128*128 ^ k:Nat):Int)):=⟨by have:=Ybu hn hk (Nat.mod_lt c (by omega)) h9;rwa [show((c % 128:Nat):Int)=(c:Int) % 128 by omega]at this⟩;have PS:=Zaa (Zuq hn hk (Nat.mod_lt c (by omega)) h9);have W:((((7*k:Nat):Int)==63)=true/\decide ((1:Int) < c)=false/\(0:Int) < ((7*k:Nat):Int)/\((c:Int)==0)=false/\c < 128)\/((((7*k:Nat):Int)==63)=false/\(0:Int) < ((7*k:Nat):Int)/\((c:Int)==0)=false)\/((((7*k:Nat):Int)==63)=false/\ ¬ 0 < 7*k):=by
     simp only[Yfb,Ye4,decide_eq_false_iff_not];by_cases a1:k=9
     ·exact Or.inl (by omega)
     ·by_cases a2:k=0
      ·exact Or.inr (Or.inr (by omega))
      ·exact Or.inr (Or.inl (by omega))
    have hkk:((7*k:Nat):Int)+7=((7*(k+1):Nat):Int):=by omega
    have hK9:=Zaa hk;have NUM:Box ((c < 128->Zdv l= .ok (n+c % 128*128 ^ k,r1))/\(128<=c->Zuk (k+1) (n+c % 128*128 ^ k) r1=Zdv l/\k+1<=9/\n+c % 128*128 ^ k < 128 ^ (k+1))):=⟨by
     obtain⟨c8,rfl,rfl⟩:=NX.out;rw[<- HE.out,Zuk,if_neg bad];refine⟨fun h=>by rw[if_pos h,Nat.mod_eq_of_lt h],fun h=>⟨by rw[if_neg (by omega),show c8.toNat - 128=c8.toNat % 128 by omega],by omega,?_⟩⟩
     have:c8.toNat % 128*128 ^ k<=127*128 ^ k:=Nat.mul_le_mul_right _ (by omega)
     rw[Nat.pow_succ]
     omega⟩
    have E7:Box ((7*k:Nat)=7*k):=⟨rfl⟩;generalize h7:7*k=k7 at*;have LEN:Box (Z3p b w1 < Z3p b wr):=⟨by rw[Zyj HD1.out,Zyj HD.out];obtain⟨c8,rfl,_⟩:=NX.out;simp⟩;clear bad h9 hc1 NX HE HD hk hn h7 E7;rcases W with⟨g1,g2,g3,g4,g5⟩ | ⟨g1,g2,g3⟩ | ⟨g1,g2⟩;all_goals
     go_wp2_with fail
     all_goals first
      | (go_ret;exact⟨HK1.out,Or.inr ⟨_,_,_,NUM.out.1 (by omega),rfl,⟨by simp only[<- OV.out];rfl,PS.out⟩,HD1.out⟩⟩)
      | exact⟨⟨k+1,_,r1,(NUM.out.2 (by omega)).2.1,(NUM.out.2 (by omega)).2.2,by rw[OV.out],by simp,(NUM.out.2 (by omega)).1,HD1.out,HK1.out,HZ1.out⟩,LEN.out⟩
      | trace_state
end Go.P
namespace Go.P
def Zad:Tys:=⟨117,112,119,115,72,187⟩
theorem Z3i:(prog.info? 117).map (fun i=>(i.zero,i.size,i.bytes))=some (some (.agg #[.int .i64 0,.int .i64 0,.string ⟨#[]⟩,.slice none 0 0]),4,56):=by kernel_rfl
theorem Znx:Zdw prog 110 117 4 56:=by
 obtain⟨i0,hi,hz0,hz1,hz2⟩:=info_parts Z3i;exact⟨i0,_,underlying110,hi,hz0,hz1,hz2,rfl,by decide,by decide⟩
theorem Zn6:(prog.info? 112).map (fun i=>(i.zero,i.size,i.bytes))=some (some (.agg #[.string ⟨#[]⟩,.slice none 0 0]),2,40):=by kernel_rfl
theorem Zts:Zdw prog 41 112 2 40:=by
 obtain⟨i0,hi,hz0,hz1,hz2⟩:=info_parts Zn6;exact⟨i0,_,underlying41,hi,hz0,hz1,hz2,rfl,by decide,by decide⟩
theorem Z0p:(prog.info? 119).map (fun i=>(i.zero,i.size,i.bytes))=some (some (.agg #[.int .i64 0,.int .i64 0,.int .i64 0,.string ⟨#[]⟩,.slice none 0 0,.int .i64 0,.int .i64 0,.string ⟨#[]⟩,.slice none 0 0]),9,120):=by kernel_rfl
theorem Zqq:Zdw prog 113 119 9 120:=by
 obtain⟨i0,hi,hz0,hz1,hz2⟩:=info_parts Z0p;exact⟨i0,_,underlying113,hi,hz0,hz1,hz2,rfl,by decide,by decide⟩
theorem Zn7:(prog.info? 115).map (fun i=>(i.zero,i.size,i.bytes))=some (some (.agg #[.string ⟨#[]⟩,.slice none 0 0,.slice none 0 0,.slice none 0 0]),4,88):=by kernel_rfl
theorem Ztu:Zdw prog 42 115 4 88:=by
 obtain⟨i0,hi,hz0,hz1,hz2⟩:=info_parts Zn7;exact⟨i0,_,underlying42,hi,hz0,hz1,hz2,rfl,by decide,by decide⟩
theorem Z0o:(prog.info? 72).map (fun i=>(i.zero,i.size,i.bytes))=some (some (.agg #[.slice none 0 0]),1,24):=by kernel_rfl
theorem Zqp:Zdw prog 43 72 1 24:=by
 obtain⟨i0,hi,hz0,hz1,hz2⟩:=info_parts Z0o;exact⟨i0,_,underlying43,hi,hz0,hz1,hz2,rfl,by decide,by decide⟩
theorem Z6i:(prog.info? 187).map (fun i=>(i.zero,i.size,i.bytes))=some (some (.agg #[.bool false,.slice none 0 0]),2,32):=by kernel_rfl
theorem Z56:Zdw prog 36 187 2 32:=by
 obtain⟨i0,hi,hz0,hz1,hz2⟩:=info_parts Z6i;exact⟨i0,_,underlying36,hi,hz0,hz1,hz2,rfl,by decide,by decide⟩
def Zbh:Prop:= ∀ (s:ByteArray) (w:World),s.size < 1000000000->Calls prog 166 #[.string s] w fun e w'=>e= .returned (.string s)/\Below w.heap.size w w'
def Zlh {α:Type} (Q:Zgj α) (N:Nat) (w:World) (v:Value) (x:α):Prop:= ∃ vs F,v= .agg vs.toArray/\Q w vs x F/\Za7 N w F
def Zkd {α:Type} (e:TypeId) (s:Nat) (Q:Zgj α) (N:Nat) (w:World) (v:Value) (xs:List α):Prop:= ∃ F,Zag e s Q w v xs F/\Za7 N w F
theorem Ztp (CL:Zbh){a:Nat->Addr}{w:World}{b:Nat}{l:By}(Z:Zao a w)(h:Dc w b l):
  Calls prog 253 #[.pointer (some ⟨b,0,none⟩)] w (Zev a b (fun _ v (x:ByteArray)=>v= .string x/\x.size < 1000000000) w (Zox l)):=by
 have C:=Zaa (Zc5 Z h);have ZZ:=Zaa Z;have hgb:=h.2.2;have hl:=h.2.1;clear Z h;go_in
 go_wp2_with fail
 refine C.out.mono ?_;rintro e w1 ⟨hk1,⟨m,hy,hm,rfl⟩ | ⟨n,r1,v,hy,rfl,⟨rfl,hn⟩,hd1⟩⟩
 ·exact⟨rfl,hk1,Or.inl ⟨m,De.map_error (De.then_error hy),hm,rfl⟩⟩
 ·have Y:=Zaa (fun x (h:Zfp n r1=x)=>(De.then_ok (g:=Zfp) hy).trans h);have HK:=Zaa hk1;have hl1:=hd1.2.1;have C2:=Zaa (Zk7 (ZZ.out.keeps hk1 hgb) hd1 n hn);clear hk1 hd1 hy C;go_wp2_with fail
  refine C2.out.mono ?_;rintro e w2 ⟨hk2,⟨m,hy,hm,rfl⟩ | ⟨x,r2,v,hy,rfl,rfl,hd2⟩⟩
  ·exact⟨rfl,HK.out.trans hk2,Or.inl ⟨m,De.map_error (Y.out _ hy),hm,rfl⟩⟩
  ·have hx:(ba x).size < 1000000000:=by
    rw[Zcx];unfold Zfp at hy;split at hy
    ·cases hy
    ·injection hy with hy;injection hy with hy _;rw[<- hy,List.length_take];omega
   have Y2:Box (Zox l= .ok (ba x,r2)):=⟨De.map_ok (Y.out _ hy)⟩;have HK2:=Zaa (HK.out.trans hk2);have HD:=Zaa hd2;have C3:=Zaa (CL (ba x) w2 hx);clear hk2 hd2 hy C2 Y HK;generalize ba x=s at*;go_wp2_with fail
   refine mq C3.out ?_;rintro w3 hb3;have hbl:=HD.out.1.lt;go_wp2
   go_ret
   exact⟨HK2.out.ofBelow hb3,Or.inr ⟨s,r2,_,Y2.out,rfl,⟨rfl,hx⟩,HD.out.of (hb3.block b hbl)⟩⟩
end Go.P
namespace Go.W
variable {s n y k:Nat}{w:World}{v:Value}{cs:List Value}{P:Program}{tx:TypeId}{z:Option Value}{xs:List (Nat×List Value)}{x:Nat×List Value}
def Zs5 (s:Nat) (w:World) (v:Value) (n:Nat) (cs:List Value):Prop:= ∃ p c,v= .slice p n c/\n < 1000000/\cs.length=n*s/\(∀ u∈cs,u.oneCell'=true)/\(∀ a,p=some a-> ∀ j u,cs[j]?=some u->a.block < w.heap.size/\w.cell? (a.add j)=some u)/\(p=none->n=0)
theorem Zs5.below {u:World}(h:Zs5 s w v n cs)(hb:Below w.heap.size w u):Zs5 s u v n cs:=by
 obtain⟨p,c,h0,h1,h2,h3,h4,h5⟩:=h;refine⟨p,c,h0,h1,h2,h3,fun a ha j u hj=>⟨Ydh (h4 a ha j u hj).1 hb.size,?_⟩,h5⟩;have e:(a.add j).block=a.block:=by unfold Addr.add;split <;> rfl
 exact(hb.cell (p:=a.add j) (by rw[e];exact(h4 a ha j u hj).1)).trans (h4 a ha j u hj).2
theorem Zs5.src {e':TypeId}(h:Zs5 s w v n cs)(hk:P.underlying tx=some (.slice e')):Src P s tx v n cs w:=by
 obtain⟨p,c,rfl,h1,h2,h3,h4,h5⟩:=h;cases p with
 | none=>
  obtain rfl:=h5 rfl;obtain rfl:cs=[]:=Yds (by simpa using h2);exact Src.ofNil w hk c
 | some a=>exact Src.ofSlice w hk a n c cs h2 (fun j u hj=>(h4 a rfl j u hj).2) h3
theorem Z3j {e:TypeId}(h:(P.info? e).map (fun i=>(i.zero,i.size,i.bytes))=some (z,s,y)): ∃ i,P.info? e=some i/\i.zero=z/\i.size=s/\i.bytes=y:=by
 obtain⟨i,hi,he⟩:=Yd0.1 h;simp at he;exact⟨i,hi,he.1,he.2.1,he.2.2⟩
theorem Zr7 (w:World)(t tn e:TypeId)(z:Value)(s y:Nat)(ht:P.underlying t=some (.slice e))(htn:P.underlying tn=some (.int .i64))(hi:(P.info? e).map (fun i=>(i.zero,i.size,i.bytes))=some (some z,s,y))(hzs:z.cells.size=s)(hs:0 < s)(hb:y<=1000)(n:Nat)(h0:0 < n)(hn:n < 1000000000):
  ∃ cap cells,n<=cap/\cells.size=cap*s/\ ∀ ty,(Builtin.append_ #[t,tn] ty #[.slice none 0 0,.int .i64 (n:Int)]).run P w= .ok (.slice (some ⟨w.heap.size,0,none⟩) n cap) (w.drew.alloc (.cells cells e)):=by
 obtain⟨i,h9,hz,rfl,rfl⟩:=Z3j hi;clear hi;have hi:=h9;have hge:=grownCap_ge w (0+n) 0 e;refine⟨grownCap w (0+n) 0 e,Builtin.zeroCells z.cells n++Builtin.zeroCells z.cells (grownCap w (0+n) 0 e - (0+n)),by omega,?_,fun ty=>?_⟩
 ·rw[Array.size_append,size_zeroCells,size_zeroCells,hzs,<- Nat.add_mul];congr 1
  omega
 ·have:=Lib.run_append_grow_zeros (P:=P) w t tn ty e i z .i64 .i64 ht htn hi hz none 0 0 [] (run_firstCells_none w.drew i.size 0 0 0) n h0 hs (by omega) (by omega) (by have:=Nat.mul_le_mul (Nat.le_of_lt hn) hb;omega) (growslice_fits (by omega) (by have:=Nat.mul_le_mul (show 0+n<=1000000000 by omega) hb;omega))
  simpa using this
theorem Z50 (w:World)(t tx e:TypeId)(i:TypeInfo)(ht:P.underlying t=some (.slice e))(hi:P.info? e=some i)(g sLen sCap:Nat)(cur:Array Value)(hg:w.heap[g]?=some (.cells cur e (0,0)))(x:Value)(n:Nat)(news:List Value)(hs:Src P i.size tx x n news w)(hroom:sLen+n<=sCap)(hfit:sLen*i.size+news.length<=cur.size)(ty:TypeId):
  (Builtin.append_ #[t,tx] ty #[.slice (some ⟨g,0,none⟩) sLen sCap,x]).run P w= .ok (.slice (some ⟨g,0,none⟩) (sLen+n) sCap) (w.setRow g (cur.toList.take (sLen*i.size)++news++cur.toList.drop (sLen*i.size+news.length)).toArray):=by
 have hst:=run_storeCells_at P g (sLen*i.size) e news 0 cur w hg (by simpa using hfit) hs.one;simp only[Yey]at hst;rcases hs.kind with⟨e',hk⟩ | hk <;> simp[Builtin.append_,Yff ht,Yff hk,sizeOf,typeInfo,hi,hs.len,hroom,hs.cells,Addr.add_lit,hst]
def Zf6 (xs:List (Nat×List Value)):Nat:=xs.foldr (fun x s=>x.1+s) 0
def Zpu (xs:List (Nat×List Value)):List Value:=xs.flatMap (·.2)
theorem Zou (xs ys:List (Nat×List Value)):Zf6 (xs++ys)=Zf6 xs+Zf6 ys:=by
 induction xs with
 | nil=>simp[Zf6]
 | cons x xs ih=>simp only[Zf6,Ydv,List.foldr_cons]at ih⊢;omega
theorem Zen (h:xs[k]?=some x):Zf6 (xs.take (k+1))=Zf6 (xs.take k)+x.1/\Zf6 (xs.take k)+x.1<=Zf6 xs:=by
 have e1:xs.take (k+1)=xs.take k++[x]:=by rw[Yes,h];rfl
 have e2:Zf6 (xs.take (k+1))=Zf6 (xs.take k)+x.1:=by rw[e1,Zou];simp[Zf6]
 refine⟨e2,?_⟩;rw[<- e2]
 have:=Zou (xs.take (k+1)) (xs.drop (k+1))
 rw[List.take_append_drop]at this;omega
theorem Zlp (h:xs[k]?=some x):Zpu (xs.take (k+1))=Zpu (xs.take k)++x.2:=by
 have e1:xs.take (k+1)=xs.take k++[x]:=by rw[Yes,h];rfl
 rw[e1];simp[Zpu]
def Zh8 (E s:Nat) (w:World) (nv:Value) (done:List Value) (m total:Nat) (wr:World):Prop:=Below w.heap.size w wr/\done.length=m*s/\((total=0/\m=0/\nv= .slice none 0 0/\done=[])\/ ∃ cap vs,total<=cap/\nv= .slice (some ⟨w.heap.size,0,none⟩) m cap/\Blk wr w.heap.size vs E/\vs.size=cap*s/\vs.toList.take done.length=done)
theorem Zh8.step {E m total:Nat}{wr:World}{nv x:Value}{done news:List Value}{t:TypeId}(ht:P.underlying t=some (.slice E))(hi:(P.info? E).map (fun i=>(i.zero,i.size,i.bytes))=some (z,s,y))(h:Zh8 E s w nv done m total wr)(hs:Src P s tx x n news wr)(hle:m+n<=total): ∃ nv' wr',(∀ ty,(Builtin.append_ #[t,tx] ty #[nv,x]).run P wr= .ok nv' wr')/\Zh8 E s w nv' (done++news) (m+n) total wr':=by
 obtain⟨i,h9,_,rfl,_⟩:=Z3j hi;clear hi;have hi:=h9;obtain⟨hb,hd,h⟩:=h;have hnl:=hs.newsLen;rcases h with⟨rfl,rfl,rfl,rfl⟩ | ⟨cap,vs,hc,rfl,hB,hvs,htk⟩
 ·obtain rfl:n=0:=by omega
  obtain rfl:news=[]:=Yds (by simpa using hnl);exact⟨_,_,fun ty=>by rcases hs.kind with⟨e',hk⟩ | hk <;> simp[Builtin.append_,Yff ht,Yff hk,sizeOf,typeInfo,hi,hs.len,hs.cells],hb,by simp,Or.inl ⟨rfl,rfl,rfl,rfl⟩⟩
 ·have hfit:m*i.size+news.length<=vs.size:=by
   rw[hvs,hnl,<- Nat.add_mul];exact Nat.mul_le_mul_right _ (by omega)
  refine⟨_,_,fun ty=>Z50 wr t tx E i ht hi w.heap.size m cap vs hB x n news hs (by omega) hfit ty,?_,by rw[Yeg,hd,hnl,Nat.add_mul],Or.inr ⟨cap,_,hc,rfl,Yfe wr _ vs _ _ _ hB,?_,?_⟩⟩
  ·exact⟨hb.os,hb.tape,hb.output,by rw[Yfd];exact hb.size,fun j hj=>(Ye8 _ _ j _ (by omega)).trans (hb.block j hj)⟩
  ·simp[<- hvs];omega
  ·have:m*i.size=done.length:=hd.symm
   rw[this,htk];show List.take (done++news).length ((done++news)++_)=_;exact List.take_left
end Go.W
namespace Go.P
variable {w:World}{b o c:Nat}{xs:List (Nat×List Value)}
theorem Zsa:(prog.info? 9).map (fun i=>(i.zero,i.size,i.bytes))=some (some (.string ⟨#[]⟩),1,16):=by kernel_rfl
def Zvp (w:World) (xs:List (Nat×List Value)) (iv sv:Value) (wr:World):Prop:= ∃ k:Nat,k<=xs.length/\iv= .int .i64 (k:Int)/\sv= .int .i64 (Zf6 (xs.take k):Int)/\wr=w
def Z17 (E s:Nat) (w:World) (xs:List (Nat×List Value)) (iv nv:Value) (wr:World):Prop:= ∃ k:Nat,k<=xs.length/\iv= .int .i64 (k:Int)/\Zh8 E s w nv (Zpu (xs.take k)) (Zf6 (xs.take k)) (Zf6 xs) wr
theorem Z6g (n:Nat)(hn:n < 1000000000)(w:World):Calls prog 138 #[.slice none 0 0,.int .i64 (n:Int)] w fun e w'=> ∃ nv,e= .returned nv/\Zh8 9 1 w nv [] 0 n w':=by
 have h1: ¬ ((n:Int) < 0):=by omega
 by_cases h0:n=0
 ·subst h0;go_in
  go_wp2
  go_ret
  exact⟨_,rfl,Ydb _ w,rfl,Or.inl ⟨rfl,rfl,rfl,rfl⟩⟩
 ·have h3:wrap64 ((n:Int) - 0)=(n:Int):=by unfold wrap64;omega
  have h4:(n:Int) > 0:=by omega
  obtain⟨cap,cells,hc,hs,hrun⟩:=Zr7 (P:=prog) w 32 3 9 _ 1 16 underlying32 underlying3 Zsa rfl (by decide) (by decide) n (by omega) hn;have H:=Zaa (Yda hc hs);clear hc hs;go_in
  go_wp2_with (at_builtin;refine Lib.wpList_append_run _ rfl _ _ _ _ rfl _ _ rfl rfl _ _ (hrun _) ?_)
  go_ret
  exact⟨_,rfl,(Ydb _ w).drew.alloc lr _,rfl,Or.inr ⟨cap,cells,H.out.1,rfl,Blk.new _ _ _,H.out.2,rfl⟩⟩
theorem Zz2 (hX: ∀ i x,xs[i]?=some x->b < w.heap.size/\ ∃ v,w.cell? ⟨b,o+i,none⟩=some v/\Zs5 1 w v x.1 x.2)(hl:xs.length < 1000000)(hs:Zf6 xs < 1000000000):Calls prog 88 #[.slice (some ⟨b,o,none⟩) xs.length c] w fun e w'=> ∃ nv,e= .returned nv/\Zh8 9 1 w nv (Zpu xs) (Zf6 xs) (Zf6 xs) w':=by
 obtain⟨n,hn⟩: ∃ n,xs.length=n:=⟨_,rfl⟩;rw[hn];have HX:=Zaa hX;have HN:=Zaa hn;have HS:=Zaa hs;have CG:=Zaa (Z6g (Zf6 xs) hs w);clear hX hn hs;go_in
 go_wp2
 go_loopw [11,3] (fun iv sv wr=>Zvp w xs iv sv wr) (fun iv _ _=>xs.length - (intOf iv).toNat)
 case atStart=>exact⟨0,by omega,rfl,rfl,rfl⟩
 case round=>
  obtain⟨k,hk,rfl,rfl,hw⟩:=hrel;obtain rfl:=hw.symm;by_cases hlt:k < n
  ·have g:(k:Int) < (n:Int):=by omega
   obtain⟨x,hx⟩: ∃ x,xs[k]?=some x:=⟨xs[k]'(by have:=HN.out;omega),Ydi _⟩;obtain⟨hbw,v,hc,hv⟩:=HX.out k x hx;obtain⟨p,c1,rfl,hn1,hr⟩:=hv;have ht:=Zen hx;have hS:=HS.out;have E:=Zaa ht;have e1:wrap64 ((Zf6 (xs.take k):Int)+(x.1:Int))=((Zf6 (xs.take k)+x.1:Nat):Int):=by unfold wrap64;omega
   have e2: ¬ (((Zf6 (xs.take k)+x.1:Nat):Int) < 0):=Int.not_lt.2 (Int.natCast_nonneg _);clear hx ht hS hr;go_wp2_with fail
   rw[e1,<- E.out.1];exact⟨⟨k+1,by have:=HN.out;omega,by simp,rfl,rfl⟩,by simp[intOf];have:=HN.out;omega⟩
  ·obtain rfl:k=n:=by have:=HN.out;omega
   rw[<- HN.out,Yek,HN.out];go_wp2_with fail
   refine CG.out.mono ?_;rintro e w2 ⟨nv,rfl,hC⟩;have H2:=Zaa hC;clear hC CG;obtain⟨tot,htot⟩: ∃ tot,Zf6 xs=tot:=⟨_,rfl⟩;rw[htot]at H2⊢;go_wp2
   go_loopw [27,6] (fun iv nv wr=>Z17 9 1 w xs iv nv wr) (fun iv _ _=>xs.length - (intOf iv).toNat)
   case atStart=>exact⟨0,by omega,rfl,by rw[htot];exact H2.out⟩
   case round=>
    clear H2;obtain⟨j,hj,rfl,hC⟩:=hrel;by_cases hlt:j < k
    ·have g:(j:Int) < (k:Int):=by omega
     obtain⟨x,hx⟩: ∃ x,xs[j]?=some x:=⟨xs[j]'(by have:=HN.out;omega),Ydi _⟩;obtain⟨hbw,v,hc,hv⟩:=HX.out j x hx;have hc':=(hC.1.cell hbw).trans hc;obtain⟨nv',w4,hrun,hC'⟩:=hC.step (t:=32) (tx:=32) underlying32 Zsa ((hv.below hC.1).src underlying32) (Zen hx).2;rw[<- (Zen hx).1,<- Zlp hx]at hC';obtain⟨p,c1,rfl,hn1,hr⟩:=hv;have H4:=Zaa hC';have hrun:=Zaa hrun;clear hC hc hC' hx hr;go_wp2_with (at_builtin;refine Lib.wpList_append_run _ rfl _ _ _ _ rfl _ _ rfl rfl _ _ (hrun.out _) ?_)
     exact⟨⟨j+1,by have:=HN.out;omega,by simp,H4.out⟩,by simp[intOf];have:=HN.out;omega⟩
    ·obtain rfl:j=k:=by have:=HN.out;omega
     have H4:=Zaa hC;clear hC;go_wp2
     go_ret
     have:=H4.out
     rw[<- HN.out,Yek]at this;exact⟨u6,rfl,this⟩
theorem Z28 (n:Nat)(hn:n < 1000000000)(w:World):Calls prog 212 #[.slice none 0 0,.int .i64 (n:Int)] w fun e w'=> ∃ nv,e= .returned nv/\Zh8 112 2 w nv [] 0 n w':=by
 have h1: ¬ ((n:Int) < 0):=by omega
 by_cases h0:n=0
 ·subst h0;go_in
  go_wp2
  go_ret
  exact⟨_,rfl,Ydb _ w,rfl,Or.inl ⟨rfl,rfl,rfl,rfl⟩⟩
 ·have h3:wrap64 ((n:Int) - 0)=(n:Int):=by unfold wrap64;omega
  have h4:(n:Int) > 0:=by omega
  obtain⟨cap,cells,hc,hs,hrun⟩:=Zr7 (P:=prog) w 41 3 112 _ 2 40 underlying41 underlying3 Zn6 rfl (by decide) (by decide) n (by omega) hn;have H:=Zaa (Yda hc hs);clear hc hs;go_in
  go_wp2_with (at_builtin;refine Lib.wpList_append_run _ rfl _ _ _ _ rfl _ _ rfl rfl _ _ (hrun _) ?_)
  go_ret
  exact⟨_,rfl,(Ydb _ w).drew.alloc lr _,rfl,Or.inr ⟨cap,cells,H.out.1,rfl,Blk.new _ _ _,H.out.2,rfl⟩⟩
theorem Zv0 (hX: ∀ i x,xs[i]?=some x->b < w.heap.size/\ ∃ v,w.cell? ⟨b,o+i,none⟩=some v/\Zs5 2 w v x.1 x.2)(hl:xs.length < 1000000)(hs:Zf6 xs < 1000000000):Calls prog 185 #[.slice (some ⟨b,o,none⟩) xs.length c] w fun e w'=> ∃ nv,e= .returned nv/\Zh8 112 2 w nv (Zpu xs) (Zf6 xs) (Zf6 xs) w':=by
 obtain⟨n,hn⟩: ∃ n,xs.length=n:=⟨_,rfl⟩;rw[hn];have HX:=Zaa hX;have HN:=Zaa hn;have HS:=Zaa hs;have CG:=Zaa (Z28 (Zf6 xs) hs w);clear hX hn hs;go_in
 go_wp2
 go_loopw [11,3] (fun iv sv wr=>Zvp w xs iv sv wr) (fun iv _ _=>xs.length - (intOf iv).toNat)
 case atStart=>exact⟨0,by omega,rfl,rfl,rfl⟩
 case round=>
  obtain⟨k,hk,rfl,rfl,hw⟩:=hrel;obtain rfl:=hw.symm;by_cases hlt:k < n
  ·have g:(k:Int) < (n:Int):=by omega
   obtain⟨x,hx⟩: ∃ x,xs[k]?=some x:=⟨xs[k]'(by have:=HN.out;omega),Ydi _⟩;obtain⟨hbw,v,hc,hv⟩:=HX.out k x hx;obtain⟨p,c1,rfl,hn1,hr⟩:=hv;have ht:=Zen hx;have hS:=HS.out;have E:=Zaa ht;have e1:wrap64 ((Zf6 (xs.take k):Int)+(x.1:Int))=((Zf6 (xs.take k)+x.1:Nat):Int):=by unfold wrap64;omega
   have e2: ¬ (((Zf6 (xs.take k)+x.1:Nat):Int) < 0):=Int.not_lt.2 (Int.natCast_nonneg _);clear hx ht hS hr;go_wp2_with fail
   rw[e1,<- E.out.1];exact⟨⟨k+1,by have:=HN.out;omega,by simp,rfl,rfl⟩,by simp[intOf];have:=HN.out;omega⟩
  ·obtain rfl:k=n:=by have:=HN.out;omega
   rw[<- HN.out,Yek,HN.out];go_wp2_with fail
   refine CG.out.mono ?_;rintro e w2 ⟨nv,rfl,hC⟩;have H2:=Zaa hC;clear hC CG;obtain⟨tot,htot⟩: ∃ tot,Zf6 xs=tot:=⟨_,rfl⟩;rw[htot]at H2⊢;go_wp2
   go_loopw [27,6] (fun iv nv wr=>Z17 112 2 w xs iv nv wr) (fun iv _ _=>xs.length - (intOf iv).toNat)
   case atStart=>exact⟨0,by omega,rfl,by rw[htot];exact H2.out⟩
   case round=>
    clear H2;obtain⟨j,hj,rfl,hC⟩:=hrel;by_cases hlt:j < k
    ·have g:(j:Int) < (k:Int):=by omega
     obtain⟨x,hx⟩: ∃ x,xs[j]?=some x:=⟨xs[j]'(by have:=HN.out;omega),Ydi _⟩;obtain⟨hbw,v,hc,hv⟩:=HX.out j x hx;have hc':=(hC.1.cell hbw).trans hc;obtain⟨nv',w4,hrun,hC'⟩:=hC.step (t:=41) (tx:=41) underlying41 Zn6 ((hv.below hC.1).src underlying41) (Zen hx).2;rw[<- (Zen hx).1,<- Zlp hx]at hC';obtain⟨p,c1,rfl,hn1,hr⟩:=hv;have H4:=Zaa hC';have hrun:=Zaa hrun;clear hC hc hC' hx hr;go_wp2_with (at_builtin;refine Lib.wpList_append_run _ rfl _ _ _ _ rfl _ _ rfl rfl _ _ (hrun.out _) ?_)
     exact⟨⟨j+1,by have:=HN.out;omega,by simp,H4.out⟩,by simp[intOf];have:=HN.out;omega⟩
    ·obtain rfl:j=k:=by have:=HN.out;omega
     have H4:=Zaa hC;clear hC;go_wp2
     go_ret
     have:=H4.out
     rw[<- HN.out,Yek]at this;exact⟨u6,rfl,this⟩
theorem Z29 (n:Nat)(hn:n < 1000000000)(w:World):Calls prog 213 #[.slice none 0 0,.int .i64 (n:Int)] w fun e w'=> ∃ nv,e= .returned nv/\Zh8 115 4 w nv [] 0 n w':=by
 have h1: ¬ ((n:Int) < 0):=by omega
 by_cases h0:n=0
 ·subst h0;go_in
  go_wp2
  go_ret
  exact⟨_,rfl,Ydb _ w,rfl,Or.inl ⟨rfl,rfl,rfl,rfl⟩⟩
 ·have h3:wrap64 ((n:Int) - 0)=(n:Int):=by unfold wrap64;omega
  have h4:(n:Int) > 0:=by omega
  obtain⟨cap,cells,hc,hs,hrun⟩:=Zr7 (P:=prog) w 42 3 115 _ 4 88 underlying42 underlying3 Zn7 rfl (by decide) (by decide) n (by omega) hn;have H:=Zaa (Yda hc hs);clear hc hs;go_in
  go_wp2_with (at_builtin;refine Lib.wpList_append_run _ rfl _ _ _ _ rfl _ _ rfl rfl _ _ (hrun _) ?_)
  go_ret
  exact⟨_,rfl,(Ydb _ w).drew.alloc lr _,rfl,Or.inr ⟨cap,cells,H.out.1,rfl,Blk.new _ _ _,H.out.2,rfl⟩⟩
theorem Zv1 (hX: ∀ i x,xs[i]?=some x->b < w.heap.size/\ ∃ v,w.cell? ⟨b,o+i,none⟩=some v/\Zs5 4 w v x.1 x.2)(hl:xs.length < 1000000)(hs:Zf6 xs < 1000000000):Calls prog 186 #[.slice (some ⟨b,o,none⟩) xs.length c] w fun e w'=> ∃ nv,e= .returned nv/\Zh8 115 4 w nv (Zpu xs) (Zf6 xs) (Zf6 xs) w':=by
 obtain⟨n,hn⟩: ∃ n,xs.length=n:=⟨_,rfl⟩;rw[hn];have HX:=Zaa hX;have HN:=Zaa hn;have HS:=Zaa hs;have CG:=Zaa (Z29 (Zf6 xs) hs w);clear hX hn hs;go_in
 go_wp2
 go_loopw [11,3] (fun iv sv wr=>Zvp w xs iv sv wr) (fun iv _ _=>xs.length - (intOf iv).toNat)
 case atStart=>exact⟨0,by omega,rfl,rfl,rfl⟩
 case round=>
  obtain⟨k,hk,rfl,rfl,hw⟩:=hrel;obtain rfl:=hw.symm;by_cases hlt:k < n
  ·have g:(k:Int) < (n:Int):=by omega
   obtain⟨x,hx⟩: ∃ x,xs[k]?=some x:=⟨xs[k]'(by have:=HN.out;omega),Ydi _⟩;obtain⟨hbw,v,hc,hv⟩:=HX.out k x hx;obtain⟨p,c1,rfl,hn1,hr⟩:=hv;have ht:=Zen hx;have hS:=HS.out;have E:=Zaa ht;have e1:wrap64 ((Zf6 (xs.take k):Int)+(x.1:Int))=((Zf6 (xs.take k)+x.1:Nat):Int):=by unfold wrap64;omega
   have e2: ¬ (((Zf6 (xs.take k)+x.1:Nat):Int) < 0):=Int.not_lt.2 (Int.natCast_nonneg _);clear hx ht hS hr;go_wp2_with fail
   rw[e1,<- E.out.1];exact⟨⟨k+1,by have:=HN.out;omega,by simp,rfl,rfl⟩,by simp[intOf];have:=HN.out;omega⟩
  ·obtain rfl:k=n:=by have:=HN.out;omega
   rw[<- HN.out,Yek,HN.out];go_wp2_with fail
   refine CG.out.mono ?_;rintro e w2 ⟨nv,rfl,hC⟩;have H2:=Zaa hC;clear hC CG;obtain⟨tot,htot⟩: ∃ tot,Zf6 xs=tot:=⟨_,rfl⟩;rw[htot]at H2⊢;go_wp2
   go_loopw [27,6] (fun iv nv wr=>Z17 115 4 w xs iv nv wr) (fun iv _ _=>xs.length - (intOf iv).toNat)
   case atStart=>exact⟨0,by omega,rfl,by rw[htot];exact H2.out⟩
   case round=>
    clear H2;obtain⟨j,hj,rfl,hC⟩:=hrel;by_cases hlt:j < k
    ·have g:(j:Int) < (k:Int):=by omega
     obtain⟨x,hx⟩: ∃ x,xs[j]?=some x:=⟨xs[j]'(by have:=HN.out;omega),Ydi _⟩;obtain⟨hbw,v,hc,hv⟩:=HX.out j x hx;have hc':=(hC.1.cell hbw).trans hc;obtain⟨nv',w4,hrun,hC'⟩:=hC.step (t:=42) (tx:=42) underlying42 Zn7 ((hv.below hC.1).src underlying42) (Zen hx).2;rw[<- (Zen hx).1,<- Zlp hx]at hC';obtain⟨p,c1,rfl,hn1,hr⟩:=hv;have H4:=Zaa hC';have hrun:=Zaa hrun;clear hC hc hC' hx hr;go_wp2_with (at_builtin;refine Lib.wpList_append_run _ rfl _ _ _ _ rfl _ _ rfl rfl _ _ (hrun.out _) ?_)
     exact⟨⟨j+1,by have:=HN.out;omega,by simp,H4.out⟩,by simp[intOf];have:=HN.out;omega⟩
    ·obtain rfl:j=k:=by have:=HN.out;omega
     have H4:=Zaa hC;clear hC;go_wp2
     go_ret
     have:=H4.out
     rw[<- HN.out,Yek]at this;exact⟨u6,rfl,this⟩
end Go.P
namespace Go.W
variable {s:Nat}
theorem Zya: ∀ (vss:List (List Value)),(∀ v,v∈vss->v.length=s)-> ∀ j u,vss.flatten[j]?=some u-> ∃ i r v,j=i*s+r/\vss[i]?=some v/\v[r]?=some u
 | [],_,j,u,h=>by simp at h
 | v::l,hv,j,u,h=>by
  have h0:=hv v (by simp);rw[List.flatten_cons]at h;by_cases hj:j < v.length
  ·rw[Yd4 hj]at h;exact⟨0,j,v,by simp,by simp,h⟩
  ·rw[Yd1 (by omega)]at h;obtain⟨i,r,v',e,h1,h2⟩:=Zya l (fun v hm=>hv v (by simp[hm])) _ _ h;exact⟨i+1,r,v',by rw[Nat.succ_mul];omega,by simpa using h1,h2⟩
theorem Zyc: ∀ (vss:List (List Value)),(∀ v,v∈vss->v.length=s)-> ∀ i v r u,vss[i]?=some v->v[r]?=some u->vss.flatten[i*s+r]?=some u
 | [],_,i,v,r,u,h,_=>by simp at h
 | v0::l,hv,0,v,r,u,h,h2=>by
  simp at h;subst h;rw[List.flatten_cons,Yex,Yd7,Yd4 (Ydl.1 h2).1];exact h2
 | v0::l,hv,i+1,v,r,u,h,h2=>by
  have h0:=hv v0 (by simp);rw[List.flatten_cons,Yd1 (by rw[Nat.succ_mul];omega),show(i+1)*s+r - v0.length=i*s+r by rw[Nat.succ_mul];omega];exact Zyc l (fun v hm=>hv v (by simp[hm])) i v r u (by simpa using h) h2
theorem Zyb: ∀ (vss:List (List Value)),(∀ v,v∈vss->v.length=s)->vss.flatten.length=vss.length*s
 | [],_=>by simp
 | v::l,hv=>by rw[List.flatten_cons,Yeg,hv v (by simp),Zyb l fun v hm=>hv v (by simp[hm])];simp[Nat.succ_mul];omega
theorem Ztq {α β:Type}{R:α->β->Prop}: ∀ (xs:List α),(∀ (i:Nat) x,xs[i]?=some x-> ∃ y,R x y)-> ∃ ys:List β,ys.length=xs.length/\ ∀ (i:Nat) x,xs[i]?=some x-> ∃ y,ys[i]?=some y/\R x y
 | [],_=>⟨[],rfl,fun i x h=>by simp at h⟩
 | x::l,h=>by
  obtain⟨y,hy⟩:=h 0 x rfl;obtain⟨ys,h1,h2⟩:=Ztq l fun i z hz=>h (i+1) z (by simpa using hz);refine⟨y::ys,by simp[h1],fun i z hz=>?_⟩;cases i with
  | zero=>simp at hz;subst hz;exact⟨y,rfl,hy⟩
  | succ i=>simpa using h2 i z (by simpa using hz)
theorem Zan.sl {α:Type}{c:Nat}{w:World}{p:Option Addr}{Q:Nat->Nat->α->Prop}{S:List Value->α->Prop}{xs:List α}(h:Zan s Q p xs)(hv: ∀ b o x,Q b o x->b < w.heap.size/\ ∃ vs:List Value,(vs.length=s/\(∀ u,u∈vs->u.oneCell'=true)/\S vs x)/\ ∀ j u,vs[j]?=some u->w.cell? ⟨b,o+j,none⟩=some u)(hl:xs.length < 1000000)(hp:p=none->xs=[]): ∃ vss:List (List Value),vss.length=xs.length/\(∀ v,v∈vss->v.length=s)/\(∀ (i:Nat) x,xs[i]?=some x-> ∃ vs,vss[i]?=some vs/\S vs x)/\Zs5 s w (.slice p xs.length c) xs.length vss.flatten:=by
 cases p with
 | none=>
  obtain rfl:=hp rfl;exact⟨[],rfl,fun _ h=>(by cases h),fun i x h=>(by simp at h),none,c,rfl,by simp,by simp,fun _ h=>(by simp at h),fun _ h=>(by cases h),fun _=>rfl⟩
 | some a=>
  by_cases h0:xs=[]
  ·subst h0;exact⟨[],rfl,fun _ h=>(by cases h),fun i x h=>(by simp at h),some a,c,rfl,by simp,by simp,fun _ h=>(by simp at h),fun _ _ j u h=>(by simp at h),fun h=>(by cases h)⟩
  ·obtain⟨x0,hx0⟩: ∃ x0,xs[0]?=some x0:=⟨_,Ydi (List.length_pos_iff.2 h0)⟩;obtain⟨b,o,e,hq0⟩:=h.at_ 0 x0 hx0;injection e with e;subst e;have hb:=(hv _ _ _ hq0).1;obtain⟨ps,h1,h2⟩:=Ztq (R:=fun(ix:Nat×α) (vs:List Value)=>(vs.length=s/\(∀ u,u∈vs->u.oneCell'=true)/\S vs ix.2)/\ ∀ j u,vs[j]?=some u->w.cell? ⟨b,o+ix.1*s+j,none⟩=some u) ((List.range xs.length).zip xs) fun i ix hix=>by
    obtain⟨h3,h4⟩:=List.getElem?_zip_eq_some.1 hix;obtain⟨b',o',e,hq⟩:=h.at_ i ix.2 h4;injection e with e;injection e with e1 e2;subst e1 e2
    have:ix.1=i:=by rw[List.getElem?_range (by have:=(Ydl.1 h4).1;omega)]at h3;injection h3 with h3;exact h3.symm
    rw[this];exact(hv _ _ _ hq).2
   have hps:ps.length=xs.length:=by rw[h1];simp
   have key: ∀ i v,ps[i]?=some v-> ∃ x,xs[i]?=some x/\(v.length=s/\(∀ u,u∈v->u.oneCell'=true)/\S v x)/\ ∀ j u,v[j]?=some u->w.cell? ⟨b,o+i*s+j,none⟩=some u:=fun i v hi=>by
    have hlt:i < xs.length:=by have:=(Ydl.1 hi).1;omega
    obtain⟨v',hv',hR,hcell⟩:=h2 i (i,xs[i]) (List.getElem?_zip_eq_some.2 ⟨List.getElem?_range hlt,Ydi hlt⟩);rw[hi]at hv';injection hv' with hv';subst hv';exact⟨xs[i],Ydi hlt,hR,hcell⟩
   have hlen: ∀ v,v∈ps->v.length=s:=fun v hm=>by
    obtain⟨i,hi⟩:=List.getElem?_of_mem hm;obtain⟨_,_,h3,_⟩:=key i v hi;exact h3.1
   refine⟨ps,hps,hlen,fun i x hx=>?_,some ⟨b,o,none⟩,c,rfl,hl,by rw[Zyb ps hlen,hps],fun u hu=>?_,fun a' e j u hj=>?_,fun h=>(by cases h)⟩
   ·have hlt:i < ps.length:=by have:=(Ydl.1 hx).1;omega
    obtain⟨x',hx',h3,_⟩:=key i _ (Ydi hlt);rw[hx]at hx';injection hx' with hx';subst hx';exact⟨_,Ydi hlt,h3.2.2⟩
   ·obtain⟨v,hv1,hv2⟩:=List.mem_flatten.1 hu;obtain⟨i,hi⟩:=List.getElem?_of_mem hv1;obtain⟨_,_,h3,_⟩:=key i v hi;exact h3.2.1 u hv2
   ·injection e with e;subst e;obtain⟨i,r,v,rfl,h3,h4⟩:=Zya ps hlen j u hj;obtain⟨_,_,_,h5⟩:=key i v h3;refine⟨hb,?_⟩
    have:=h5 r u h4
    rwa [show(Addr.mk b o none).add (i*s+r)=⟨b,o+i*s+r,none⟩from by simp[Addr.add_lit,Nat.add_assoc]]
end Go.W
namespace Go.P
theorem Zsd (w:World):(Instr.makeMap 313 none).run prog w= .ok (.map (some w.heap.size)) (w.alloc (.map #[] 0)):=by kernel_rfl
theorem Ziv (w:World):(Instr.makeMap 314 none).run prog w= .ok (.map (some w.heap.size)) (w.alloc (.map #[] 0)):=by kernel_rfl
theorem Zuj (w:World):Calls prog 187 #[] w fun e w'=>e= .returned (.pointer (some ⟨w.heap.size+2,0,none⟩))/\w'=((w.alloc (.map #[] 0)).alloc (.map #[] 0)).alloc (.cells #[.slice none 0 0,.map (some w.heap.size),.slice none 0 0,.map (some (w.heap.size+1))] 317):=by
 have h1:=Zsd w;have h2:=fun o=>Ziv (w.alloc o);go_in
 go_wp2
 go_ret
 exact⟨rfl,rfl⟩
theorem Zie (n:Nat)(hn:n<=60)(w:World):Calls prog 246 #[.int .i64 (n:Int)] w fun e w'=>e= .returned (.int .u64 ((2 ^ n - 1:Nat):Int))/\w'=w:=by
 have h0:(1:Nat)<=2 ^ n:=Nat.one_le_two_pow;have h1:(2:Nat) ^ n<=2 ^ 60:=Nat.pow_le_pow_right (by decide) hn;have e0:((2:Int) ^ n)=((2 ^ n:Nat):Int):=by simp
 have e1:IntKind.u64.wrap ((2:Int) ^ n)=((2 ^ n:Nat):Int):=by
  rw[e0];generalize (2:Nat) ^ n=m at*;rw[IntKind.wrap_u64];omega
 have e2:IntKind.u64.wrap (((2 ^ n:Nat):Int) - 1)=((2 ^ n - 1:Nat):Int):=by
  clear e0 e1;generalize (2:Nat) ^ n=m at*;rw[IntKind.wrap_u64];omega
 have E:=Zaa (Yda e1 e2);clear e0 e1 e2;go_in
 go_wp2
 go_ret
 exact⟨by rw[<- E.out.2,<- E.out.1];rfl,rfl⟩
end Go.P
namespace Go.W
def Zgw (w:World) (r:Nat) (bs:List ByteArray):Prop:= ∃ es clock,w.heap[r]?=some (.map es clock)/\es.toList.map (fun e=>(e.key,e.val))=bs.mapIdx fun i b=>(Value.string b,Value.int .i64 (i:Int))
def Zjq (s:ByteArray):List ByteArray->Nat->Option Nat
 | [],_=>none
 | b::bs,i=>if s=b then some i else Zjq s bs (i+1)
theorem Zj0 (s:ByteArray): ∀ (l:List MapEntry) (bs:List ByteArray) (i:Nat),l.map (fun e=>(e.key,e.val))=bs.mapIdx (fun j b=>(Value.string b,Value.int .i64 ((j+i:Nat):Int)))->Instr.findNow .string (.string s) l i=some ((Zjq s bs i).map fun(k:Nat)=>(k,Value.int .i64 (k:Int)))
 | [],bs,i,h=>by
  have:bs=[]:=by
   have:=congrArg List.length h
   simp at this;exact Yds this.symm
  subst this;rfl
 | e::l,[],i,h=>by simp at h
 | e::l,b::bs,i,h=>by
  rw[List.map_cons,List.mapIdx_cons]at h;injection h with h1 h2;injection h1 with hk hv;have ih:=Zj0 s l bs (i+1) (by rw[h2];congr 1;funext j b;congr 3;omega);obtain⟨r,hr,hiff⟩:=Go.MapKept.sameNow_of_keys (d:= .string) (a:= .string s) (b:= .string b) trivial trivial;unfold Instr.findNow Zjq;rw[hk,hr];cases r with
  | true=>
   obtain rfl:s=b:=by injection hiff.1 rfl
   rw[if_pos rfl,hv];simp
  | false=>
   rw[if_neg (fun e=>by have:=hiff.2 (by rw[e]);cases this)];exact ih
end Go.W
namespace Go.P
variable {w:World}{r:Nat}{bs:List ByteArray}
theorem Z0t (h:Zgw w r bs)(s:ByteArray):(Instr.lookup 314 (.map (some r)) (.string s) true).run prog w= .ok (.tuple #[.int .i64 (((Zjq s bs 0).getD 0:Nat):Int),.bool (Zjq s bs 0).isSome]) w:=by
 obtain⟨es,clock,hb,hm⟩:=h;have hf:=Zj0 s es.toList bs 0 (by simpa using hm);have hz:(zeroValue 3).run prog w= .ok (.int .i64 0) w:=by kernel_rfl
 have hck:=Go.MapKept.run_checkKey (P:=prog) (w:=w) underlying9 (k:= .string s) trivial es.isEmpty 9999;have hgo:=Yef (P:=prog) hb;have hfk:=Go.MapKept.run_findKey (P:=prog) (w:=w) underlying9 hf;have hck:(Instr.checkKey es.isEmpty 10000 9 (.string s)).run prog w= .ok () w:=hck;cases hp:Zjq s bs 0 with
 | none=>
  rw[hp]at hfk;simp only[Option.map_none]at hfk;simp[Instr.lookup,Yff underlying314,hgo,hfk,hz,hck]
 | some k=>
  rw[hp]at hfk;simp only[Option.map_some]at hfk;simp[Instr.lookup,Yff underlying314,hgo,hfk,hck]
theorem Z1r (h:Zgw w r bs)(s:ByteArray)(hp:Zjq s bs 0=none): ∃ o,(Instr.mapUpdate 314 (.map (some r)) (.string s) (.int .i64 (bs.length:Int))).run prog w= .ok () {w with heap:=w.heap.setIfInBounds r o}/\Zgw {w with heap:=w.heap.setIfInBounds r o} r (bs++[s]):=by
 obtain⟨es,clock,hb,hm⟩:=h;have hf:=Zj0 s es.toList bs 0 (by simpa using hm);rw[hp]at hf;have hck:=Go.MapKept.run_checkKey (P:=prog) (w:=w) underlying9 (k:= .string s) trivial false 9999;replace hck:(Instr.checkKey false 10000 9 (.string s)).run prog w= .ok () w:=hck
 have hgo:=Yef (P:=prog) hb;have hfk:=Go.MapKept.run_findKey (P:=prog) (w:=w) underlying9 hf;simp only[Option.map_none]at hfk;have hso:=Go.MapKept.run_setObj_map (P:=prog) (.map (es.push {key:= .string s,val:= .int .i64 (bs.length:Int),born:=clock}) (clock+1)) hb;refine⟨.map (es.push {key:= .string s,val:= .int .i64 (bs.length:Int),born:=clock}) (clock+1),?_,es.push {key:= .string s,val:= .int .i64 (bs.length:Int),born:=clock},clock+1,(Go.MapKept.heap_set hb).1,?_⟩
 ·simp[Instr.mapUpdate,Yff underlying314,hgo,hck,hfk,hso]
 ·simp[hm]
end Go.P
namespace Go.P
variable {t:ByteArray}{q:Nat}
theorem Zj2 (c:Nat)(w:World):Calls prog 123 #[.int .u8 (c:Int)] w fun e w'=>e= .returned (.bool (Zcr c))/\w'=w:=by
 go_in
 go_wp2
 all_goals (go_ret;exact⟨Zb7 (by rw[Bool.eq_iff_iff];simp[Zcr];omega),rfl⟩)
theorem Zj1 (c:Nat)(w:World):Calls prog 127 #[.int .u8 (c:Int)] w fun e w'=>e= .returned (.bool (Za1 c))/\w'=w:=by
 go_in
 go_wp2
 all_goals (go_ret;exact⟨Zb7 (by rw[Bool.eq_iff_iff];simp[Za1];omega),rfl⟩)
theorem Zhz (c:Nat)(w:World):Calls prog 163 #[.int .u8 (c:Int)] w fun e w'=>e= .returned (.bool (Zb2 c))/\w'=w:=by
 go_in
 go_wp2
 all_goals (go_ret;exact⟨Zb7 (by rw[Bool.eq_iff_iff];simp[Zb2,Zcr,Za1];omega),rfl⟩)
theorem Z6q (h:q < t.size)(hq:Z6v (Zac t) q=false):false=Zdm t:=by
 unfold Zdm;rw[Yfg (fun hall=>by rw[hall q h]at hq;cases hq)];rfl
def Zrl (w:World) (t:ByteArray) (wr:World):Prop:= ∃ q,q<=t.size/\wr=w.iter t q/\ ∀ i,i < q->Z6v (Zac t) i=true
theorem Zrl.next {w:World}{ok:Bool}(hall: ∀ i,i < q->Z6v (Zac t) i=true)(hlt:q < t.size)(h:Z6v (Zac t) q=ok)(hok:ok=true):Zrl w t (w.iter t (q+1)):=
 ⟨q+1,hlt,rfl,fun i hi=>by
  by_cases hiq:i=q
  ·rw[hiq,h,hok]
  ·exact hall i (by omega)⟩
theorem Zls (t:ByteArray)(w:World)(ht:t.size < 1000000000):Calls prog 167 #[.string t] w (fun e w'=>e= .returned (.bool (Zdm t))/\Below w.heap.size w w'):=by
 have E0:=Zec t;by_cases h0:t.size=0
 ·have h:t.toList=[]:=Yds ((Zd7 t).trans h0);clear E0;go_in
  go_wp2
  go_ret
  exact⟨Zb7 (by simp[Zdm,h0]),Ydb _ _⟩
 have h: ¬ t.toList=[]:=fun q=>h0 ((Zd7 t).symm.trans (by rw[q];rfl));clear E0;by_cases h16:t.size<=16
 ·have g1:t.toList.isEmpty=false:=by simp[h]
  have g2:decide ((16:Int) < (t.size:Int))=false:=by simp;omega
  go_in
  go_wp2
  go_loopw [3] (fun _ wr=>Zrl w t wr) (fun _ wr=>t.size - wr.iterPos w.heap.size)
  case atStart=>exact⟨0,by omega,rfl,fun i hi=>absurd hi (by omega)⟩
  case round=>
   obtain⟨q,hq,rfl,hall⟩:=hrel;by_cases hlt:q < t.size
   ·have hx:=Zhm t q hlt;have HN:=Zaa (fun h=>Z6q (q:=q) hlt h);have HO:Box (Z6v (Zac t) q=(Zcr ((Zac t).getD q 0) || (decide (q≠0) && (Za1 ((Zac t).getD q 0) || decide ((Zac t).getD q 0=95))))):=⟨rfl⟩;have hn:=fun ty=>run_next_any (P:=prog) w t q ty hlt;have h256:=Zrq t q;have FI:=Zaa (fun ok (h:Z6v (Zac t) q=ok) (hk:ok=true)=>Zrl.next (w:=w) hall hlt h hk);by_cases h128:(Zac t).getD q 0 < 128
    ·have e:Utf8.decode t q=((Zac t).getD q 0,1):=by
      rw[<- hx]at h128⊢;simp only[Utf8.decode,get_at t q hlt,if_pos h128]
     rw[e]at hn;clear e hx;generalize (Zac t).getD q 0=x at*;have S:Box (Zb2 x=(Zcr x || Za1 x || decide (x=95))):=⟨rfl⟩;have n128: ¬ (128:Int)<=(x:Int):=by omega
     generalize Z6v (Zac t) q=ok at*;have C1:=Zaa (Zhz x);have C2:=Zaa (Zj2 x);generalize Zcr x=b1 at*;generalize Za1 x=b2 at*;generalize Zb2 x=b3 at*;clear hall;by_cases hq0:q=0
     ·have q0:((q:Int)==0)=true:=by rw[Yfb];omega
      have HO1:Box (ok=b1):=⟨by rw[HO.out];simp[hq0]⟩;clear HO hq0;cases b1 with
      | true=>
       obtain rfl:b3=true:=by rw[S.out];rfl
       go_wp2_with (first | (go_at_call 163;refine(C1.out _).mono ?_;rintro e w' ⟨rfl,rfl⟩) | (go_at_call 123;refine(C2.out _).mono ?_;rintro e w' ⟨rfl,rfl⟩))
       go_roundw
       case rel=>exact FI.out _ rfl HO1.out
       case measure=>simp;omega
      | false=>
       clear S;cases b3;all_goals
        go_wp2_with (first | (go_at_call 163;refine(C1.out _).mono ?_;rintro e w' ⟨rfl,rfl⟩) | (go_at_call 123;refine(C2.out _).mono ?_;rintro e w' ⟨rfl,rfl⟩))
        go_ret
        exact⟨Zb7 (HN.out HO1.out),Zi6 _ _ _⟩
     ·have q0:((q:Int)==0)=false:=by rw[Ye4];omega
      have HO1:Box (ok=b3):=⟨by rw[HO.out,S.out];simp[hq0,Bool.or_assoc]⟩;clear HO hq0 S;cases b3 with
      | true=>
       go_wp2_with (go_at_call 163;refine(C1.out _).mono ?_;rintro e w' ⟨rfl,rfl⟩)
       go_roundw
       case rel=>exact FI.out _ rfl HO1.out
       case measure=>simp;omega
      | false=>
       go_wp2_with (go_at_call 163;refine(C1.out _).mono ?_;rintro e w' ⟨rfl,rfl⟩)
       go_ret
       exact⟨Zb7 (HN.out HO1.out),Zi6 _ _ _⟩
    ·have e:=(decode_high t q hlt (by rw[hx];omega)).1;have e2:(128:Int)<=((Utf8.decode t q).1:Int):=by omega
     have NO:Box (Z6v (Zac t) q=false):=⟨by
      rw[HO.out];generalize (Zac t).getD q 0=x at*;simp[Zcr,Za1]
      omega⟩
     go_wp2
     go_ret
     exact⟨Zb7 (HN.out NO.out),Zi6 _ _ _⟩
   ·obtain rfl:q=t.size:=by omega
    have hn:=fun ty=>run_next_end (P:=prog) w t t.size ty (by omega);have HY:Box (true=Zdm t):=⟨by unfold Zdm;rw[Yfj hall,Yfj (by omega:1<=t.size),Yfj h16];rfl⟩;go_wp2
    go_ret
    exact⟨Zb7 HY.out,Zi6 _ _ _⟩
 ·have g2:(16:Int) < (t.size:Int):=by omega
  have g1:t.toList.isEmpty=false:=by simp[h]
  go_in
  go_wp2
  go_ret
  exact⟨Zb7 (by unfold Zdm;rw[Yfg h16];simp),Ydb _ _⟩
end Go.P
namespace Go.W
def Z2g (c:Nat):Bool:=decide (c=32) || decide (c=9) || decide (c=10) || decide (c=13)
def Zdj (c:Nat):Nat:=if Za1 c then c - 48 else c - 87
def Zjy (s:ByteArray):Bool:=s.toList==[116,114,117,101] || s.toList==[102,97,108,115,101]
def Z0s (s:ByteArray):Bool:=s.toList==[99,104,101,99,107] || s.toList==[97,108,108,111,119] || s.toList==[100,101,110,121] || s.toList==[105,102] || s.toList==[111,114] || s.toList==[116,114,117,101] || s.toList==[102,97,108,115,101] || s.toList==[104,101,120]
end Go.W
namespace Go.P
theorem Zwj (c:Nat)(w:World):Calls prog 159 #[.int .u8 (c:Int)] w fun e w'=>e= .returned (.bool (Z2g c))/\w'=w:=by
 go_in
 go_wp2
 all_goals (go_ret;exact⟨Zb7 (by rw[Bool.eq_iff_iff];simp[Z2g];omega),rfl⟩)
theorem Zmz (c:Nat)(w:World):Calls prog 162 #[.int .u8 (c:Int)] w fun e w'=>e= .returned (.bool (decide (c≠10)))/\w'=w:=by
 go_in
 go_wp2
 all_goals (go_ret;exact⟨Zb7 (by rw[Bool.eq_iff_iff];simp;omega),rfl⟩)
theorem Zua (c:Nat)(w:World):Calls prog 198 #[.int .u8 (c:Int)] w fun e w'=>e= .returned (.bool (Zdk c))/\w'=w:=by
 go_in
 go_wp2
 all_goals (go_ret;exact⟨Zb7 (by rw[Bool.eq_iff_iff];simp[Zdk,Za1];omega),rfl⟩)
theorem Zmb (c:Nat)(h:Zdk c=true)(w:World):Calls prog 199 #[.int .u8 (c:Int)] w fun e w'=>e= .returned (.int .u8 (Zdj c:Nat))/\w'=w:=by
 have C:=Zaa (Zj1 c);have hc:Zdj c < 16:=by
  simp[Zdk,Za1]at h;unfold Zdj Za1;split <;> simp_all <;> omega
 cases hd:Za1 c;all_goals
  rw[hd]at C;go_in
  go_wp2_with (first | (go_at_call 127;refine(C.out _).mono ?_;rintro e w' ⟨rfl,rfl⟩))
  go_ret
  refine⟨?_,rfl⟩;have hh:Zdj c=c - (if Za1 c then 48 else 87):=by unfold Zdj;split <;> rfl
  rw[hd]at hh;simp only[Zdk,hd]at h;simp[Za1]at h hd hh;simp[hh];omega
theorem Zqv (s:ByteArray)(w:World):Calls prog 176 #[.string s] w fun e w'=>e= .returned (.bool (Zjy s))/\w'=w:=by
 go_in
 go_wp2
 all_goals go_ret
 all_goals exact⟨Zb7 (by simp_all [Zjy]),rfl⟩
theorem Z0r (s:ByteArray)(w:World):Calls prog 173 #[.string s] w fun e w'=>e= .returned (.bool (Z0s s))/\w'=w:=by
 go_in
 go_wp2
 all_goals go_ret
 all_goals exact⟨Zb7 (by simp_all [Z0s]),rfl⟩
theorem Ztf (b:Bool)(w:World):Calls prog 237 #[.bool b] w fun e w'=>e= .returned (.agg #[.int .i64 6,.int .i64 (if b then 1 else 0),.string ⟨#[]⟩,.slice none 0 0])/\Below w.heap.size w w':=by
 cases b;all_goals
  go_in
  go_wp2_with fail
  all_goals refine Ye6 (by simp[results,results237,go_sem];try rfl) rfl ?_
  all_goals exact⟨rfl,(Ydb _ w).alloc lr _⟩
end Go.P
