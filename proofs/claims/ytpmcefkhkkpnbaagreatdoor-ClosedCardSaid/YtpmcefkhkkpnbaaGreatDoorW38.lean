import Derived.Test.YtpmcefkhkkpnbaaGreatDoorW37
set_option linter.all false
set_option maxRecDepth 100000
set_option maxHeartbeats 8000000
open Go.Proofs Go.RowKit Go.W Tryz
namespace Go.W
variable {l r:By}
def Z76 (f:Ay->Ay): ∀ (l:List (Ay×Bk)),cat f (l.map (·.1))=cat (fun y=>f y.1) l
 | []=>rfl
 | x::l=>by rw[xp,cat,cat,Z76 f l]
def Z7i (y:Ay×Bk):Prop:=Qn (bl y.1)= .ok y.2/\y.1.size<=4000
def Zx6 {y:Ay×Bk}(h:Sv l= .ok (y,r)):l=bl (Em y.1)++r/\Z7i y:=by
 obtain⟨n,s,h1,h2⟩:=Xv h;obtain⟨rfl,_⟩:=Zrc _ _ _ h1;split at h2
 .cases h2
 .rename_i hn;obtain⟨t,s',h3,h4⟩:=Xv h2;obtain⟨rfl,rfl⟩:=Zrv h3;cases hx:Qn t with
  | error e=>simp only[Xh,hx]at h4;cases h4
  | ok x=>
   simp only[Xh,hx]at h4;cases h4;refine⟨?_,by rw[kP];exact hx,by rw[Uk];omega⟩;unfold Em;rw[J2,kP,Uk,JB]
def Z9i:xc Sv (fun y=>Em y.1):=fun _ _ _ h=>(Zx6 h).1
def Z3o {α:Type}{f:De α}{P:α->Prop}(hf: ∀ l x r,f l= .ok (x,r)->P x): ∀ (n:Nat) (l:By) (xs:List α) (r:By),FR f n l= .ok (xs,r)-> ∀ x,x∈xs->P x
 | 0,l,xs,r,h=>by cases h;exact fun _ h=>by cases h
 | n+1,l,xs,r,h=>by
  obtain⟨x,s,h1,h2⟩:=Xv h;obtain⟨ys,h3,rfl⟩:=uZ h2;intro z hz;rcases Ak.1 hz with rfl | hz
  ·exact hf _ _ _ h1
  ·exact Z3o hf n s ys r h3 z hz
def Z9m {α:Type}{f:De α}{P:α->Prop}{m:Nat}{xs:List α}(hf: ∀ l x r,f l= .ok (x,r)->P x)(h:DF m f l= .ok (xs,r)):xs.length<=m/\ ∀ x,x∈xs->P x:=by
 obtain⟨n,s,h1,h2⟩:=Xv h;split at h2
 .cases h2
 .refine⟨?_,Z3o hf _ _ _ _ h2⟩
  have: ∀ (n:Nat) (l:By) (xs:List α) (r:By),FR f n l= .ok (xs,r)->xs.length=n:=by
   intro n;induction n with
   | zero=>intro l xs r h;cases h;rfl
   | succ n ih=>
    intro l xs r h;obtain⟨x,s,h1,h2⟩:=Xv h;obtain⟨ys,h3,rfl⟩:=uZ h2;simp[ih _ _ _ h3]
  rw[this _ _ _ _ h2];omega
def Zw9 {ch:Ch}(h:GZ Hu l= .ok ch):ba l=KT ch.sealed (ch.links.map (·.1)) ch.tag/\ch.tag.length=32/\ch.links≠[]/\ch.links.length<=8/\ ∀ y,y∈ch.links->Z7i y:=by
 unfold GZ at h;split at h
 .cases h
 rename_i x r hx;split at h
 .rename_i hr;cases h;subst hr;obtain⟨m,s1,h1,h2⟩:=Xv hx;obtain⟨rfl,hm⟩:=Zrv h1;split at h2
  .cases h2
  rename_i aI;have zD:m=Nr:=by simpa using aI
  subst zD;obtain⟨b,s2,h3,h4⟩:=Xv h2;obtain⟨rfl,hb⟩:=Z72 h3;unfold fP at h4;split at h4
  .cases h4
  rename_i hb1;obtain⟨ys,s3,h5,h6⟩:=Xv h4;have h7:=Z9m (P:=Z7i) (fun _ _ _ h=>(Zx6 h).2) h5;have h8:=Z9n Z9i 8 _ _ _ h5;subst h8;unfold jU at h6;split at h6
  .cases h6
  rename_i hz;obtain⟨t,h9,rfl⟩:=uZ h6;obtain⟨rfl,ht⟩:=Zrv h9;refine⟨?_,ht,fun e=>hz (by have e':ys=[]:=e;rw[e'];rfl),h7.1,h7.2⟩;have hs:b1 (if(b==1)=true then 1 else 0)=b1 b:=by
   have:b=0\/b=1:=zx
   rcases this with rfl | rfl <;> rfl
  show ba (Nr++(bl (b1 b)++(bl (BO (fun y:Ay×Bk=>Em y.1) ys)++(t++[]))))=KT (b==1) (ys.map (·.1)) t;unfold KT;rw[hs];have zg:BO Em (ys.map (·.1))=BO (fun y:Ay×Bk=>Em y.1) ys:=by
   unfold BO;rw[Z76,Dj]
  rw[zg,List.append_nil];rw[<- WY (((ba Nr++b1 b)++BO (fun y:Ay×Bk=>Em y.1) ys)++ba t),J2,J2,J2,kP,kP];simp only[JB]
 .cases h
def SG (l:By):Except Int Ch:=match GZ Hu l with
 | .error n=> .error n
 | .ok x=>if x.sealed then .error 9 else .ok x
def Zte: ∀ u:Bb,(Instr.build 118 #[]).run prog u= .ok (.agg BH) u:=fun u=>zt
def Zy4 (V:D9)(CL:Gg){a:Nat->Addr}{w:Bb}{l:By}(Z:AZ a w)(hl:l.length<1000000000):Calls prog 41 #[.string<|ba l] w (vW a w<|SG l):=by
 cases hx:GZ Hu l with
 | ok x=>
  cases hs:x.sealed with
  | false=>
   have:=Z1q V CL Z hl hx hs
   rwa [show SG l= .ok x by unfold SG;rw[hx];simp[hs]]
  | true=>
   rw[show SG l= .error 9 by unfold SG;rw[hx];simp[hs]];have B0:=fun o=>zv w o;have C:=AC fun o=>j6 V CL (Z.be<|B0 o) hl;have L0:=AO.new w BH 118;have HX:=AC hx;have HZ:=AC Z;clear Z V CL hx;go_in
   go_wp2_with fail
   apply(C.o<|.cells BH 118).mono;rintro e w1 ⟨hb1,⟨n,hy,hn,rfl⟩ | ⟨y,vs,F,hy,rfl,hQ,hN⟩⟩
   .rw[HX.o]at hy;cases hy
   obtain rfl:y=x:=by rw[HX.o]at hy;exact((Except.ok.inj hy)).symm
   obtain⟨ha1,ha2,VP⟩:=VZ.arr hQ;have L1:=L0.of<|hb1.block _ L0.lt;have BB:=AC<|(B0<|.cells BH 118).trans<|hb1.mono zw;obtain⟨CV,Dt⟩:=cK (vs.toArray);have c0:CV[0]?=some (.bool true):=by
    obtain⟨v,rfl,_⟩:=hQ;rw[<- Dt.o,hs];rfl
   rw[Dt.o]at ha1 ha2 VP⊢;have S1:=AO.new w1 BH 118;have x0: ∀ cs t,((w1.alloc<|.cells cs t).setRow w1.heap.size CV).cell? (zm w1.heap.size 0)=some (.bool true):=fun cs t=>(AO.cell (GM _ _ _ CV _ _<|AO.new w1 cs t) 0).trans c0;have BE:=(BB.o.alloc BB.o.size<|.cells BH 118).Ar CV BB.o.size;have ce:=(HZ.o.be BE).c9;have L2:=(L1.alloc<|.cells BH 118).of<|Db (w1.alloc<|.cells BH 118) w1.heap.size w.heap.size CV (fw (L1.lt));have HBE:=AC BE;clear hb1 hy C L0 hQ hN BE;go_wp2_with (first
    | (refine Ij rfl 118 (.tmp 4) (.tmp 9) rfl w1.heap.size CV rfl rfl 118 BH S1 VP (by rw[ha1];rfl) ha2 ?_))
   change Code.wp _ _ _ _ ((w1.alloc<|.cells BH 118).setRow w1.heap.size CV);generalize (w1.alloc<|.cells BH 118).setRow w1.heap.size CV=W2 at*;rw[BU _ zu]at ce;refine Zh (S:=fun u=>u.cell? (zm 8 0)=some (.iface 430<|.pointer<|some<|a<|(9:Int).toNat-1)) zt ?_;change wpAnyH _ _ _ _ _ _ _ _ (World.drew _);refine wpAnyH_take (i:=0) (v:= .agg BH) rfl zt zt zt (fun _ _ _ h=>h) (Zho rfl 118 #[] rfl #[] zw fun u _=>Zte u) ce ?_;try simp only[zz]
   refine zE 1 (.iface 430<|.pointer<|some<|a<|(9:Int).toNat-1) ce ?_
   refine yr 2 fun K' hK'=>?_;refine Zhl rfl 118 (.tmp 2) (.tmp 17) rfl w.heap.size BH rfl rfl 118 BH L2 Zf rfl zt ?_;refine hK'.o _ _ ?_ fun Oy=>?_
   .exact(A9 (a:=(zm 8 0))<|Db _ _ _ _ (by have:=HZ.o.size;show 8≠_;omega)).trans ce
   try simp only[Act.put,List.getElem_toArray,List.getElem_cons_succ,List.getElem_cons_zero]
   refine zE 3 (.iface 430<|.pointer<|some<|a<|(9:Int).toNat-1) Oy ?_
   refine Uy zt ?_ _;go_wp2
   refine Bg (rC rfl _ _ _ _ _ rfl rfl<|Vo _ w.heap.size 118 118 _ _ _ (GM _ _ _ _ _ _ L2) underlying118 rfl Zf) rfl ?_;exact⟨(HBE.o.drew).Ar _ lr,Or.inl ⟨9,rfl,zu,by rw[BU _ zu];rfl⟩⟩
 | error n=>
  rw[show SG l= .error n by unfold SG;rw[hx]];have B0:=fun o=>zv w o;have C:=AC fun o=>j6 V CL (Z.be<|B0 o) hl;have L0:=AO.new w BH 118;have HX:=AC hx;clear Z V CL hx;go_in
  go_wp2_with fail
  apply(C.o<|.cells BH 118).mono;rintro e w1 ⟨hb1,⟨n',hy,hn,rfl⟩ | ⟨y,vs,F,hy,rfl,hQ,hN⟩⟩
  .obtain rfl:n'=n:=by rw[HX.o]at hy;exact(Except.error.inj hy).symm
   have L1:=L0.of<|hb1.block _ L0.lt;have BB:=AC<|(B0<|.cells BH 118).trans<|hb1.mono zw;rw[BU _ hn];have S1:=AO.new w1 BH 118;have L2:=(L1.alloc<|.cells BH 118).of<|Db (w1.alloc<|.cells BH 118) w1.heap.size w.heap.size BH (fw (L1.lt));have bz:=Zte;clear hb1 hy C L0;go_wp2_with (first
    | (refine Ij rfl 118 (.tmp 4) (.tmp 9) rfl w1.heap.size BH rfl rfl 118 BH S1 Zf rfl zt ?_)
    | (refine Ij rfl 118 (.tmp 2) (.tmp 13) rfl w.heap.size BH rfl rfl 118 BH L2 Zf rfl zt ?_))
   refine Bg (rC rfl _ _ _ _ _ rfl rfl<|Vo _ w.heap.size 118 118 _ _ _ (GM _ _ _ _ _ _ L2) underlying118 rfl Zf) rfl ?_;exact⟨((BB.o.alloc BB.o.size _).Ar _ BB.o.size).Ar _ lr,Or.inl ⟨n',rfl,hn,by rw[BU _ hn];rfl⟩⟩
  .rw[HX.o]at hy;cases hy
def Jw:Nat->List Bk->Int
 | _,[]=>0
 | n,x::xs=>if Qe n x=0 then Jw (n+1) xs else Qe n x
def Iq (l:By) (xs:List Bk):Except Int Ay:=match SG l with
 | .error n=> .error n
 | .ok ch=>if Jw ch.links.length xs=0 then .ok (KT false (ch.links.map (·.1)++xs.map A7)<|O8 ch.tag xs)else .error (Jw ch.links.length xs)
def Z7e (w:Bb) (C:Nat) (ts:List Ay) (tag:List UInt8) (xs:List Bk) (iv:Value) (wr:Bb):Prop:= ∃ (k:Nat) (v:Value) (F:Cg),k<=xs.length/\iv= zo (k:Int)/\AO wr C (DC false v<|Lib.byteCells<|O8 tag<|xs.take k) 118/\AQ 112 4 Oe wr v (ts++(xs.take k).map A7) F/\Ag w.heap.size wr F/\C∉F/\Bl w wr/\ts.length+k<=8/\Jw ts.length xs=Jw (ts.length+k) (xs.drop k)
def Zux (V:D9)(CL:Gg){a:Nat->Addr}{B D:Nat}{w:Bb}{l:By}{p:Bp}{c:Nat}{xs:List Bk}(Z:AZ a w)(hl:l.length<1000000000)(hB:B<=w.heap.size)(hrow:Ap 3 (Iz B w<|D+1) p xs):
  Calls prog 22 #[.string<|ba l,sP p xs.length c] w fun e w'=>((∃ n,Iq l xs= .error n/\n≠0/\e=uY (.tuple #[sE,BG a n]))\/ ∃ t,Iq l xs= .ok t/\e=uY (.tuple #[um t,.nilIface]))/\Bl w w':=by
 have C:=AC<|Zy4 V CL Z hl;have HU:AF (∀ y,SG l= .ok y->y.sealed=false/\GZ Hu l= .ok y):=⟨fun y hy=>by
  unfold SG at hy;split at hy
  .cases hy
  .rename_i x hx;split at hy
   .cases hy
   .rename_i hs;cases hy;exact⟨by simpa using hs,hx⟩⟩
 have ZZ:=AC Z;have HR:=AC hrow;have HV:=AC V;clear Z V CL hrow;go_in
 go_wp2_with fail
 apply C.o.mono;rintro e w1 ⟨hb1,⟨m,hy,hm,rfl⟩ | ⟨y,vs,F,hy,rfl,hQ,hN⟩⟩
 .rw[BU _ hm];have B1:=AC hb1;have HY:=AC hy;clear hb1 hy C;have S1:=AO.new w1 BH 118;go_wp2_with (refine Ij rfl 118 (.tmp 6) (.tmp 14) rfl w1.heap.size BH rfl rfl 118 BH S1 Zf rfl zt ?_)
  go_ret2
  exact⟨.inl ⟨m,by unfold Iq;rw[HY.o],hm,by rw[BU _ hm];rfl⟩,(B1.o.alloc B1.o.size _).Ar _ B1.o.size⟩
 have HSd:=AC (HU.o y hy).1;have hg:=Zw9 (HU.o y hy).2;have QY:=hg.2.2.2.1;have H7: ∀ z,z∈y.links->z.1.size<=4000:=fun z hz=>(hg.2.2.2.2 z hz).2;have EY:AF (Iq l xs=if Jw y.links.length xs=0 then .ok (KT false (y.links.map (·.1)++xs.map A7)<|O8 y.tag xs)else .error (Jw y.links.length xs)):=⟨by unfold Iq;rw[hy]⟩;obtain⟨WB,hWB⟩:=cK (KT false (y.links.map (·.1)++xs.map A7) (O8 y.tag xs));rw[hWB.o]at EY;clear hg HU;obtain⟨v,rfl,JW,hrow⟩:=hQ;obtain⟨hT,d9⟩:=AQ.texts hrow;have hvf:=AQ.form hrow;obtain⟨p1,c1,Et⟩:=hvf;have hlen:(Lib.byteCells y.tag).length=32:=by rw[xl,JW]
 have iP:AF ((Value.bool y.sealed::v::Lib.byteCells y.tag).toArray=DC false v (Lib.byteCells y.tag)):=⟨by rw[HSd.o];rfl⟩;rw[iP.o];have S1:=AO.new w1 BH 118;have Ci:=Wv false v hlen;have Bw:(DC false v<|Lib.byteCells y.tag).all (·.oneCell')=true:=by rw[Et];exact gK _ _ _ _ _
 have hsz:=Vi false v hlen;have NT:AF (Ag w.heap.size w1 v.ownBlock.toList):=⟨⟨by cases v.ownBlock <;> simp,fun k hk=>hN.ge k (d9 k hk),fun k hk=>hN.lt k (d9 k hk)⟩⟩;have HT:=AC hT;have B1:=AC hb1;clear hb1 hy hrow hT d9 hN C;obtain⟨CV,Dt⟩:=cK (DC false v (Lib.byteCells y.tag));rw[Dt.o]at Ci Bw hsz⊢;obtain⟨n,V6⟩:=cK (xs.length);rw[V6.o];go_wp2_with (refine Ij rfl 118 (.tmp 6) (.tmp 14) rfl w1.heap.size CV rfl rfl 118 BH S1 Ci (by rw[hsz];rfl) Bw ?_)
 obtain⟨W2,hW2⟩: ∃ W,(w1.alloc<|.cells BH 118).setRow w1.heap.size CV=W:=⟨_,rfl⟩;change Code.wp _ _ _ _ ((w1.alloc<|.cells BH 118).setRow w1.heap.size CV);have I0:AF (Z7e w w1.heap.size (y.links.map (·.1)) y.tag xs (zo ((0:Nat):Int)) W2):=⟨0,v,v.ownBlock.toList,Eg _,rfl,by rw[<- hW2,<- Dt.o];exact GM _ _ _ _ _ _ S1,by
   rw[<- hW2]
   have:=AQ.sb Oe.sb _ ((w1.alloc<|.cells BH 118).setRow w1.heap.size CV) _ _ _ HT.o (fun j hj=>by
    have:=NT.o.lt j hj
    rw[Db _ _ j _ zx];exact Ah _ _ _ this)
   simpa using this,by rw[<- hW2];exact NT.o.la lr (by rw[Ef];simp),fun h=>fw (NT.o.lt _ h),by rw[<- hW2];exact(B1.o.alloc B1.o.size _).Ar _ B1.o.size,by simpa using QY,zw⟩
 rw[hW2];have uR:w.heap.size<=w1.heap.size:=B1.o.size;clear hW2 S1 Ci Bw hsz HT NT;generalize w1.heap.size=C at*;generalize Value.agg CV=vCV at*;go_loopw [21] (fun iv wr=>Z7e w C (y.links.map (·.1)) y.tag xs iv wr) (fun iv _=>xs.length-(intOf iv).toNat)
 .exact I0.o
 .clear I0;obtain⟨k,v',F',hk,rfl,jI,oV,og,jJ,Af,nQ,dw⟩:=hrel;by_cases hlt:k<n
  .have g:(k:Int)<(n:Int):=zx
   have WF:k<xs.length:=fw (V6.o)
   obtain⟨b1,o1,rfl,mM⟩:=HR.o.get k WF;have hm:xs[k]∈xs:=QO WF;have GR:xs[k]?=some xs[k]:=A8 WF;obtain⟨hb1,q1,k1,q2,k2,q3,k3,z0,z1,z2,hS⟩:=(Iz.cy (Go.W.Below.cy (Af.mono hB) lr) lr mM).vals;have hZ:=ZZ.o.Rn Af ZZ.o.size;have Kv:=qy JW<|xs.take k;have hlk:(y.links.map (·.1)++(xs.take k).map A7).length=y.links.length+k:=zc
   have hl8:(y.links.map (·.1)++(xs.take k).map A7).length<=8:=by rw[hlk];simpa using nQ
   have hdr:xs.drop k=xs[k]::xs.drop (k+1):=xH WF;have HAD:AF (Jw y.links.length xs=if Qe (y.links.length+k) xs[k]=0 then Jw (y.links.length+(k+1)) (xs.drop<|k+1)else Qe (y.links.length+k) xs[k]):=⟨by
    have:=dw
    rw[hdr,Jw,Dj]at this;rw[this];rfl⟩
   have CA:=AC fun o=>Yfd HV.o (D:=D) (w:=wr.alloc o) (hZ.be<|(AR _ wr).alloc lr o) hB ZZ.o.size uR (jI.alloc o) Kv (AQ.sb Oe.sb _ _ _ _ _ oV fun j hj=>Ah _ _ _ (og.lt j hj)) (og.la lr zw) jJ (EZ.cy hS<|Qk o<|Ab hB Af.size) hl8;have HB:=AC Af;have ETG:=AC<|Z6r (tag:=y.tag) GR;have EXS:AF ((xs.take<|k+1).map A7=(xs.take k).map A7++[A7 xs[k]]):=⟨by rw[PM,GR,wb];rfl⟩;rw[hlk]at CA;clear jI oV og jJ Af mM hS hZ hm GR hl8 dw hdr hlk;generalize xs[k]=x at*;go_wp2_with fail
   apply(CA.o _).mono;rintro e w5 ⟨rfl,BX,h5⟩;by_cases h0:Qe (y.links.length+k) x=0
   case neg=>
    have bE:=AC<|(HB.o.alloc HB.o.size _).trans BX;have EE:AF (Iq l xs= .error (Qe (y.links.length+k) x)):=⟨by rw[EY.o,xd (by rw[HAD.o,xd h0];exact h0),HAD.o,xd h0]⟩;rw[BU _ h0];clear BX h5 CA;go_wp2
    go_ret2
    exact⟨.inl ⟨_,EE.o,h0,by rw[BU _ h0];rfl⟩,bE.o⟩
   have E0:AF (Qe (y.links.length+k) x=0):=⟨h0⟩;obtain⟨v5,F5,hC5,hR5,uN,o8⟩:=h5 E0.o;rw[E0.o,JR];have bE:=AC<|(HB.o.alloc HB.o.size _).trans BX;have H5:=AC<|AJ hC5<|AJ hR5<|AJ uN o8;clear BX h5 hC5 hR5 uN o8 CA;go_wp2_with fail
   refine⟨⟨k+1,v5,F5,fw (V6.o),zw,?_,?_,H5.o.2.2.1,H5.o.2.2.2,bE.o,?_,?_⟩,by simp[intOf];have:=V6.o;omega⟩
   .rw[ETG.o];exact H5.o.1
   .rw[EXS.o,<- JB];exact H5.o.2.1
   .have: ¬ y.links.length+k=8:=fun h=>by
     have:=E0.o
     rw[Qe,xj h]at this;cases this
    simp at nQ⊢;omega
   .rw[Dj,HAD.o,xj E0.o]
  .obtain rfl:k=n:=fw (V6.o)
   have EE:AF (Iq l xs= .ok WB):=⟨by rw[EY.o,xj (by have h:=dw;rw[Dj]at h;rw[h,<- V6.o,List.drop_length];rfl)]⟩;have VK:y.links.length+xs.length<=8:=by have:=V6.o;simp at nQ;omega
   rw[<- V6.o,On]at jI oV;have US:=qy JW xs;have tq:(Lib.byteCells<|O8 y.tag xs).length=32:=by rw[xl,US]
   obtain⟨p5,c5,mV,nH⟩:=AQ.links oV fun j hj=>og.lt j hj;have CW:=AC<|Zza (S:=false) (c:=c5) lr nH US<|jw false zc (fun t ht=>by
    rcases Aj.1 ht with ht | ht
    .obtain⟨z,hz,rfl⟩:=List.mem_map.1 ht;exact H7 z hz
    .obtain⟨z,hz,rfl⟩:=List.mem_map.1 ht;exact bL z) US
   rw[<- mV]at CW;rw[hWB.o]at CW;have nU:=Wv false v' tq;obtain⟨CV5,hCV5⟩:=cK (DC false v' (Lib.byteCells<|O8 y.tag xs));rw[hCV5.o]at nU jI CW;have HB:=AC Af;clear oV og jJ Af nH;go_wp2_with (refine QN rfl 118 (.tmp 6) rfl C rfl 118 CV5 (0,0) _ jI underlying118 rfl nU ?_)
   apply mq CW.o;rintro w9 WJ;have R9:=tr HB WJ;clear CW WJ jI;go_wp2
   go_ret2
   exact⟨.inr ⟨_,EE.o,rfl⟩,R9.o⟩
variable {n:Int}
def Z9h:KQ Sv:=QJ qw fun _=>Ua (bG r4) (QJ (vJ _) fun t l e h=>by
 cases hx:Qn t with
 | error n=>simp only[Xh,hx]at h;cases h;exact Z44 hx
 | ok x=>simp only[Xh,hx]at h;cases h)
def Z4u:KQ Hu:=QJ (vJ 4) fun _=>Ua (bG r7) (QJ jk fun _=>Ua (bG r7) (QJ (Zb 8 Z9h) fun _=>Ua (bG r7) (Ry<|vJ 32)))
def Zw8 (h:GZ Hu l= .error n):PO n:=by
 unfold GZ at h;split at h
 .rename_i h';cases h;exact Z4u _ _ h'
 .split at h <;> cases h
  exact r7
def YJ (n:Int):Prop:=1<=n/\n<=10
def PO.sQ (h:PO n):YJ n:=⟨h.1,by have:=h.2;omega⟩
def Yg3 (h:SG l= .error n):YJ n:=by
 unfold SG at h;split at h
 .rename_i hx;cases h;exact(Zw8 hx).sQ
 .split at h <;> cases h
  exact⟨zu,zu⟩
def Z16: ∀ (xs:List Bk) (n:Nat),Wr (Jw n xs)
 | [],_=>Vw
 | x::xs,n=>Ht (Z16 xs<|n+1) (Ht (.inr r4)<|Ht (Znz x)<|Ht (.inr r4) Vw)
def Yfh {l:By}{xs:List Bk}(h:Iq l xs= .error n):YJ n:=by
 unfold Iq at h;split at h
 .rename_i hx;cases h;exact Yg3 hx
 .split at h
  .cases h
  .rename_i ch _ hne;cases h;rcases Z16 xs ch.links.length with h | h
   .exact absurd h hne
   .exact h.sQ
def Z1n {a:Nat->Addr}{w:Bb}(Z:AZ a w)(E:IL a w)(h:YJ n):Calls prog 16 #[BG a n] w fun e w'=>e=uY (.tuple #[zo n,zo (-1)])/\Bl w w':=by
 obtain⟨k,rfl,hk⟩: ∃ k:Nat,n=(k:Int)+1/\k<10:=⟨(n-1).toNat,fw (h.1),jE (h.2) (h.1)⟩;rw[wu];exact Zoj Z E k hk
variable {a:Nat->Addr}{w:Bb}{B D:Nat}
def Ig:Except Int Ay->Ay
 | .error _=>⟨#[]⟩
 | .ok t=>t
def Up:Except Int Ay->Int
 | .error n=>n
 | .ok _=>0
def Yc5 (Z:AZ a w)(E:IL a w){r:Except Int Ay}(h: ∀ n,r= .error n->YJ n):Calls prog 16 #[BG a<|Up r] w fun e w'=>e=uY (.tuple #[.int .i64<|Up r,zo (-1)])/\Bl w w':=by
 cases r with
 | error n=>exact Z1n Z E (h n rfl)
 | ok t=>exact Z9y Z E Vw
def Zv1 (V:D9)(CL:Gg){l:By}{p:Bp}{c:Nat}{xs:List Bk}(Z:AZ a w)(E:IL a w)(hl:l.length<1000000000)(hB:B<=w.heap.size)(hrow:Ap 3 (Iz B w<|D+1) p xs):Calls prog 13 #[.string<|ba l,sP p xs.length c] w fun e w'=>e=uY (.tuple #[.string<|Ig<|Iq l xs,.int .i64<|Up<|Iq l xs])/\Bl w w':=by
 have C:AF (Calls prog 22 #[.string<|ba l,sP p xs.length c] w fun e w'=>e=uY (.tuple #[.string<|Ig<|Iq l xs,BG a<|Up<|Iq l xs])/\Bl w w'):=⟨(Zux V CL Z hl hB hrow).mono fun e w' h=>⟨by
  rcases h.1 with⟨n,h1,_,rfl⟩ | ⟨t,h1,rfl⟩
  .rw[h1];rfl
  .rw[h1];exact congrArg _<|congrArg _ (by rw[show Up _=0 from rfl,JR];rfl),h.2⟩⟩
 have N:=AC (fun u (hu:Bl w u)=>Yc5 (Z.be hu) (E.be hu) (r:=Iq l xs) fun _=>Yfh);clear Z E hrow;generalize Up (Iq l xs)=n at*;generalize Ig (Iq l xs)=t at*;generalize BG a n=er at*;generalize ba l=s at*;go_in
 go_wp2_with fail
 apply mq C.o;rintro w1 hb;have B1:=AC hb;clear hb;go_wp2_with fail
 apply(N.o _ B1.o).mono;rintro e w2 ⟨rfl,hb⟩;have B2:=tr B1 hb;clear hb;go_wp2
 go_ret2
 exact⟨rfl,B2.o⟩
def Z9p (key:Ay)(x:Bk):LQ key x=0\/YJ (LQ key x):=by
 unfold LQ;split
 .rcases(Ht (Znz x) (Ht (.inr r4) Vw):Wr (Ic x))with h | h
  .exact .inl h
  .exact .inr h.sQ
 .exact .inr ⟨zx,zx⟩
def Zyj (V:D9){key:Ay}{vs:Bu}{x:Bk}(Z:AZ a w)(E:IL a w)(hk:key.size<1000000000)(hB:B<=w.heap.size)(hS:EZ B w D vs x):Calls prog 12 #[um key,.agg vs.toArray] w fun e w'=>e=uY (.tuple #[.string<|Ji key x,.int .i64<|LQ key x])/\Bl w w':=by
 have C:=AC fun u (hu:Bl w u)=>Ycv V (key:=key) (Z.be hu) hk (Ab hB hu.size) (EZ.cy hS<|Bq hu hB);have N:AF (∀ u,Bl w u->Calls prog 16 #[BG a<|LQ key x] u fun e w'=>e=uY (.tuple #[.int .i64<|LQ key x,zo (-1)])/\Bl u w'):=⟨fun u hu=>by
  rcases Z9p key x with h | h
  .rw[h];exact Z9y (Z.be hu) (E.be hu) Vw
  .exact Z1n (Z.be hu) (E.be hu) h⟩
 obtain⟨p,c,p1,c1,p2,c2,rfl,_⟩:=hS;clear Z E;generalize LQ key x=n at*;generalize Ji key x=t at*;generalize BG a n=er at*;go_in
 go_wp2_with fail
 apply(C.o _<|(AR _ w).alloc lr _).mono;rintro e w1 ⟨rfl,hb⟩;have B1:=AC<|(zv w _).trans<|hb.mono zw;clear hb;go_wp2_with fail
 apply(N.o _ B1.o).mono;rintro e w2 ⟨rfl,hb⟩;have B2:=tr B1 hb;clear hb;go_wp2
 go_ret2
 exact⟨rfl,B2.o⟩
end Go.W
