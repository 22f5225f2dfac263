import Derived.Test.YtpmcefkhkkpnbaaGreatDoorW28
set_option linter.all false
set_option maxRecDepth 100000
set_option maxHeartbeats 8000000
open Go.Proofs Go.RowKit Go.W Tryz
namespace Go.W
section
variable {vs:List T}
variable [Mem]
def Vm (b:BD) (vs:List T) (xs:Bn) (p:Pt) (f:Fc):Bool:=(D8 xs p f).1 && Gf vs (D8 xs p f).2 b.gs
def F9 (b:BD) (vs:List T) (fs:List Fc) (xs:Bn) (p:Pt) (l:Cg):Nat:=l.foldl (fun a n=>if Vm b vs xs p (fs.getD n (⟨#[]⟩,[]))then a ||| 2 ^ n else a) 0
def Z8x (b:BD)(vs:List T)(fs:List Fc)(xs:Bn)(p:Pt)(l:Cg)(n:Nat):F9 b vs fs xs p (l++[n])=if Vm b vs xs p (fs.getD n (⟨#[]⟩,[]))then F9 b vs fs xs p l ||| 2 ^ n else F9 b vs fs xs p l:=by
 unfold F9;rw[List.foldl_append,List.foldl_cons,List.foldl_nil]
def uq (b:BD)(vs:List T)(fs:List Fc)(xs:Bn)(p:Pt)(l:Cg)(n:Nat):(F9 b vs fs xs p l).testBit n=true↔n∈l/\Vm b vs xs p (fs.getD n (⟨#[]⟩,[]))=true:=by
 have key: ∀ (l:Cg) (a:Nat),(l.foldl (fun a n=>if Vm b vs xs p (fs.getD n (⟨#[]⟩,[]))then a ||| 2 ^ n else a) a).testBit n=true↔a.testBit n=true\/n∈l/\Vm b vs xs p (fs.getD n (⟨#[]⟩,[]))=true:=by
  intro l;induction l with
  | nil=>intro a;simp
  | cons k l ih=>
   intro a;rw[List.foldl_cons,ih];by_cases hk:Vm b vs xs p (fs.getD k (⟨#[]⟩,[]))=true
   .rw[xj hk,Nat.testBit_or,Nat.testBit_two_pow,Bool.or_eq_true,wA,Ak];constructor
    .rintro((h | rfl) | h)
     .exact .inl h
     .exact .inr ⟨.inl rfl,hk⟩
     .exact .inr ⟨.inr h.1,h.2⟩
    .rintro(h | ⟨rfl | h,h2⟩)
     .exact .inl<|.inl h
     .exact .inl<|.inr rfl
     .exact .inr ⟨h,h2⟩
   .rw[xd hk,Ak];constructor
    .rintro(h | h)
     .exact .inl h
     .exact .inr ⟨.inr h.1,h.2⟩
    .rintro(h | ⟨rfl | h,h2⟩)
     .exact .inl h
     .exact absurd h2 hk
     .exact .inr ⟨h,h2⟩
 rw[F9,key l 0];simp
def Z0j (b:BD)(vs:List T)(fs:List Fc)(xs:Bn)(p:Pt){l:Cg}{m:Nat}(h: ∀ n,n∈l->n<m):F9 b vs fs xs p l<2 ^ m:=by
 refine Nat.lt_pow_two_of_testBit _ fun i hi=>?_;cases hb:(F9 b vs fs xs p l).testBit i with
 | false=>rfl
 | true=>have:=h i ((uq b vs fs xs p l i).1 hb).1;omega
def Zk7: ∀ (ss:List Sl) (vs:Cg) (xs:Bn),∀ y,y∈(GK xs ss vs).2->y∈xs\/y.2∈vs
 | [],_,xs,y,h=> .inl h
 | _::_,[],xs,y,h=> .inl h
 | s::ss,v::vs,xs,y,h=>by
  rw[GK]at h;split at h
  ·rcases Zk7 ss vs _ y h with h | h
   ·rcases Aj.1 h with h | h
    ·exact .inl h
    ·rw[Bh.1 h];exact .inr List.mem_cons_self
   ·exact .inr<|wj _ h
  ·split at h
   ·exact(Zk7 ss vs _ y h).imp id<|wj _
   ·exact .inl h
def Z0x {xs:Bn}{p:Pt}{f:Fc}: ∀ y,y∈(D8 xs p f).2->y∈xs\/y.2∈f.2:=by
 unfold D8;split
 .exact Zk7 _ _ _
 .exact fun y h=> .inl h
def Zty (xs:Bn)(p:Pt)(f:Fc):(D8 xs p f).2.length<=xs.length+p.2.length:=by
 unfold D8;split
 .exact Znk _ _ _
 .simp
def Znl: ∀ (ss:List Sl) (vs:Cg) (xs:Bn),∃ zs,(GK xs ss vs).2=xs++zs
 | [],_,xs=>⟨[],by simp[GK]⟩
 | _::_,[],xs=>⟨[],by simp[GK]⟩
 | s::ss,v::vs,xs=>by
  rw[GK];split
  ·obtain⟨zs,h⟩:=Znl ss vs<|xs++[(s.1,v)];exact⟨(s.1,v)::zs,by rw[h,JB];rfl⟩
  ·split
   ·exact Znl ss vs xs
   ·exact⟨[],zw⟩
def Z0y (xs:Bn)(p:Pt)(f:Fc):(D8 xs p f).2.take xs.length=xs:=by
 unfold D8;split
 .obtain⟨zs,h⟩:=Znl p.2 f.2 xs;rw[h];simp
 .simp
structure Zp (b:BD) (fs:List Fc) (vs:List T) (xs:Bn):Prop where
 fs: ∀ f,f∈fs->f.2.length<=6/\ ∀ v,v∈f.2->v<vs.length
 xs: ∀ x,x∈xs->x.2<vs.length
 gs: ∀ g,g∈b.gs->(g.2.1.1.size=0->g.2.1.2<vs.length)/\(g.2.2.1.size=0->g.2.2.2<vs.length)
def Zp.known {b:BD}{fs:List Fc}{xs:Bn}(h:Zp b fs vs xs):ui vs xs b.gs:=fun g hg=>⟨(h.gs g hg).1,(h.gs g hg).2,h.xs⟩
def Zp.match_ {b:BD}{fs:List Fc}{xs:Bn}(h:Zp b fs vs xs){f:Fc}(hf:f∈fs)(p:Pt):Zp b fs vs (D8 xs p f).2:=⟨h.fs,fun y hy=>(Z0x y hy).elim (h.xs y) ((h.fs f hf).2 _),h.gs⟩
end
section
open Go.Shelf
variable [Mem]
attribute [local go_sem] Me
def Yer {f x:Nat}(hf:f<2 ^ 60)(hx:x<60):bits BinOp.or IntKind.u64 (f:Int) (IntKind.u64.wrap<|2 ^ x)=((f ||| 2 ^ x:Nat):Int):=by
 have h1:(2:Nat) ^ x<2 ^ 60:=Nat.pow_lt_pow_right zx hx;have e0:((2:Int) ^ x)=((2 ^ x:Nat):Int):=zw
 have e60:(2:Nat) ^ 60=1152921504606846976:=zu
 rw[e0];generalize (2:Nat) ^ x=k at*;rw[IntKind.wrap_u64,show((k:Int) % 18446744073709551616)=(k:Int)by omega];exact u64_or_nat _ _ zx zx
def Zqo {a:Nat->Addr}{c:Cx}{cs:Ca}{fs:List Fc}{vs:List T}{F:Cg}{xs:Bn}{ov:Value}{Fo:Cg}{w:Bb}(h:Ctx a c cs fs vs F xs ov Fo w)(hn:Nd xs)(FY:xs.length<400)(hN:Zp c.b fs vs xs){pp:Bp}{cp:Nat}{pt:Pt}(hp:Ap 2 (VW w c.S) pp pt.2)(hp6:pt.2.length<=6)(s:Nat)(hs:s<2 ^ 60)(hb: ∀ n,n∈DZ s->n<fs.length):
  Calls prog 171 #[zq c.q 0,.agg #[um pt.1,sP pp pt.2.length cp],.int .u64 (s:Int)] w fun e w'=>e=uY (.int .u64 (F9 c.b vs fs xs pt (DZ s):Int))/\ ∃ Br Au,Ctx a c cs fs vs F xs Br Au w'/\Off (c.q::c.m::Fo) w w'/\ ∀ i,i∈Au->i∈Fo\/w.heap.size<=i:=by
 obtain⟨pn,ss⟩:=pt;obtain⟨po,co,yt⟩:=h.bd.row.form;rw[Dj]at yt;have Ea:=h.bd.blk.lt;have q7': ∀ o1 o2 o3,(((w.alloc o1).alloc o2).alloc o3).cell? (zm c.q 7)=some (sP po xs.length co):=fun o1 o2 o3=>by
  rw[<- yt,<- h.bd.cells.2.1];exact A9 (a:=(zm c.q 7))<|(Ah _ _ _ zc).trans<|(Ah _ _ _ zc).trans<|Ah _ _ _ Ea
 have H:=AC h;have HP:=AC hp;have Ho:=fun(fn:Fn) (first cap:Ca) (w:Bb)=>(rfl:(Instr.makeFunc fn first cap).run prog w= .ok (.func fn first cap) w);obtain⟨n0,QY⟩:=cK (xs.length);rw[QY.o]at q7';clear h yt hp;refine(callsIn_wide (n:=5)).1 ?_;refine callsIn_of_wp_marks func171 rfl trivial ?_ rfl;simp only[ntmps171,GN,DU,JC,Nat.reduceAdd,Nat.reduceSub,Qu,Qv,Qr,Qt,JU,EC];obtain⟨W4,Eh⟩:=cK ((((w.alloc<|.cells #[zq c.q 0] 232).alloc<|.cells #[um pn,sP pp ss.length cp] 226).alloc<|.cells #[.int .u64 0] 305).alloc (.cells #[zo (n0:Int)] 3));have B4:AF (Bl w W4):=⟨Eh.o▸((((AR _ w).alloc lr _).alloc zw _).alloc zc _).alloc zc _⟩;have S4:AF (W4.heap.size=w.heap.size+4):=⟨by rw[<- Eh.o];simp⟩;have L0:AO W4 w.heap.size #[zq c.q 0] 232:=Eh.o▸(((AO.new w _ _).alloc _).alloc _).alloc _;have L1:AO W4 (w.heap.size+1) #[um pn,sP pp ss.length cp] 226:=Eh.o▸((Ur w _ _ _).alloc _).alloc _;have L2:AO W4 (w.heap.size+1+1) #[.int .u64 0] 305:=Eh.o▸(bU w _ _ _ _).alloc _;have L3:AO W4 (w.heap.size+1+1+1) #[zo (n0:Int)] 3:=Eh.o▸by have:=AO.new (((w.alloc<|.cells #[zq c.q 0] 232).alloc<|.cells #[um pn,sP pp ss.length cp] 226).alloc<|.cells #[.int .u64 0] 305) #[zo (n0:Int)] 3;rwa [EV,EV,EV]at this
 have HL:=AC<|AJ L0<|AJ L1<|AJ L2 L3;clear L0 L1 L2 L3;gi_wp2
 rw[Eh.o];clear Eh q7';have eB:=S4.o;have Rj:=H.o.bd.lt;have Fq:(2:Nat) ^ 60<2 ^ 64:=zu
 have OT:AF (∀ W W' Br Au,Ctx a c cs fs vs F xs Br Au W->(∀ i,i∈Au->i∈Fo\/w.heap.size+6<=i)->Off [W4.heap.size,W4.heap.size+1] W W'->Ctx a c cs fs vs F xs Br Au W'):=⟨fun W W' Br Au hc Hg k=>hc.other k fun j hj=>by
  have JX:w.heap.size+4<=j/\j<w.heap.size+6:=by simp at hj;omega
  refine⟨fun h=>?_,fun h=>fw (H.o.wd.lt j h),fun h=>fw (H.o.rd.lS j h),Ab H.o.gl.most zx⟩;simp only[Ak]at h;rcases h with h | h | h
  .omega
  .have:=Rj c.m zw;omega
  .rcases Hg j h with h | h
   .have:=Rj j (by simp[h]);omega
   .omega⟩
 refine vF (K:=173) (s:=s) (xs:=DZ s) (Z:=ZN) rfl (EH func173 zt rfl) (ut _ s zx) rfl
  (fun pre W=> ∃ Br Au,Ctx a c cs fs vs F xs Br Au W/\AO W w.heap.size #[zq c.q 0] 232/\AO W (w.heap.size+1) #[um pn,sP pp ss.length cp] 226/\AO W (w.heap.size+1+1) #[.int .u64 (F9 c.b vs fs xs (pn,ss) pre:Int)] 305/\AO W (w.heap.size+1+1+1) #[zo (n0:Int)] 3/\Off (c.q::c.m::Fo) w W/\ ∀ i,i∈Au->i∈Fo\/w.heap.size+6<=i)
  (fun _ _=>False) (fun _ _ ⟨_,_,hc,_⟩=>hc.gl.bits) ?_ (fun _ _ _ h _=>h) ⟨_,Fo,H.o.be B4.o,HL.o.1,HL.o.2.1,HL.o.2.2.1,HL.o.2.2.2,Off.of B4.o,fun _ h=> .inl h⟩
  (fun x=>{tmps:=#[zq c.q 0,Value.agg #[um pn,sP pp ss.length cp],.int .u64 (s:Int),zq w.heap.size 0,zq (w.heap.size+1) 0,undef,.int .u64 0,zq (w.heap.size+1+1) 0,zq (w.heap.size+1+1+1) 0,zo (x:Int),zq c.q 0,zq c.q 0,zq c.q 6,zq c.q 7,sP po n0 co,zo (n0:Int),.int .u64 (s:Int),.func (.func 173) #[.int .u64 (s:Int)] #[],zo (x:Int),undef,undef,undef,undef,undef,undef,undef,undef,undef,undef,undef,undef,undef,undef,undef,undef,undef,undef,undef,undef,undef,undef,undef,undef,undef,undef,undef,undef,undef],defers:=[]}) ?assign ?body ?done (fun _ _ h _=>h.elim)
 .rintro pre W W' ⟨Br,Au,hc,b0,b1,b2,b3,ho,Hg⟩ k;have nn: ∀ j,j<w.heap.size+4->j∉[W4.heap.size,W4.heap.size+1]:=fun j hj=>zc
  refine⟨Br,Au,OT.o W W' _ _ hc Hg k,b0.of<|k.block _ b0.lt<|nn _ zx,b1.of<|k.block _ b1.lt<|nn _ zx,b2.of<|k.block _ b2.lt<|nn _ zx,b3.of<|k.block _ b3.lt<|nn _ zx,ho.trans k fun i hi=>?_,Hg⟩;simp at hi;exact .inr zx
 case assign=>
  intro l x W K hK;gi_wp2
  exact hK
 case body=>
  rintro l pre x rest W hx ⟨Br,Au,hc,b0,b1,b2,b3,ho,Hg⟩ hW;have VB:x∈DZ s:=by rw[hx];simp
  have yP:=hb x VB;have Vz:x<60:=by
   refine Nat.lt_of_not_le fun h=>?_
   have:=(Ol zx).1 VB
   rw[Nat.testBit_lt_two_pow<|BK hs<|wi zx h]at this;cases this
  obtain⟨fx,OQ⟩: ∃ fx,fs[x]?=some fx:=⟨_,A8 yP⟩;have nz:fx∈fs:=Ej OQ;have hgd:fs.getD x (⟨#[]⟩,[])=fx:=by rw[xr,OQ];rfl
  have vj:AF (F9 c.b vs fs xs (pn,ss) (pre++[x])=if Vm c.b vs xs (pn,ss) fx then F9 c.b vs fs xs (pn,ss) pre ||| 2 ^ x else F9 c.b vs fs xs (pn,ss) pre):=⟨by rw[Z8x,hgd]⟩;have FL:=Z0j c.b vs fs xs (pn,ss) (l:=pre) (m:=60) fun n hn=>by
   refine Nat.lt_of_not_le fun h=>?_
   have:=(Ol (s:=s) (i:=n) zx).1 (by rw[hx];simp[hn])
   rw[Nat.testBit_lt_two_pow<|BK hs<|wi zx h]at this;cases this
  obtain⟨gf,pO,p0,tH,jB,key⟩:=hc.fact OQ;have hpl:=hc.wd.lt _ tH;have uD:=hc.wd.lt _ jB;have q0:=(hc.cell 0 zx).trans hc.rd.c0;have QU:Ap 2 (VW W c.S) pp ss:=HP.o.cy fun b o y ⟨k0,k1,k2,k3⟩=>by
   have e:=fun o=>A9 (a:=(zm b o)) (ho.block b (H.o.rd.lS b k0) fun q=>(H.o.dB b q).2.1 k0);exact⟨k0,(e _).trans k1,(e _).trans k2,k3⟩
  have CM:=AC<|Zx9 (w:=W.drew) (hc.be (AR _ W).drew).bd (c:=cp) (pt:=(pn,ss)) QU (fun j hj=>⟨hc.rd.lS j hj,fun h=>(hc.dB j h).2.1 hj⟩) fx (hN.fs fx nz).1 zx;have MN:=(Wt hn (pn,ss) fx).1;have ML:=Zty xs (pn,ss) fx;have MT:=AC<|Z0y xs (pn,ss) fx;have MU:=AC (hN.match_ nz (pn,ss)).known;have FB:AF (Vm c.b vs xs (pn,ss) fx=((D8 xs (pn,ss) fx).1 && Gf vs (D8 xs (pn,ss) fx).2 c.b.gs)):=⟨rfl⟩;unfold Dq at CM;have c0:=b0.one.1;have c1:=b1.two.1;have Sn:=b1.two.2.1;have Z9:(x:Int)<(fs.length:Int):=zx
  generalize D8 xs (pn,ss) fx=r at*;have HH:=AC<|AJ hc<|AJ b0<|AJ b1<|AJ b2<|AJ b3<|AJ ho Hg;clear hc b0 b1 b2 b3 ho Hg QU;have hmx:prog.follows .mixedOrders=true:=zt
  obtain⟨rb,rx⟩:=r;dsimp only at CM FB MN ML MT MU;gi_wp2
  obtain⟨S,hS⟩: ∃ S:Bb->Prop,S=fun u=>u.cell? (zm w.heap.size 0)=some (zq c.q 0)/\u.cell? (zm (w.heap.size+1) 0)=some (um pn)/\u.cell? (zm (w.heap.size+1) 1)=some (sP pp ss.length cp)/\u.cell? (zm c.q 0)=some (zq c.p 0)/\u.cell? (zm c.p 0)=some (sP (Qb gf 0) fs.length pO)/\ ∀ j v,(Dq fx)[j]?=some v->u.cell? (zm gf (x*8+j))=some v:=⟨_,rfl⟩;have AY:S W.drew:=hS▸⟨c0,c1,Sn,q0,p0,key⟩;refine Zf1 S hmx (fun⟨_,_,h⟩=>h) zt ?_;refine tk 0 (zq c.q 0) AY (hy:=fun u q=>by subst hS;obtain⟨s0,s1,s2,s3,s4,s5⟩:=q;go_simp) ?_;try simp only[zz]
  refine zE 1 (zq c.q 0) AY ?_
  refine zE 2 (zq c.q 6) AY ?_
  refine tk 3 (.agg #[um pn,sP pp ss.length cp]) AY (hy:=fun u q=>by subst hS;obtain⟨s0,s1,s2,s3,s4,s5⟩:=q;go_simp) ?_;try simp only[zz]
  refine tk 4 (zq c.q 0) AY (hy:=fun u q=>by subst hS;obtain⟨s0,s1,s2,s3,s4,s5⟩:=q;go_simp) ?_;try simp only[zz]
  refine zE 5 (zq c.q 0) AY ?_
  refine zE 6 (zq c.q 0) AY ?_
  refine tk 7 (zq c.p 0) AY (hy:=fun u q=>by subst hS;obtain⟨s0,s1,s2,s3,s4,s5⟩:=q;go_simp) ?_;try simp only[zz]
  refine zE 8 (zq c.p 0) AY ?_
  refine zE 9 (zq c.p 0) AY ?_
  refine tk 10 (sP (Qb gf 0) fs.length pO) AY (hy:=fun u q=>by subst hS;obtain⟨s0,s1,s2,s3,s4,s5⟩:=q;go_simp) ?_;try simp only[zz]
  refine zE 11 (zo (x:Int)) AY ?_
  refine zE 12 (zq gf<|x*8) AY ?_
  refine tk 13 (.agg #[um fx.1,zo (fx.2.length:Int),zo ((fx.2[0]?.getD 0:Nat):Int),zo ((fx.2[1]?.getD 0:Nat):Int),zo ((fx.2[2]?.getD 0:Nat):Int),zo ((fx.2[3]?.getD 0:Nat):Int),zo ((fx.2[4]?.getD 0:Nat):Int),zo ((fx.2[5]?.getD 0:Nat):Int)]) AY (hy:=fun u q=>by subst hS;obtain⟨s0,s1,s2,s3,s4,s5⟩:=q;have f0:u.cell? (zm gf (x*8))=some (um fx.1):=s5 0 _ rfl;have f1:=s5 1 _ rfl;have f2:=s5 2 _ rfl;have f3:=s5 3 _ rfl;have f4:=s5 4 _ rfl;have f5:=s5 5 _ rfl;have f6:=s5 6 _ rfl;have f7:=s5 7 _ rfl;go_simp) ?_;try simp only[zz]
  refine yr 14 fun K' hK'=>?_;go_simp;apply mq CM.o;rintro w2 ⟨Q7,F2,hb2,FM,hs2⟩;have C2:=(HH.o.1.be (AR _ W).drew).step hb2 FM hs2 ⟨rfl,fun _ _=>rfl⟩;have nB: ∀ j,w.heap.size<=j->j<w.heap.size+6->j∉c.q::c.m::Au:=fun j h1 h2 h=>by
   simp only[Ak]at h;rcases h with h | h | h
   .omega
   .have:=Rj c.m zw;omega
   .rcases HH.o.2.2.2.2.2.2 j h with h | h
    .have:=Rj j (by simp[h]);omega
    .omega
  have YW:c.p∉c.q::c.m::Au:=fun h=>(HH.o.1.dB c.p h).1 tH;have Yh:gf∉c.q::c.m::Au:=fun h=>(HH.o.1.dB gf h).1 jB;have bk: ∀ j,j<W.heap.size->j∉c.q::c.m::Au-> ∀ o,w2.cell? (zm j o)=W.cell? (zm j o):=fun j hj hn o=>A9 (a:=(zm j o)) (FM.block j hj hn);have Kw:S w2:=hS▸⟨(bk _ zx (nB _ zx zx) _).trans c0,(bk _ zx (nB _ zx zx) _).trans c1,(bk _ zx (nB _ zx zx) _).trans Sn,(C2.cell 0 zx).trans C2.rd.c0,(bk _ hpl YW _).trans p0,fun j v hv=>(bk _ uD Yh _).trans (key j v hv)⟩;refine hK'.o _ _ Kw fun Kw=>?_;try simp only[zz]
  refine zE 15 (.bool rb) Kw ?_
  have sI:AF (∀ u w5 bn,(∀ j,j<W.heap.size->j∉c.q::c.m::Au->j≠w.heap.size+1+1->u.heap[j]?=W.heap[j]?)->W.heap.size<=u.heap.size->u.os=W.os/\u.tape=W.tape/\u.output=W.output->AO u (w.heap.size+1+1) #[.int .u64 (F9 c.b vs fs xs (pn,ss) (pre++[x]):Int)] 305->Ctx a c cs fs vs F rx Q7 F2 u->Bd w5 c.q 311 6 c.m cs xs bn F2->Off (c.q::c.m::F2) u w5->Zzn W4.heap.size W w5/\ ∃ Br Au,Ctx a c cs fs vs F xs Br Au w5/\AO w5 w.heap.size #[zq c.q 0] 232/\AO w5 (w.heap.size+1) #[um pn,sP pp ss.length cp] 226/\AO w5 (w.heap.size+1+1) #[.int .u64 (F9 c.b vs fs xs (pn,ss) (pre++[x]):Int)] 305/\AO w5 (w.heap.size+1+1+1) #[zo (n0:Int)] 3/\Off (c.q::c.m::Fo) w w5/\ ∀ i,i∈Au->i∈Fo\/w.heap.size+6<=i):=⟨fun u w5 bn ku hsu Xb b2u cu bd5 Di=>by
   obtain⟨hc,b0,b1,b2,b3,ho,Hg⟩:=HH.o;have nB2: ∀ j,j<W.heap.size->j∉c.q::c.m::Au->j∉c.q::c.m::F2:=fun j hj hn h=>by
    simp only[Ak,not_or]at h hn;rcases h with h | h | h
    .exact hn.1 h
    .exact hn.2.1 h
    .rcases hs2 j h with h | h
     .exact hn.2.2 h
     .have h:W.heap.size<=j:=h;omega
   have k5: ∀ j,j<W.heap.size->j∉c.q::c.m::Au->j≠w.heap.size+1+1->w5.heap[j]?=W.heap[j]?:=fun j hj hn h2=>(Di.block j zx<|nB2 j hj hn).trans (ku j hj hn h2);have Jp:W4.heap.size<W.heap.size/\W4.heap.size+1<W.heap.size:=⟨zx,zx⟩;refine⟨⟨k5 _ Jp.1 (nB _ zx zx) zx,k5 _ Jp.2 (nB _ zx zx) zx⟩,bn,F2,cu.step bd5 Di (fun _ h=> .inl h) ⟨rfl,fun _ _=>rfl⟩,b0.of<|k5 _ b0.lt (nB _ zx zx) zx,b1.of<|k5 _ b1.lt (nB _ zx zx) zx,b2u.of<|Di.block _ b2u.lt<|nB2 _ b2.lt<|nB _ zx zx,b3.of<|k5 _ b3.lt (nB _ zx zx) zx,⟨Di.os.trans<|Xb.1.trans ho.os,Di.tape.trans<|Xb.2.1.trans ho.tape,Di.output.trans<|Xb.2.2.trans ho.output,Ab ho.size<|Ab hsu Di.size,fun j hj hn=>?_⟩,fun i hi=>?_⟩
   .have aH:j∉c.q::c.m::Au:=fun h=>by
     simp only[Ak,not_or]at h hn;rcases h with h | h | h
     .exact hn.1 h
     .exact hn.2.1 h
     .rcases Hg j h with h | h
      .exact hn.2.2 h
      .omega
    exact(k5 j (BK hj ho.size) aH zx).trans<|ho.block j hj hn
   .rcases hs2 i hi with h | h
    .exact Hg i h
    .have h:W.heap.size<=i:=h;exact .inr zx⟩
  have hw2:W.heap.size<=w2.heap.size:=FM.size;have hu0: ∀ u,Bl w2 u->(∀ j,j<W.heap.size->j∉c.q::c.m::Au->j≠w.heap.size+1+1->u.heap[j]?=W.heap[j]?)/\W.heap.size<=u.heap.size/\(u.os=W.os/\u.tape=W.tape/\u.output=W.output)/\AO u (w.heap.size+1+1) #[.int .u64 (F9 c.b vs fs xs (pn,ss) pre:Int)] 305/\Ctx a c cs fs vs F rx Q7 F2 u:=fun u hu=>⟨fun j hj hn _=>(hu.block j zx).trans (FM.block j hj hn),Ab hw2 hu.size,⟨hu.os.trans FM.os,hu.tape.trans FM.tape,hu.output.trans FM.output⟩,HH.o.2.2.2.1.of<|(hu.block _ zx).trans<|FM.block _ HH.o.2.2.2.1.lt<|nB _ zx zx,C2.be hu⟩;have xS:=AC hu0;have CA:=AC<|Zm4 C2 MU.o;clear hu0;cases rb
  case' false=>
   refine wpAnyH_take (i:=16) (v:=undef) rfl zt zt zt (fun _ _ _ h=>h) (Or.inr ⟨by rfl,rfl⟩) Kw ?_;try simp only[zz]
   refine wpAnyH_take (i:=17) (v:=undef) rfl zt zt zt (fun _ _ _ h=>h) (Or.inr ⟨by rfl,rfl⟩) Kw ?_;try simp only[zz]
   refine zE 18 (.bool false) Kw ?_
   refine Uy zt ?_ _;gi_wp2
   have U:=AC<|xS.o w2<|AR _ _;have FE:F9 c.b vs fs xs (pn,ss) (pre++[x])=F9 c.b vs fs xs (pn,ss) pre:=by rw[vj.o,FB.o];rfl
   rw[<- FE]at U;clear CA xS;generalize hu:w2=u at U⊢
  case' true=>
   refine tk 16 (zq c.q 0) Kw (hy:=fun u q=>by subst hS;obtain⟨s0,s1,s2,s3,s4,s5⟩:=q;go_simp) ?_;try simp only[zz]
   refine yr 17 fun K' hK'=>?_;go_simp;apply mq CA.o;rintro w3 hb3;have Oy:S w3:=by subst hS;obtain⟨s0,s1,s2,s3,s4,s5⟩:=Kw;exact⟨Cb s0 hb3,Cb s1 hb3,Cb s2 hb3,Cb s3 hb3,Cb s4 hb3,fun j v hv=>Cb (s5 j v hv) hb3⟩
   refine hK'.o _ _ Oy fun Oy=>?_;try simp only[zz]
   generalize Gf vs rx c.b.gs=ag at*;refine zE 18 (.bool ag) Oy ?_
   refine Uy zt ?_ _;have U3:=AC<|xS.o w3 hb3;clear CA xS;cases ag
   case' false=>
    gi_wp2
    have U:=U3;have FE:F9 c.b vs fs xs (pn,ss) (pre++[x])=F9 c.b vs fs xs (pn,ss) pre:=by rw[vj.o,FB.o];rfl
    rw[<- FE]at U;clear U3;generalize hu:w3=u at U⊢
   case' true=>
    have jQ:=U3.o.2.2.2.1;obtain⟨d0,ds⟩:=jQ.one;have yu:=Yer FL Vz;have E2:AF (F9 c.b vs fs xs (pn,ss) (pre++[x])=F9 c.b vs fs xs (pn,ss) pre ||| 2 ^ x):=⟨by rw[vj.o,FB.o];rfl⟩;clear vj FL;generalize F9 c.b vs fs xs (pn,ss) pre=fv at*;generalize fv ||| 2 ^ x=Xf at*;gi_wp2
    gi_region
    all_goals
     have U:AF ((∀ j,j<W.heap.size->j∉c.q::c.m::Au->j≠w.heap.size+1+1->((w3.setCell (zm (w.heap.size+1+1) 0)<|.int .u64 (Xf:Int)).drew).heap[j]?=W.heap[j]?)/\W.heap.size<=((w3.setCell (zm (w.heap.size+1+1) 0)<|.int .u64 (Xf:Int)).drew).heap.size/\(((w3.setCell (zm (w.heap.size+1+1) 0)<|.int .u64 (Xf:Int)).drew).os=W.os/\((w3.setCell (zm (w.heap.size+1+1) 0)<|.int .u64 (Xf:Int)).drew).tape=W.tape/\((w3.setCell (zm (w.heap.size+1+1) 0)<|.int .u64 (Xf:Int)).drew).output=W.output)/\AO ((w3.setCell (zm (w.heap.size+1+1) 0)<|.int .u64 (Xf:Int)).drew) (w.heap.size+1+1) #[.int .u64 (F9 c.b vs fs xs (pn,ss) (pre++[x]):Int)] 305/\Ctx a c cs fs vs F rx Q7 F2 ((w3.setCell (zm (w.heap.size+1+1) 0)<|.int .u64 (Xf:Int)).drew)):=⟨by
      obtain⟨k1,k2,k3,k4,k5⟩:=U3.o;refine⟨fun j hj hn h2=>(Aw w3 (zm (w.heap.size+1+1) 0) _ j h2).trans (k1 j hj hn h2),by simpa[World.setCell]using k2,k3,by rw[E2.o];exact jQ.set 0<|.int .u64 (Xf:Int),(k5.other (G:=[w.heap.size+1+1]) ((Off.refl _ w3).set (w.heap.size+1+1) 0 (.int .u64 (Xf:Int)) zw) (fun j hj=>by
       have ej:=Bh.1 hj;subst ej;refine⟨fun h=>?_,fun h=>fw (H.o.wd.lt _ h),fun h=>fw (H.o.rd.lS _ h),Ab H.o.gl.most (show w.heap.size<=w.heap.size+1+1 by omega)⟩;simp only[Ak]at h;rcases h with h | h | h
       .omega
       .have:=Rj c.m zw;omega
       .rcases hs2 _ h with h | h
        .exact nB (w.heap.size+1+1) zx zx (by simp[h])
        .have h:W.heap.size<=w.heap.size+1+1:=h
         omega)).be (AR _ _).drew⟩⟩
     gi_wp2
     generalize hu:((w3.setCell (zm (w.heap.size+1+1) 0)<|.int .u64 (Xf:Int)).drew)=u at U⊢
  all_goals
   obtain⟨KU,YR,hmU,B2U,CU⟩:=U.o;have JZ:u.drew.cell? (zm w.heap.size 0)=some (zq c.q 0)/\u.drew.cell? (zm (w.heap.size+1+1+1) 0)=some (zo (n0:Int)):=⟨(A9 (a:=(zm w.heap.size 0))<|KU w.heap.size zx (nB _ zx zx) zx).trans c0,(A9 (a:=(zm (w.heap.size+1+1+1) 0))<|KU (w.heap.size+1+1+1) zx (nB _ zx zx) zx).trans HH.o.2.2.2.2.1.one.1⟩;have CF:=AC<|Zvf (CU.be (AR _ _).drew).bd MN n0 (by have:=congrArg List.length MT.o;simp at this;have:=QY.o;omega);rw[<- QY.o,MT.o,QY.o]at CF;refine Zf1 (fun v=>v.cell? (zm w.heap.size 0)=some (zq c.q 0)/\v.cell? (zm (w.heap.size+1+1+1) 0)=some (zo (n0:Int))) hmx (fun⟨_,_,h⟩=>h) zt ?_;refine tk 0 (zq c.q 0) JZ (hy:=fun u q=>by obtain⟨s0,s1⟩:=q;go_simp) ?_;try simp only[zz]
   refine zE 1 (zq c.q 0) JZ ?_
   refine zE 2 (zq c.q 6) JZ ?_
   refine tk 3 (zo (n0:Int)) JZ (hy:=fun u q=>by obtain⟨s0,s1⟩:=q;go_simp) ?_;try simp only[zz]
   refine yr 4 fun K' hK'=>?_;go_simp;apply mq CF.o;rintro w5 ⟨bn,zi,Di⟩;have FO:=sI.o _ w5 bn KU YR hmU B2U CU zi ⟨Di.os,Di.tape,Di.output,Di.size,Di.block⟩;refine hK'.o _ _ ⟨FO.2.choose_spec.choose_spec.2.1.one.1,FO.2.choose_spec.choose_spec.2.2.2.2.1.one.1⟩ fun _=>?_;try simp only[zz]
   refine Uy zt ?_ _;exact FO
 case done=>
  rintro W ⟨Br,Au,hc,b0,b1,b2,b3,ho,Hg⟩ hD;have d2:=AO.cell b2 0;simp at d2;have DJ:=AC<|AJ hc<|AJ ho Hg;clear hc b0 b1 b2 b3 ho Hg;gi_wp2
  refine⟨zw,.inl ⟨_,_,rfl,run_takeDeferred hD,?_⟩⟩;have k:Off [W4.heap.size,W4.heap.size+1] W (W.putObj W4.heap.size<|.deferred none):=Off.putObj _ zw;refine⟨_,results_tmp rfl _ _ _,rfl,Br,Au,OT.o _ _ _ _ DJ.o.1 DJ.o.2.2 k,DJ.o.2.1.trans k fun i hi=>?_,fun i hi=>(DJ.o.2.2 i hi).imp id zx⟩;simp at hi;exact .inr zx
end
end Go.W
set_option linter.unusedSectionVars false
namespace Go.W
section
variable {cs:Ca}{B:Nat->Nat->Nat->Nat}{i n k v x s:Nat}
variable [Mem]
structure Hy (cs:Ca) (A:Nat->Nat) (B:Nat->Nat->Nat->Nat):Prop where
 a: ∀ k,k<4->cs[8+k]?=some (.int .u64 (A k:Int))/\A k<2 ^ 60
 b: ∀ i n k,i<4->n<60->k<4->cs[12+i*240+n*4+k]?=some (.int .u64 (B i n k:Int))/\B i n k<2 ^ 60
def xG (B:Nat->Nat->Nat->Nat) (i n k v:Nat):Nat->Nat->Nat->Nat:=fun i' n' k'=>if i'=i/\n'=n/\k'=k then v else B i' n' k'
def Hy.xz {A:Nat->Nat}(h:Hy cs A B)(hz:cs.size=972)(hi:i<4)(hn:n<60)(hk:k<4)(hv:v<2 ^ 60):Hy (cs.setIfInBounds (12+i*240+n*4+k)<|.int .u64 (v:Int)) A (xG B i n k v):=by
 refine⟨fun j hj=>?_,fun i' n' k' h1 h2 h3=>?_⟩
 .rw[Dy,xd zx];exact h.a j hj
 .unfold Go.W.xG;rw[Dy];by_cases e:i'=i/\n'=n/\k'=k
  .obtain⟨rfl,rfl,rfl⟩:=e;rw[xj rfl,xj zx,xj ⟨rfl,rfl,rfl⟩];exact⟨rfl,hv⟩
  .rw[xd zx,xd e];exact h.b i' n' k' h1 h2 h3
def YD (A:Nat->Nat) (k v:Nat):Nat->Nat:=fun k'=>if k'=k then v else A k'
def Hy.yA {A:Nat->Nat}(h:Hy cs A B)(hz:cs.size=972)(hk:k<4)(hv:v<2 ^ 60):Hy (cs.setIfInBounds (8+k)<|.int .u64 (v:Int)) (YD A k v) B:=by
 refine⟨fun j hj=>?_,fun i' n' k' h1 h2 h3=>?_⟩
 .unfold Go.W.YD;rw[Dy];by_cases e:j=k
  .subst e;rw[xj rfl,xj zx,xj rfl];exact⟨rfl,hv⟩
  .rw[xd zx,xd e];exact h.a j hj
 .rw[Dy,xd zx];exact h.b i' n' k' h1 h2 h3
def LJ (x s:Nat):Nat:=x &&& (18446744073709551615-(2 ^ s-1))
def uy (hx:x<2 ^ 60)(hs:s<=60)(i:Nat):(LJ x s).testBit i=(x.testBit i && !decide (i<s)):=by
 unfold LJ;rw[Nat.testBit_and];by_cases hi:i<60
 .have h1:(2:Nat) ^ s<=2 ^ 60:=wi zx hs;have e:18446744073709551615-(2 ^ s-1)=2 ^ 64-(2 ^ s-1+1):=zx
  have DK:(2:Nat) ^ 60<2 ^ 64:=zu
  rw[e,Nat.testBit_two_pow_sub_succ zx,Nat.testBit_two_pow_sub_one];simp[show i<64 by omega]
 .rw[Nat.testBit_lt_two_pow<|BK hx<|wi zx zx];simp
def ug (hx:x<2 ^ 60):LJ x s<2 ^ 60:=Nat.and_lt_two_pow x zx |> fun _=>Nat.lt_of_le_of_lt Nat.and_le_left hx
def Oj (A:Nat->Nat) (n seen k:Nat):Nat:=if n<seen then LJ (A k) seen else A k
def Z50 {A:Nat->Nat}{seen:Nat}(h:A k<2 ^ 60):Oj A n seen k<2 ^ 60:=by
 unfold Oj;split
 .exact ug h
 .exact h
def Ro (b:BD) (vs:List T) (fs:List Fc) (A:Nat->Nat) (B:Nat->Nat->Nat->Nat) (xs:Bn) (i n seen k:Nat):Nat->Nat->Nat->Nat:=fun i' n' k'=>if i'=i/\n'=n/\i<k'/\k'<k then B i' n' k' ||| F9 b vs fs xs (b.at_.getD k' (⟨#[]⟩,[])) (DZ<|Oj A n seen k')else B i' n' k'
def Z7x {b:BD}{vs:List T}{fs:List Fc}{A:Nat->Nat}{xs:Bn}{seen:Nat}(hk:i<k):xG (Ro b vs fs A B xs i n seen k) i n k (Ro b vs fs A B xs i n seen k i n k ||| F9 b vs fs xs (b.at_.getD k (⟨#[]⟩,[])) (DZ<|Oj A n seen k))=Ro b vs fs A B xs i n seen (k+1):=by
 funext i' n' k'
 unfold xG Ro;by_cases e:i'=i/\n'=n/\k'=k
 .obtain⟨rfl,rfl,rfl⟩:=e;rw[xj ⟨rfl,rfl,rfl⟩,xd zx,xj ⟨rfl,rfl,hk,zx⟩]
 .rw[xd e];by_cases e2:i'=i/\n'=n/\i<k'/\k'<k
  .rw[xj e2,xj ⟨e2.1,e2.2.1,e2.2.2.1,zx⟩]
  .rw[xd e2,xd zx]
end
section
variable {B F Fo:Cg}{u v w:Bb}{a:Nat->Addr}{cs:Ca}{vs:List T}{ov:Value}
variable [Mem]
def Stp (c:Cx) (Fo Au:Cg) (w w':Bb):Prop:=Off (c.q::c.m::Fo) w w'/\ ∀ i,i∈Au->i∈Fo\/w.heap.size<=i
def Stp.trans {c:Cx}{A C:Cg}(h:Stp c A B u v)(k:Stp c B C v w):Stp c A C u w:=by
 refine⟨h.1.trans k.1 fun i hi=>?_,fun i hi=>?_⟩
 .simp only[Ak]at hi⊢;rcases hi with h' | h' | h'
  .exact .inl<|.inl h'
  .exact .inl<|.inr<|.inl h'
  .exact(h.2 i h').imp (fun h=> .inr (.inr h)) id
 .rcases k.2 i hi with h' | h'
  .exact h.2 i h'
  .exact .inr<|Ab h.1.size h'
def Stp.be {c:Cx}{A:Cg}(h:Bl u v):Stp c A A u v:=⟨Off.of h,fun _ h=> .inl h⟩
def Stp.set {c:Cx}{A:Cg}(h:Stp c A B u v)(j:Nat)(x:Value):Stp c A B u (v.setCell (zm c.q j) x):=⟨h.1.set c.q j x<|.inl zw,h.2⟩
def Ctx.put {c:Cx}{fs:List Fc}{xs:Bn}(h:Ctx a c cs fs vs F xs ov Fo w)(j:Nat)(hj:8<=j)(v:Value):Ctx a c (cs.setIfInBounds j v) fs vs F xs ov Fo (w.setCell (zm c.q j) v):=by
 have hb:=h.bd;have sz:(w.setCell (zm c.q j) v).heap.size=w.heap.size:=by simp[World.setCell]
 refine h.step (w':=w.setCell (zm c.q j) v) (xs':=xs) (Br:=ov) (Au:=Fo) ⟨?_,?_,by simpa using hb.sz,AQ.sb Qf.sb _ _ _ _ _ hb.row fun k hk=>Aw _ _ _ _ (fun e=>hb.qF (by rw[show c.q=k from e.symm];exact hk)),hb.map.of<|Aw _ _ _ _ fun e=>hb.ne e.symm,hb.ne,hb.new.la lr zx,hb.qF,hb.mF⟩ ((Off.refl _ w).set c.q j v zw) (fun _ h=> .inl h) ⟨zw,fun k hk=>by rw[Dy,xd zx]⟩
 .have:=hb.blk.set j v
  rwa [Array.setIfInBounds_comm _ _ zx]at this
 .rw[Dy,xd zx];exact hb.c0
def Yd5 (a:Nat->Addr) (c:Cx) (fs:List Fc) (vs:List T) (F:Cg) (xs:Bn) (Fo:Cg) (A:Nat->Nat) (B:Nat->Nat->Nat->Nat) (i n seen:Nat) (w:Bb) (iv:Value) (wr:Bb):Prop:= ∃ (k:Nat) (cs:Ca) (ov:Value) (Au:Cg),i<k/\k<=max (i+1) c.b.at_.length/\iv= zo (k:Int)/\Ctx a c cs fs vs F xs ov Au wr/\Hy cs A (Ro c.b vs fs A B xs i n seen k)/\Stp c Fo Au w wr
def Z4i {c:Cx}{fs:List Fc}(h:Ctx a c cs fs vs F [] ov Fo w)(hN:Zp c.b fs vs []){A:Nat->Nat}{B:Nat->Nat->Nat->Nat}(hT:Hy cs A B){i n seen:Nat}{x:Pt}{fx:Fc}(hx:c.b.at_[i]?=some x)(hf:fs[n]?=some fx)(hn:n<60)(QV:seen<=60)(hA: ∀ k j,k<c.b.at_.length->j∈DZ (A k)->j<fs.length):
  Calls prog 174 #[zq c.q 0,zo (i:Int),zo (n:Int),zo (seen:Int)] w fun e w'=>e=uY (.tuple #[])/\ ∃ cs' Br Au,Ctx a c cs' fs vs F [] Br Au w'/\Hy cs' A (Ro c.b vs fs A B (D8 [] x fx).2 i n seen c.b.at_.length)/\Stp c Fo Au w w':=by
 obtain⟨pa,ca,c3,Yn,hAt⟩:=h.rd.WW;obtain⟨ga,ps,cp,rfl,nX,a0,a1,QU,yg⟩:=hAt i x hx;obtain⟨gf,cf,p0,YW,hfF,key⟩:=h.fact hf;have nz:fx∈fs:=Ej hf;have f0:w.cell? (zm gf (n*8))=some (um fx.1):=key 0 _ rfl;have f1:=key 1 _ rfl;have f2:=key 2 _ rfl;have f3:=key 3 _ rfl;have f4:=key 4 _ rfl;have f5:=key 5 _ rfl;have f6:=key 6 _ rfl;have f7:=key 7 _ rfl;have q0:=(h.cell 0 zx).trans h.rd.c0;have q3:=(h.cell 3 zx).trans c3;have hila:i<c.b.at_.length:=(DW.1 hx).1;have Ye:(i:Int)<(c.b.at_.length:Int):=zx
 have L8:(n:Int)<(fs.length:Int):=fw ((DW.1 hf).1)
 have CM:=AC<|Zx9 (w:=w.drew) (h.be (AR _ w).drew).bd (c:=cp) (pt:=x) QU (fun j hj=>⟨h.rd.lS j hj,fun q=>(h.dB j q).2.1 hj⟩) fx (hN.fs fx nz).1 zw;have MN:=AC<|AJ (Wt ax x fx).1<|AJ (Zty [] x fx)<|hN.match_ nz x;unfold Dq at CM;obtain⟨xs,VA⟩:=cK ((D8 [] x fx).2);rw[VA.o]at CM MN⊢;have H:=AC h;have HT:=AC hT;have HA:=AC hA;have HAt:=AC hAt;clear h hAt hT hA hN key QU;go_in
 go_wp2
 go_region_held3 (fun u=>u.cell? (zm c.q 0)=some (zq c.p 0)/\u.cell? (zm c.q 3)=some (sP (Qb ga 0) c.b.at_.length ca)/\u.cell? (zm ga (i*2))=some (um x.1)/\u.cell? (zm ga (i*2+1))=some (sP ps x.2.length cp)/\u.cell? (zm c.p 0)=some (sP (Qb gf 0) fs.length cf)/\u.cell? (zm gf (n*8))=some (um fx.1)/\u.cell? (zm gf (n*8+1))=some (zo (fx.2.length:Int))/\u.cell? (zm gf (n*8+2))=some (zo ((fx.2[0]?.getD 0:Nat):Int))/\u.cell? (zm gf (n*8+3))=some (zo ((fx.2[1]?.getD 0:Nat):Int))/\u.cell? (zm gf (n*8+4))=some (zo ((fx.2[2]?.getD 0:Nat):Int))/\u.cell? (zm gf (n*8+5))=some (zo ((fx.2[3]?.getD 0:Nat):Int))/\u.cell? (zm gf (n*8+6))=some (zo ((fx.2[4]?.getD 0:Nat):Int))/\u.cell? (zm gf (n*8+7))=some (zo ((fx.2[5]?.getD 0:Nat):Int))) (first | exact⟨q0,q3,a0,a1,p0,f0,f1,f2,f3,f4,f5,f6,f7⟩ | exact S2) (first
  | (go_at_call 226;apply mq CM.o;rintro w2 ⟨Q7,F2,hb2,FM,hs2⟩;have C2:=(H.o.be (AR _ w).drew).step hb2 FM hs2 ⟨rfl,fun _ _=>rfl⟩;have bk: ∀ j,j<w.heap.size->j∉c.q::c.m::Fo-> ∀ o,w2.cell? (zm j o)=w.cell? (zm j o):=(fun j hj hn o=>A9 (a:=(zm j o)) (FM.block j hj hn));have kS:=bk ga (H.o.rd.lS _ nX) fun h=>(H.o.dB _ h).2.1 nX;have kp:=bk c.p (H.o.wd.lt _ YW) fun h=>(H.o.dB _ h).1 YW;have kf:=bk gf (H.o.wd.lt _ hfF) fun h=>(H.o.dB _ h).1 hfF;have S2:=(AJ ((C2.cell 0 zx).trans C2.rd.c0)<|AJ ((C2.cell 3 zx).trans c3)<|AJ ((kS _).trans a0)<|AJ ((kS _).trans a1)<|AJ ((kp _).trans p0)<|AJ ((kf _).trans f0)<|AJ ((kf _).trans f1)<|AJ ((kf _).trans f2)<|AJ ((kf _).trans f3)<|AJ ((kf _).trans f4)<|AJ ((kf _).trans f5)<|AJ ((kf _).trans f6)<|(kf _).trans f7)))
 have SP:AF (Stp c Fo F2 w w2):=⟨(Stp.be (AR _ w).drew).trans ⟨FM,hs2⟩⟩;have CC:=AC C2;clear S2 C2 hb2 FM hs2 bk kS kp kf q0 q3 a0 a1 p0 f0 f1 f2 f3 f4 f5 f6 f7 CM;have lW:=(CC.o.cell 3 zx).trans c3;go_wp2
 go_loopw [8] (fun iv wr=>Yd5 a c fs vs F xs Fo A B i n seen w iv wr) (fun iv _=>c.b.at_.length-(intOf iv).toNat)
 .refine⟨i+1,cs,Q7,F2,zx,zx,by go_num,CC.o,?_,SP.o⟩
  have:Ro c.b vs fs A B xs i n seen (i+1)=B:=by funext i' n' k';unfold Ro;rw[xd zx]
  rw[this];exact HT.o
 .obtain⟨k,cs1,Ot,F1,hik,QZ,rfl,hc1,VE,KF⟩:=hrel;obtain⟨pa1,ca1,d3,_,UT⟩:=hc1.rd.WW;have q31:=(hc1.cell 3 zx).trans d3;by_cases hlt:k<c.b.at_.length
  .obtain⟨y,hy⟩: ∃ y,c.b.at_[k]?=some y:=⟨_,A8 hlt⟩;obtain⟨gb,iT,aX,rfl,zR,b0,b1,V4,dM⟩:=UT k y hy;have hk4:k<4:=zx
   have hi4:(i:Int)<4:=zx
   have nR:(k:Int)<4:=zx
   have zB:(n:Int)<60:=zx
   obtain⟨c8,WO⟩:=VE.a k hk4;obtain⟨cb,eY⟩:=VE.b i n k zx hn hk4;have q8:=(hc1.cell (8+k) zx).trans c8;have qb:=(hc1.cell (12+i*240+n*4+k) zx).trans cb;have qs:=hc1.bd.blk.soft;have tC:c.b.at_.getD k (⟨#[]⟩,[])=y:=by rw[xr,hy];rfl
   have hOB:Oj A n seen k<2 ^ 60:=Z50 WO;have hOm: ∀ j,j∈DZ (Oj A n seen k)->j<fs.length:=fun j hj=>by
    have DK:(2:Nat) ^ 60<2 ^ 64:=zu
    have h1:=(Ol zx).1 hj;refine HA.o k j hlt<|(Ol zx).2 ?_;unfold Oj at h1;split at h1
    .rw[uy WO QV,wx]at h1;exact h1.1
    .exact h1
   have CF:=AC fun u (hu:Bl wr u)=>Zqo (hc1.be hu) MN.o.1 (by have:=MN.o.2.1;simp at this;omega) MN.o.2.2 (cp:=aX) (pt:=y) (V4.cy fun b o z ⟨k0,k1,k2,k3⟩=>⟨k0,(A9 (a:=(zm b o))<|hu.block b<|hc1.rd.lS b k0).trans k1,(A9 (a:=(zm b (o+1)))<|hu.block b<|hc1.rd.lS b k0).trans k2,k3⟩) dM (Oj A n seen k) hOB hOm;have FL:=Z0j c.b vs fs xs y (l:=DZ<|Oj A n seen k) (m:=60) fun j hj=>by
    refine Nat.lt_of_not_le fun h=>?_;have DK:(2:Nat) ^ 60<2 ^ 64:=zu
    have:=(Ol zx).1 hj
    rw[Nat.testBit_lt_two_pow<|BK hOB<|wi zx h]at this;cases this
   have SU:=AC<|Z7x (b:=c.b) (vs:=vs) (fs:=fs) (A:=A) (B:=B) (xs:=xs) (i:=i) (n:=n) (seen:=seen) hik;rw[tC]at SU;have yu:bits BinOp.or IntKind.u64 (Ro c.b vs fs A B xs i n seen k i n k:Int) (F9 c.b vs fs xs y (DZ<|Oj A n seen k):Int)=((Ro c.b vs fs A B xs i n seen k i n k ||| F9 c.b vs fs xs y (DZ<|Oj A n seen k):Nat):Int):=u64_or_nat _ _ zx zx;have iw:=Nat.or_lt_two_pow eY FL;have R1:=AC<|AJ hc1<|AJ VE KF;have OB:AF (Oj A n seen k=if n<seen then LJ (A k) seen else A k):=⟨rfl⟩;have CW:=AC<|vU seen QV;generalize Ro c.b vs fs A B xs i n seen k i n k=Bv at*;generalize F9 c.b vs fs xs y (DZ<|Oj A n seen k)=fv at*;generalize Bv ||| fv=ov9 at*;clear hc1 VE KF UT V4 hOm c8 cb tC FL;have e1:AF (n<seen->bits BinOp.andNot IntKind.u64 (A k:Int) ((2 ^ seen-1:Nat):Int)=(Oj A n seen k:Int)):=⟨fun NK=>by
    rw[OB.o,xj NK,u64_andNot_nat _ _ zx (by have:(2:Nat) ^ seen<=2 ^ 60:=wi zx QV;omega)]
    rfl⟩
   have e2:AF (¬ n<seen->A k=Oj A n seen k):=⟨fun NK=>by rw[OB.o,xd NK]⟩;clear OB;generalize Oj A n seen k=ob at*;by_cases NK:n<seen
   case' pos=>
    have g:(n:Int)<(seen:Int):=zx
    have e3:=e1.o NK;clear NK;go_wp2_with (go_at_call 172;apply(CW.o _).mono;rintro e w5 ⟨rfl,h5⟩;obtain rfl:wr=w5:=h5.symm)
   case' neg=>
    have g: ¬ (n:Int)<(seen:Int):=zx
    rw[e2.o NK]at q8;clear NK;go_wp2_with fail
   all_goals
    go_region_with (go_at_call 171;apply(CF.o _ (by first | exact(AR _ wr).drew | exact MW<|AR _ wr)).mono;rintro e w3 ⟨rfl,ov3,F3,hc3,Xa,hs3⟩;have qb3:=(hc3.cell (12+i*240+n*4+k) zx).trans<|(R1.o.1.cell (12+i*240+n*4+k) zx).symm.trans qb;have qs3:=hc3.bd.blk.soft)
    all_goals
     have OU:=hc3.put (12+i*240+n*4+k) zx<|.int .u64 (ov9:Int);have dG:=R1.o.2.1.xz R1.o.1.rd.sz (i:=i) zx hn hk4 iw;rw[SU.o]at dG;have DJ:AF (Yd5 a c fs vs F xs Fo A B i n seen w (zo ((k+1:Nat):Int))<|w3.setCell (zm c.q (12+i*240+n*4+k))<|.int .u64 (ov9:Int)):=⟨k+1,_,ov3,F3,zx,zx,rfl,OU,dG,R1.o.2.2.trans<|((Stp.be (by first | exact(AR _ wr).drew | exact MW<|AR _ wr)).trans ⟨Xa,hs3⟩).set _ _⟩;clear hc3 Xa hs3 qb3 qs3 OU dG CF;go_wp2
     go_roundw
     .simpa using DJ.o
     simp[intOf];omega
  .have hnl2: ¬ (k:Int)<(c.b.at_.length:Int):=zx
   have R1:=AC<|AJ hc1<|AJ VE KF;have CX:=AC<|Zvf hc1.bd MN.o.1 0<|Eg _;have EB:AF (Ro c.b vs fs A B xs i n seen k=Ro c.b vs fs A B xs i n seen c.b.at_.length):=⟨by obtain rfl:k=c.b.at_.length:=zx;rfl⟩
   rw[EB.o]at R1;clear hc1 VE KF UT;go_wp2_with fail
   apply mq CX.o;rintro w5 ⟨bn,BX,Di⟩;have FO:=AC<|AJ (R1.o.1.step BX Di (fun _ h=> .inl h) ⟨rfl,fun _ _=>rfl⟩)<|R1.o.2.2.trans (⟨Di,fun _ h=> .inl h⟩:Stp c F1 F1 wr w5);clear BX Di CX;go_wp2
   go_end0
   exact⟨rfl,cs1,bn,F1,FO.o.1,R1.o.2.1,FO.o.2⟩
end
end Go.W
