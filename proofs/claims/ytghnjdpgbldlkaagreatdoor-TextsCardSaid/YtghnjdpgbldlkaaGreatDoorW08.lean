import Derived.Test.YtghnjdpgbldlkaaGreatDoorW07
set_option linter.defProp false
set_option maxRecDepth 100000
set_option maxHeartbeats 8000000
set_option linter.unusedSimpArgs false
open Go.Proofs Go.RowKit Go.W Tryz
namespace Go.P
open Go.RowKit Go.W Go.Shelf
variable {w:World}{q:Nat}
attribute [local go_sem] MZ
def Z7w {p m:Nat}{cs:Array Value}{at_:List Pt}{gs:List Gt}{S:List Nat}{fs:List (ByteArray×Nat)}{vs:List T}{F:List Nat}{xs:List (ByteArray×Nat)}{ov:Value}{Fo:List Nat}(h:Ctx w q p m cs at_ gs S fs vs F xs ov Fo){b v:Nat}(hw:ZQ w q b v)(h4:at_.length<=4){k s:Nat}(hs0:s=0)(l0 l1 l2 l3:Nat)(rR:k=0/\s=l0\/k=1/\s=l1)(hk:k<at_.length):
  Calls prog 259 #[.int .i64 (k:Int),.agg #[.int .u64 (l0:Int),.int .u64 (l1:Int),.int .u64 (l2:Int),.int .u64 (l3:Int)],.pointer<|Qb b 0,.pointer<|Qb v 0] w fun e w'=>e= .returned (.bool false)/\Bl w w':=by
 have hs:s<8:=zx
 have hn:BR s=[]:=by rw[hs0];rfl
 obtain⟨pa,ca,c3,hA⟩:=h.rd.atoms;have q3:=(h.cell 3 zx).trans c3;have Dv:=h.bd.blk.lt;have b0:=hw.1.one.1;have hbl:=hw.1.lt;have ne:((k:Int)==(at_.length:Int))=false:=by rw[BK];omega
 have hk4:(k:Int)<4:=zx
 have HG:=AA h.gl;clear h hA hw hs0;obtain⟨W3,hW3⟩: ∃ W3,AC (((w.alloc<|.cells #[.int .i64 (k:Int)] 3).alloc<|.cells #[.int .u64 (l0:Int),.int .u64 (l1:Int),.int .u64 (l2:Int),.int .u64 (l3:Int)] 340).alloc (.cells #[.bool false] 4)=W3):=⟨_,⟨rfl⟩⟩;have B3:AC (Bl w W3):=⟨hW3.out▸(((AQ _ w).alloc lr _).alloc zw _).alloc (by simp;omega) _⟩;have S3:AC (W3.heap.size=w.heap.size+3):=⟨by rw[<- hW3.out];simp⟩;have L0:AC (AJ W3 w.heap.size #[.int .i64 (k:Int)] 3):=⟨hW3.out▸((AJ.new w _ _).alloc _).alloc _⟩;have L1:AC (AJ W3 (w.heap.size+1) #[.int .u64 (l0:Int),.int .u64 (l1:Int),.int .u64 (l2:Int),.int .u64 (l3:Int)] 340):=⟨hW3.out▸(Jd w _ _ _).alloc _⟩;have L2:AC (AJ W3 (w.heap.size+1+1) #[.bool false] 4):=⟨hW3.out▸UC w _ _ _ _⟩;have y0:=L0.out.one.1;obtain⟨y1,y2,y3,y4,ys⟩:=L1.out.four;have yk:W3.cell? ⟨w.heap.size+1,k,none⟩=some (.int .u64 (s:Int)):=by
  rcases rR with⟨rfl,rfl⟩ | ⟨rfl,rfl⟩
  ·exact y1
  ·exact y2
 have Dw:=fun(fn:Fn) (first cap:Array Value) (w:World)=>(rfl:(Instr.makeFunc fn first cap).run prog w= .ok (.func fn first cap) w);have aD:=(Am (a:=⟨q,3,none⟩)<|B3.out.block q Dv).trans q3;have au:=(Am (a:=⟨b,0,none⟩)<|B3.out.block b hbl).trans b0;clear q3 b0;refine(callsIn_wide (n:=5)).1 ?_;refine callsIn_of_wp_marks func259 rfl trivial ?_ rfl;simp only[ntmps259,E9,BO,D7,Nat.reduceAdd,Nat.reduceSub,Ju,Jv,Jr,Jt,FK,Gm];refine wpIn_wide.2 ?_;go_wp2_with fail
 rw[hW3.out];clear hW3;go_quiet (fail)
 go_wp2_with fail
 have eB:=S3.out;have BL:AC (∀ W W',Bl w W->Off [W3.heap.size,W3.heap.size+1] W W'->Bl w W'):=⟨fun W W' hB k=>hB.trans (k.below (fun i hi=>by simp at hi;omega) hB.size)⟩;have hen: ∀ args w,(callFunc 259 args).run prog w= .ok (.enter 259 args) w:=DL func259 zt rfl;refine(wpIn_wide (n:=5)).1 ?_;refine Zd (K:=255) (s:=s) (xs:=BR s) (Z:=U6) rfl (DL func255 zt rfl) (ZV _ s hs) rfl
  (fun _ W=>Bl w W/\AJ W w.heap.size #[.int .i64 (k:Int)] 3/\AJ W (w.heap.size+1) #[.int .u64 (l0:Int),.int .u64 (l1:Int),.int .u64 (l2:Int),.int .u64 (l3:Int)] 340/\AJ W (w.heap.size+1+1) #[.bool false] 4)
  (fun _ _=>False) (fun _ W h=>(HG.out.of (F:=[]) (Off.of h.1) fun _ h=>(by cases h)).1) ?_ (fun _ _ _ h _=>h) ⟨KR B3.out,L0.out,L1.out,L2.out⟩
  (fun x=>{tmps:=#[.int .i64 (k:Int),.agg #[.int .u64 (l0:Int),.int .u64 (l1:Int),.int .u64 (l2:Int),.int .u64 (l3:Int)],.pointer<|Qb b 0,.pointer<|Qb v 0,.pointer<|Qb w.heap.size 0,.pointer<|Qb (w.heap.size+1) 0,.pointer<|Qb (w.heap.size+1+1) 0,.int .i64 (x:Int),undef,undef,.int .i64 (k:Int),.pointer<|Qb q 0,.pointer<|Qb q 0,.pointer<|Qb q 3,.slice pa at_.length ca,.int .i64 (at_.length:Int),.bool false,.int .i64 (k:Int),.pointer<|Qb (w.heap.size+1) k,.int .u64 (s:Int),.func (.func 255) #[.int .u64 (s:Int)] #[],.int .i64 (x:Int),undef,undef,undef,undef,undef,undef,undef,undef,undef,undef,undef,undef,undef,undef,undef,undef],defers:=[]}) ?assign ?body ?done (fun _ _ h _=>h.elim)
 ·rintro pre W W' ⟨hB,b0,b1,b2⟩ k;have nn: ∀ j,j<w.heap.size+3->j∉[W3.heap.size,W3.heap.size+1]:=fun j hj=>by simp;omega
  exact⟨BL.out W W' hB k,b0.of<|k.block _ b0.lt<|nn _ zx,b1.of<|k.block _ b1.lt<|nn _ zx,b2.of<|k.block _ b2.lt<|nn _ zx⟩
 case assign=>
  intro l x W K hK;gi_wp2
  exact hK
 case body=>
  intro l pre x rest W hx;rw[hn]at hx;simp at hx
 case done=>
  rintro W ⟨hB,b0,b1,b2⟩ hD;have c2:=b2.one.1;have s2:=b2.soft;have HD:=AA hD;have HH:=AA<|AF hB b2;clear hB b0 b1 b2 hD;go_wp2_with fail
  refine⟨zw,.inl ⟨_,_,rfl,run_takeDeferred<|(Au W _ _ _ (by show W3.heap.size≠w.heap.size+1+1;omega)).trans HD.out,?_⟩⟩;obtain⟨hB,b2⟩:=HH.out;have c3:((W.setCell ⟨w.heap.size+1+1,0,none⟩<|.bool false).putObj W3.heap.size<|.deferred none).cell? ⟨w.heap.size+1+1,0,none⟩=some (.bool false):=(Am (a:=⟨w.heap.size+1+1,0,none⟩)<|World.putObj_heap_other (by show w.heap.size+1+1≠_;omega)).trans (b2.set 0 _).one.1;have Qc:=hB.setCell (p:=⟨w.heap.size+1+1,0,none⟩) (by show w.heap.size<=w.heap.size+1+1;omega)<|.bool false;exact⟨.bool false,by simp[results,results259,go_sem,c3],rfl,Qc.trans<|(Off.putObj (F:=[W3.heap.size]) (.deferred none) zw).below (fun i hi=>by simp at hi;omega) Qc.size⟩
def uR (l0 l1 l2 l3:Nat)(r:Bool)(CW: ∀ u b v,Bl w u->ZQ u q b v->Calls prog 259 #[.int .i64 0,.agg #[.int .u64 (l0:Int),.int .u64 (l1:Int),.int .u64 (l2:Int),.int .u64 (l3:Int)],.pointer<|Qb b 0,.pointer<|Qb v 0] u fun e w'=>e= .returned (.bool r)/\Bl u w'):
  Calls prog 231 #[.pointer<|Qb q 0,.agg #[.int .u64 (l0:Int),.int .u64 (l1:Int),.int .u64 (l2:Int),.int .u64 (l3:Int)]] w fun e w'=>e= .returned (.bool r)/\Bl w w':=by
 have HC:=AA CW;clear CW;have hen: ∀ args w,(callFunc 259 args).run prog w= .ok (.enter 259 args) w:=DL func259 zt rfl;have Dw:=fun(fn:Fn) (first cap:Array Value) (w:World)=>(rfl:(Instr.makeFunc fn first cap).run prog w= .ok (.func fn first cap) w);have hst:=fun(a:Addr) (fn:Fn) (first cap:Array Value) (m:Mode) (w:World)=>run_store prog w a (.func fn first cap) m rfl;refine Qx func231 rfl ?_;simp only[ntmps231,E9,BO,D7,Nat.reduceAdd,Nat.reduceSub,Ju,Jv,Jr,Jt,FK,Gm];go_wp2_with fail
 refine(HC.out _ w.heap.size (w.heap.size+1+1) ((((AQ _ w).alloc lr _).alloc zw _).alloc (by simp;omega) _) ⟨((AJ.new w _ _).alloc _).alloc _,UC w _ _ _ _⟩).mono ?_;rintro e w5 ⟨rfl,hb⟩;have hB:Bl w w5:=((((AQ _ w).alloc lr _).alloc zw _).alloc (by simp;omega) _).trans<|hb.mono (by simp;omega);clear hb;go_wp2_with fail
 exact⟨rfl,_,by simp[results,results231,go_sem],rfl,hB⟩
end Go.P
namespace Go.P
variable {b n:Nat}{r:List Nat}
section
variable {w u:World} {q p m:Nat} {cs:Array Value} {at_:List Pt} {x x1:Pt} {gs:List Gt} {S:List Nat} {fs:List (ByteArray×Nat)} {vs:List T} {F:List Nat} {xs:List (ByteArray×Nat)} {ov:Value} {Fo:List Nat}
def ZQ.below {v:Nat}(h:ZQ w q b v)(hb:Bl w u):ZQ u q b v:=⟨h.1.of<|hb.block _ h.1.lt,h.2.of<|hb.block _ h.2.lt⟩
def Z5n (h:Ctx w q p m cs at_ gs S fs vs F xs ov Fo)(h4:at_.length<=4)(hk:0<at_.length)(l1 l2 l3:Nat):
  Calls prog 231 #[.pointer<|Qb q 0,.agg #[.int .u64 ((0:Nat):Int),.int .u64 (l1:Int),.int .u64 (l2:Int),.int .u64 (l3:Int)]] w fun e w'=>e= .returned (.bool false)/\Bl w w':=
 uR 0 l1 l2 l3 false fun _ _ _ hb hw=>Z7w (h.below hb) hw h4 (k:=0) rfl 0 l1 l2 l3 (.inl ⟨rfl,rfl⟩) hk
def vB (h:Ctx w q p m cs [x] gs S fs vs F xs ov Fo)(l0 l1 l2 l3:Nat)(hs:l0<8)(hn:BR l0=n::r):
  Calls prog 231 #[.pointer<|Qb q 0,.agg #[.int .u64 (l0:Int),.int .u64 (l1:Int),.int .u64 (l2:Int),.int .u64 (l3:Int)]] w fun e w'=>e= .returned (.bool true)/\Bl w w':=
 uR l0 l1 l2 l3 true fun _ _ _ hb hw=>ui (h.below hb) hw zw (k:=0) l0 l1 l2 l3 l0 l1 l2 l3 (.inl ⟨rfl,rfl⟩) zw hs hn
  (fun _ hu=>Zlq ((h.below hb).below hu) zw (i:=0) rfl l0 l1 l2 l3) (fun _ hu=>Z1g ((h.below hb).below hu) (hw.below hu) l0 l1 l2 l3)
def Z5o (h:Ctx w q p m cs [x,x1] gs S fs vs F xs ov Fo)(l0 l1 l2 l3:Nat)(hs:l0<8)(h1:l1<8){n1:Nat}{r1:List Nat}(hn:BR l0=n::r)(cb:cs[12+n*4+1]?=some (.int .u64 (b:Int)))(Gq:b<8)(G8:BR (l1 &&& b)=n1::r1):
  Calls prog 231 #[.pointer<|Qb q 0,.agg #[.int .u64 (l0:Int),.int .u64 (l1:Int),.int .u64 (l2:Int),.int .u64 (l3:Int)]] w fun e w'=>e= .returned (.bool true)/\Bl w w':=by
 have hz:l1 &&& b≠0:=fun e=>by rw[e]at G8;cases G8
 have h60:n<60:=Ba (Nq (by rw[hn];simp)) zu;have hs1:l1 &&& b<8:=Nat.lt_of_le_of_lt Nat.and_le_left h1;refine uR l0 l1 l2 l3 true fun u _ _ hb hw=>?_;have hc:=h.below hb;refine ui hc hw zw (k:=0) l0 l1 l2 l3 l0 (l1 &&& b) l2 l3 (.inl ⟨rfl,rfl⟩) zw hs hn (fun _ hu=>Zwk (hc.below hu) h60 cb Gq l0 l1 l2 l3 h1 hz) fun u' hu=>?_;exact ui (hc.below hu) (hw.below hu) zw (k:=1) l0 (l1 &&& b) l2 l3 l0 (l1 &&& b) l2 l3 (.inr ⟨rfl,rfl⟩) zw hs1 G8
  (fun _ WX=>Zlq ((hc.below hu).below WX) zw (i:=1) rfl l0 _ l2 l3) fun _ WX=>Z1g ((hc.below hu).below WX) ((hw.below hu).below WX) l0 _ l2 l3
end
end Go.P
namespace Go.P
variable {w:World}{r:Nat}
def Zxx (hb:w.heap[r]?=some (.map #[] 0))(v:Int):
  (Instr.lookup 407 (.map<|some r) (.int .i64 v) false).run prog w= .ok (.int .u64 0) w:=by
 have hz:(zeroValue 338).run prog w= .ok (.int .u64 0) w:=zt
 have FW:(Instr.checkKey true 10000 3<|.int .i64 v).run prog w= .ok () w:=zt
 have Fq:(Instr.findKey 3 (.int .i64 v) []).run prog w= .ok none w:=zt
 have hgo:=WL (P:=prog) hb;simp[Instr.lookup,Jo underlying407,hgo,Fq,hz,FW]
def Z1w (hb:w.heap[r]?=some (.map #[] 0))(v:Int)(u:Value):
  (Instr.mapUpdate 407 (.map<|some r) (.int .i64 v) u).run prog w= .ok () {w with heap:=w.heap.setIfInBounds r (.map #[{key:= .int .i64 v,val:=u,born:=0}] 1)}:=by
 have FW:(Instr.checkKey false 10000 3<|.int .i64 v).run prog w= .ok () w:=zt
 have Fq:(Instr.findKey 3 (.int .i64 v) []).run prog w= .ok none w:=zt
 have hgo:=WL (P:=prog) hb;have VO:=Go.MapKept.run_setObj_map (P:=prog) (.map #[{key:= .int .i64 v,val:=u,born:=0}] 1) hb;simp[Instr.mapUpdate,Jo underlying407,hgo,Fq,FW,VO]
end Go.P
namespace Go.P
attribute [local go_sem] MZ
def Zxy {w:World}{q p m:Nat}{cs:Array Value}{at_:List Pt}{gs:List Gt}{S:List Nat}{fs:List (ByteArray×Nat)}{vs:List T}{F:List Nat}{xs:List (ByteArray×Nat)}{ov:Value}{Fo:List Nat}(h:Ctx w q p m cs at_ gs S fs vs F xs ov Fo){n s:Nat}{fx:ByteArray×Nat}(hf:fs[n]?=some fx)(hs:s<8)(hn:BR s=[n])(a:ByteArray)(i:Nat):
  Calls prog 286 #[.pointer<|Qb q 0,.agg #[.string a,.int .i64 (i:Int),.int .i64 0],.int .u64 (s:Int)] w fun e w'=> ∃ r,e= .returned (.map<|some r)/\w.heap.size<=r/\w'.heap[r]?=some (.map #[{key:= .int .i64 (fx.2:Int),val:= .int .u64 ((2 ^ n:Nat):Int),born:=0}] 1)/\Bl w w':=by
 obtain⟨z,hz⟩: ∃ z:Nat,2 ^ n=z:=⟨_,rfl⟩;rw[hz];have HG:=AA h.gl;obtain⟨gf,cf,p0,Ph,Ua,f0,f1,f2,_⟩:=h.fact hf;have q0:=(h.cell 0 zx).trans h.rd.c0;have Dv:=h.bd.blk.lt;have hpl:=h.wd.lt p Ph;have Kq:=h.wd.lt gf Ua;have Su:n=0\/n=1\/n=2:=by have:=Nq (s:=s) (n:=n) (by rw[hn];simp);omega
 have M9:(n:Int)<(fs.length:Int):=by have:=(Gl.1 hf).1;omega
 clear h f0 f1;refine(callsIn_wide (n:=5)).1 ?_;refine callsIn_of_wp_marks func286 rfl trivial ?_ rfl;simp only[ntmps286,E9,BO,D7,Nat.reduceAdd,Nat.reduceSub,Ju,Jv,Jr,Jt,FK,Gm];refine wpIn_wide.2 ?_;have aN: ∀ w,(Instr.makeMap 407 none).run prog w= .ok (.map<|some w.heap.size) (w.alloc<|.map #[] 0):=fun w=>zt
 obtain⟨W4,hW4⟩: ∃ W4,AC ((((w.alloc<|.cells #[.pointer<|Qb q 0] 329).alloc<|.cells #[.string a,.int .i64 (i:Int),.int .i64 0] 401).alloc<|.map #[] 0).alloc (.cells #[.map<|some<|w.heap.size+1+1] 407)=W4):=⟨_,⟨rfl⟩⟩;have B4:AC (Bl w W4):=⟨hW4.out▸((((AQ _ w).alloc lr _).alloc zw _).alloc (by simp;omega) _).alloc (by simp;omega) _⟩;have S4:AC (W4.heap.size=w.heap.size+4):=⟨by rw[<- hW4.out];simp⟩;have L0:AC (AJ W4 w.heap.size #[.pointer<|Qb q 0] 329):=⟨hW4.out▸(((AJ.new w _ _).alloc _).alloc _).alloc _⟩;have L1:AC (AJ W4 (w.heap.size+1) #[.string a,.int .i64 (i:Int),.int .i64 0] 401):=⟨hW4.out▸((Jd w _ _ _).alloc _).alloc _⟩;have L2:AC (W4.heap[w.heap.size+1+1]?=some (.map #[] 0)):=⟨by rw[<- hW4.out];exact(Ah _ _ _ zw).trans (by have:=World.alloc_heap_new ((w.alloc<|.cells #[.pointer<|Qb q 0] 329).alloc<|.cells #[.string a,.int .i64 (i:Int),.int .i64 0] 401)<|.map #[] 0;rwa [EH,EH]at this)⟩;have L3:AC (AJ W4 (w.heap.size+1+1+1) #[.map<|some<|w.heap.size+1+1] 407):=⟨by
  have:=AJ.new (((w.alloc<|.cells #[.pointer<|Qb q 0] 329).alloc<|.cells #[.string a,.int .i64 (i:Int),.int .i64 0] 401).alloc<|.map #[] 0) #[.map<|some<|w.heap.size+1+1] 407
  rw[hW4.out]at this;simpa using this⟩
 have Dw:=fun(fn:Fn) (first cap:Array Value) (w:World)=>(rfl:(Instr.makeFunc fn first cap).run prog w= .ok (.func fn first cap) w);go_wp2_with fail
 rw[hW4.out];clear hW4;have e4:=S4.out;refine(wpIn_wide (n:=5)).1 ?_;refine Zd (K:=255) (s:=s) (xs:=BR s) (Z:=U6) rfl (DL func255 zt rfl) (ZV _ s hs) rfl
  (fun pre W=>Bl w W/\AJ W w.heap.size #[.pointer<|Qb q 0] 329/\AJ W (w.heap.size+1) #[.string a,.int .i64 (i:Int),.int .i64 0] 401/\AJ W (w.heap.size+1+1+1) #[.map<|some<|w.heap.size+1+1] 407/\W.heap[w.heap.size+1+1]?=some (if pre=[]then .map #[] 0 else .map #[{key:= .int .i64 (fx.2:Int),val:= .int .u64 (z:Int),born:=0}] 1))
  (fun _ _=>False) (fun _ W h=>(HG.out.of (F:=[]) (Off.of h.1) fun _ h=>(by cases h)).1) ?_ (fun _ _ _ h _=>h) ⟨B4.out,L0.out,L1.out,L3.out,L2.out⟩
  (fun x=>{tmps:=#[.pointer<|Qb q 0,.agg #[.string a,.int .i64 (i:Int),.int .i64 0],.int .u64 (s:Int),.pointer<|Qb w.heap.size 0,.pointer<|Qb (w.heap.size+1) 0,undef,.map none,.pointer<|Qb (w.heap.size+1+1+1) 0,.int .i64 (x:Int),.map<|some<|w.heap.size+1+1,.int .u64 (s:Int),.func (.func 255) #[.int .u64 (s:Int)] #[],.int .i64 (x:Int),undef,undef,undef,undef,undef,undef,undef,undef,undef,undef,undef,undef,undef,undef,undef,undef,undef,undef,undef,undef],defers:=[]}) ?assign ?body ?done (fun _ _ h _=>h.elim)
 ·rintro pre W W' ⟨hB,b0,b1,b3,b2⟩ k;have nn: ∀ j,j<w.heap.size+4->j∉[W4.heap.size,W4.heap.size+1]:=fun j hj=>by simp;omega
  exact⟨hB.trans<|k.below (fun i hi=>by simp at hi;omega) hB.size,b0.of<|k.block _ b0.lt<|nn _ zx,b1.of<|k.block _ b1.lt<|nn _ zx,b3.of<|k.block _ b3.lt<|nn _ zx,(k.block _ (Nat.lt_of_succ_lt b3.lt)<|nn _ zx).trans b2⟩
 case assign=>
  intro l x W K hK;gi_wp2
  exact hK
 case body=>
  rintro l pre x rest W hx ⟨hB,b0,b1,b3,b2⟩ hW;rw[hn]at hx;obtain⟨rfl,rfl,rfl⟩:pre=[]/\n=x/\rest=[]:=by
   cases pre with
   | nil=>simp at hx;exact⟨rfl,hx.1,hx.2⟩
   | cons y l=>simp at hx
  rw[if_pos rfl]at b2;have AV:W.drew.cell? ⟨w.heap.size,0,none⟩=some (.pointer<|Qb q 0)/\W.drew.cell? ⟨w.heap.size+1,2,none⟩=some (.int .i64 0)/\W.drew.cell? ⟨w.heap.size+1+1+1,0,none⟩=some (.map<|some<|w.heap.size+1+1)/\W.drew.cell? ⟨q,0,none⟩=some (.pointer<|Qb p 0)/\W.drew.cell? ⟨p,0,none⟩=some (.slice (Qb gf 0) fs.length cf)/\W.drew.cell? ⟨gf,n*8+2,none⟩=some (.int .i64 (fx.2:Int)):=⟨b0.one.1,b1.three.2.2.1,b3.one.1,(Am (a:=⟨q,0,none⟩)<|hB.block q Dv).trans q0,(Am (a:=⟨p,0,none⟩)<|hB.block p hpl).trans p0,(Am (a:=⟨gf,n*8+2,none⟩)<|hB.block gf Kq).trans f2⟩;have hup:=Z1w (w:=W.drew) b2 (fx.2:Int)<|.int .u64 (z:Int);have hlk:=Zxx (w:=W.drew) b2 (fx.2:Int);have kP:bits BinOp.or IntKind.u64 0 (z:Int)=(z:Int):=by subst hz;rcases Su with rfl | rfl | rfl <;> rfl
  have HH:=AA<|AF hB<|AF b0<|AF b1<|AF b3 b2;clear hB b0 b1 b3 b2;have hmx:prog.follows .mixedOrders=true:=zt
  gi_wp2
  refine nX (fun u=>u.cell? ⟨w.heap.size,0,none⟩=some (.pointer<|Qb q 0)/\u.cell? ⟨w.heap.size+1,2,none⟩=some (.int .i64 0)/\u.cell? ⟨w.heap.size+1+1+1,0,none⟩=some (.map<|some<|w.heap.size+1+1)/\u.cell? ⟨q,0,none⟩=some (.pointer<|Qb p 0)/\u.cell? ⟨p,0,none⟩=some (.slice (Qb gf 0) fs.length cf)/\u.cell? ⟨gf,n*8+2,none⟩=some (.int .i64 (fx.2:Int))) hmx (fun⟨_,_,h⟩=>h) zt ?_;refine tk 0 (.map<|some<|w.heap.size+1+1) AV (hy:=fun u hS=>by obtain⟨s0,s1,s2,s3,s4,s5⟩:=hS;go_simp) ?_;try simp only[zz]
  refine tk 1 (.pointer<|Qb q 0) AV (hy:=fun u hS=>by obtain⟨s0,s1,s2,s3,s4,s5⟩:=hS;go_simp) ?_;try simp only[zz]
  refine tk 2 (.pointer<|Qb q 0) AV ?_;try simp only[zz]
  refine tk 3 (.pointer<|Qb q 0) AV ?_;try simp only[zz]
  refine tk 4 (.pointer<|Qb p 0) AV (hy:=fun u hS=>by obtain⟨s0,s1,s2,s3,s4,s5⟩:=hS;go_simp) ?_;try simp only[zz]
  refine tk 5 (.pointer<|Qb p 0) AV ?_;try simp only[zz]
  refine tk 6 (.pointer<|Qb p 0) AV ?_;try simp only[zz]
  refine tk 7 (.slice (Qb gf 0) fs.length cf) AV (hy:=fun u hS=>by obtain⟨s0,s1,s2,s3,s4,s5⟩:=hS;go_simp) ?_;try simp only[zz]
  refine tk 8 (.int .i64 (n:Int)) AV ?_;try simp only[zz]
  refine tk 9 (.pointer<|Qb (w.heap.size+1) 2) AV ?_;try simp only[zz]
  refine tk 10 (.int .i64 0) AV (hy:=fun u hS=>by obtain⟨s0,s1,s2,s3,s4,s5⟩:=hS;go_simp) ?_;try simp only[zz]
  refine tk 11 (.pointer<|Qb gf<|n*8) AV ?_;try simp only[zz]
  refine tk 12 (.pointer<|Qb gf<|n*8+2) AV ?_;try simp only[zz]
  refine tk 13 (.pointer<|Qb gf<|n*8+2) AV ?_;try simp only[zz]
  refine tk 14 (.int .i64 (fx.2:Int)) AV (hy:=fun u hS=>by obtain⟨s0,s1,s2,s3,s4,s5⟩:=hS;go_simp) ?_;try simp only[zz]
  refine tk 16 (.int .i64 (n:Int)) AV ?_;try simp only[zz]
  refine tk 17 (.int .u64 (z:Int)) AV (hy:=fun u hS=>by subst hz;rcases Su with rfl | rfl | rfl <;> (go_simp;rfl)) ?_;try simp only[zz]
  refine Eg (rs:=[15]) zt zw<|EG rfl (fun K' hK'=>?_) Eh;go_simp;refine hK'.out _ _ AV fun _=>?_;try simp only[zz]
  refine tk 18 (.int .u64 (z:Int)) AV ?_;try simp only[zz]
  refine Eg (rs:=[19]) zt zw<|EG rfl (fun K' hK'=>?_) Eh;go_simp;obtain⟨U,hU⟩: ∃ U,{W.drew with heap:=W.drew.heap.setIfInBounds (w.heap.size+1+1) (.map #[{key:= .int .i64 (fx.2:Int),val:= .int .u64 (z:Int),born:=0}] 1)}=U:=⟨_,rfl⟩;have nb: ∀ j,j≠w.heap.size+1+1->U.heap[j]?=W.heap[j]?:=fun j hj=>by rw[<- hU];exact Array.getElem?_setIfInBounds_ne<|Ne.symm hj
  obtain⟨hB,b0,b1,b3,b2⟩:=HH.out;have l2:w.heap.size+1+1<W.heap.size:=Nat.lt_of_succ_lt b3.lt;have nm:U.heap[w.heap.size+1+1]?=some (.map #[{key:= .int .i64 (fx.2:Int),val:= .int .u64 (z:Int),born:=0}] 1):=by rw[<- hU];exact Array.getElem?_setIfInBounds_self_of_lt l2
  have J9:Bl w U:=hB.trans ⟨by rw[<- hU];rfl,by rw[<- hU];rfl,by rw[<- hU];rfl,by rw[<- hU];simp,fun k hk=>nb k zx⟩;have hS1:=AF (b0.of<|nb _ zx).one.1<|AF (b1.of<|nb _ zx).three.2.2.1<|AF (b3.of<|nb _ zx).one.1<|AF ((Am (a:=⟨q,0,none⟩)<|J9.block q Dv).trans q0)<|AF ((Am (a:=⟨p,0,none⟩)<|J9.block p hpl).trans p0)<|(Am (a:=⟨gf,n*8+2,none⟩)<|J9.block gf Kq).trans f2;subst hU;refine hK'.out _ _ hS1 fun _=>?_;refine Lp zt ?_ _;refine⟨⟨nb _ ?_,nb _ ?_⟩,J9,b0.of<|nb _ zx,b1.of<|nb _ zx,b3.of<|nb _ zx,by rw[if_neg zw];exact nm⟩
  ·show W4.heap.size≠_;omega
  ·show W4.heap.size+1≠_;omega
 case done=>
  rintro W ⟨hB,b0,b1,b3,b2⟩ hD;rw[hn,if_neg zw]at b2;have c3:=b3.one.1;go_wp2_with fail
  refine⟨zw,.inl ⟨_,_,rfl,run_takeDeferred hD,?_⟩⟩;exact⟨.map<|some<|w.heap.size+1+1,by simp[results,results286,go_sem],w.heap.size+1+1,rfl,zx,(World.putObj_heap_other (by show w.heap.size+1+1≠_;omega)).trans b2,hB.trans<|(Off.putObj (F:=[W4.heap.size]) (.deferred none) zw).below (fun i hi=>by simp at hi;omega) hB.size⟩
end Go.P
namespace Go.P
variable {w:World}{q b v:Nat}
def Uo (w:World) (q b v:Nat):Prop:=AJ w b #[.pointer<|Qb q 0] 329/\AJ w v #[.func (.func 285) #[] #[.pointer<|Qb b 0,.pointer<|Qb v 0]] 381
def Uo.below {u:World}(h:Uo w q b v)(hb:Bl w u):Uo u q b v:=⟨h.1.of<|hb.block _ h.1.lt,h.2.of<|hb.block _ h.2.lt⟩
def Z7l (hw:Uo w q b v)(k l0 l1 l2 l3:Nat)(CH: ∀ u,Bl w u->Calls prog 231 #[.pointer<|Qb q 0,.agg #[.int .u64 (l0:Int),.int .u64 (l1:Int),.int .u64 (l2:Int),.int .u64 (l3:Int)]] u fun e w'=>e= .returned (.bool false)/\Bl u w'):
  Calls prog 285 #[.int .i64 (k:Int),.agg #[.int .u64 (l0:Int),.int .u64 (l1:Int),.int .u64 (l2:Int),.int .u64 (l3:Int)],.pointer<|Qb b 0,.pointer<|Qb v 0] w fun e w'=>e= .returned (.bool true)/\Bl w w':=by
 have c0: ∀ o,(w.alloc o).cell? ⟨b,0,none⟩=_:=fun o=>(hw.1.alloc o).one.1;have HC:=AA fun o=>CH (w.alloc o) ((AQ _ w).alloc lr o);clear CH hw;refine Qx func285 rfl ?_;simp only[ntmps285,E9,BO,D7,Nat.reduceAdd,Nat.reduceSub,Ju,Jv,Jr,Jt,FK,Gm];go_wp2_with fail
 refine(HC.out _).mono ?_;rintro e w5 ⟨rfl,hb⟩;have hB:Bl w w5:=((AQ _ w).alloc lr _).trans<|hb.mono zw;clear hb;go_wp2_with fail
 exact⟨rfl,_,by simp[results,results285,go_sem],rfl,hB⟩
def Z7m (l0 l1 l2 l3:Nat)(r:Bool)(R:World->World->Prop)(CW: ∀ u b v,Bl w u->w.heap.size<=b->w.heap.size<=v->Uo u q b v->Calls prog 285 #[.int .i64 0,.agg #[.int .u64 (l0:Int),.int .u64 (l1:Int),.int .u64 (l2:Int),.int .u64 (l3:Int)],.pointer<|Qb b 0,.pointer<|Qb v 0] u fun e w'=>e= .returned (.bool r)/\R u w')(hR: ∀ u w',Bl w u->R u w'->R w w'):
  Calls prog 257 #[.pointer<|Qb q 0,.agg #[.int .u64 (l0:Int),.int .u64 (l1:Int),.int .u64 (l2:Int),.int .u64 (l3:Int)]] w fun e w'=>e= .returned (.bool r)/\R w w':=by
 have HC:=AA CW;clear CW;have hen: ∀ args w,(callFunc 285 args).run prog w= .ok (.enter 285 args) w:=DL func285 zt rfl;have Dw:=fun(fn:Fn) (first cap:Array Value) (w:World)=>(rfl:(Instr.makeFunc fn first cap).run prog w= .ok (.func fn first cap) w);have hst:=fun(a:Addr) (fn:Fn) (first cap:Array Value) (m:Mode) (w:World)=>run_store prog w a (.func fn first cap) m rfl;refine Qx func257 rfl ?_;simp only[ntmps257,E9,BO,D7,Nat.reduceAdd,Nat.reduceSub,Ju,Jv,Jr,Jt,FK,Gm];go_wp2_with fail
 refine(HC.out _ w.heap.size (w.heap.size+1+1) ((((AQ _ w).alloc lr _).alloc zw _).alloc (by simp;omega) _) lr zx ⟨((AJ.new w _ _).alloc _).alloc _,UC w _ _ _ _⟩).mono ?_;rintro e w5 ⟨rfl,hb⟩;have hB:=hR _ _ ((((AQ _ w).alloc lr _).alloc zw _).alloc (by simp;omega) _) hb;clear hb;go_wp2_with fail
 exact⟨rfl,_,by simp[results,results257,go_sem],rfl,hB⟩
end Go.P
namespace Go.W
def Qq.lt {w:World}{r:Nat}{fs:List (ByteArray×Nat)}(h:Qq w r fs):r<w.heap.size:=by
 obtain⟨es,c,h,_⟩:=h;exact(IU.1 h).1
end Go.W
namespace Go.P
def Wd.tK {w4 W5 U w6 W:World}{p:Nat}{fs:List (ByteArray×Nat)}{vs:List T}{F:List Nat}{k r:Nat}{fv vv:Value}{Ff Fv F6:List Nat}{x:ByteArray×Nat}{g6 Bt:Nat}(D4:Wd w4 p fs vs F k r fv vv Ff Fv)(O5:Off [k] w4 W5)(Xm:Qq W5 k (fs++[x]))(hU:Off [] W5 U)(AM:MJ 320 8 Py 0 U w6 fs Ff [] x g6 Bt F6)(hW:W=w6.setCell ⟨p,0,none⟩ (.slice (Qb g6 0) (fs.length+1) Bt)):
  ∃ F',Bv W p (fs++[x]) vs F'/\Off F w4 W/\ ∀ i,i∈F'->i∈F\/w4.heap.size<=i:=by
 subst hW;obtain⟨⟨pk,pr,pf,pv⟩,⟨kr,kf,kv⟩,⟨rf,rv⟩,nf,nv,iH⟩:=D4.apart;have hown:=D4.own;have Im:=D4.new.lt;rw[hown]at Im;have s5:=O5.size;have sU:=hU.size;have s6:=AM.size;have up: ∀ j,j<w4.heap.size->j≠k->j∉Ff->w6.heap[j]?=w4.heap[j]?:=fun j hj hr hv=>(AM.same j zx hv).trans ((hU.block j zx zw).trans<|O5.block j hj (by simpa using hr));have Di: ∀ j,j∈F6->j∈Ff\/w4.heap.size<=j:=fun j hj=>by
  rcases AM.sub j hj with h | h | h
  ·exact .inl h
  ·cases h
  ·exact .inr zx
 have QU: ∀ j,j<w4.heap.size->j∉Ff->j∉F6:=fun j hj hn hF=>(Di j hF).elim hn zx;have lp:=Im p zw;have lk:=Im k zw;have lr:=Im r zw;have lv: ∀ j,j∈Fv->j<w4.heap.size:=fun j hj=>Im j (by simp[hj]);have Xt: ∀ j,j<w4.heap.size->j≠k->j∉Ff->j≠p->(w6.setCell ⟨p,0,none⟩<|.slice (Qb g6 0) (fs.length+1) Bt).heap[j]?=w4.heap[j]?:=fun j hj hr hv hp=>(Au w6 ⟨p,0,none⟩ _ j hp).trans (up j hj hr hv);have hkW:(w6.setCell ⟨p,0,none⟩<|.slice (Qb g6 0) (fs.length+1) Bt).heap[k]?=W5.heap[k]?:=(Au w6 ⟨p,0,none⟩ _ k<|Ne.symm pk).trans<|(AM.same k zx kf).trans<|hU.block k zx zw;have hs:(w6.setCell ⟨p,0,none⟩<|.slice (Qb g6 0) (fs.length+1) Bt).heap.size=w6.heap.size:=by simp[World.setCell]
 refine⟨p::k::r::(F6++Fv),⟨k,r,.slice (Qb g6 0) (fs.length+1) Bt,vv,F6,Fv,?_,?_,?_,Xm.of hkW,D4.num.of<|Xt r lr (Ne.symm kr) rf<|Ne.symm pr,rfl,?_,fun _ _=>Ii _,?_⟩,?_,?_⟩
 ·exact(D4.blk.of<|up p lp pk pf).set 0 _
 ·exact AO.stable Py.stable _ _ _ _ _ AM.row fun j hj=>Au _ _ _ _ (fun e=>QU p lp pf (by rw[show p=j from e.symm];exact hj))
 ·exact AO.stable KG.stable _ _ _ _ _ D4.vals fun j hj=>Xt j (lv j hj) (fun e=>kv (e▸hj)) (fun h=>iH j h hj) (fun e=>pv (e▸hj))
 ·simp only[List.nodup_cons,Be,CY,not_or,Qy];exact⟨⟨pk,pr,QU p lp pf,pv⟩,⟨kr,QU k lk kf,kv⟩,⟨QU r lr rf,rv⟩,AM.new.once,nv,fun a ha b hb e=>QU b (lv b hb) (fun h=>iH b h hb) (e▸ha)⟩
 ·intro j hj
  have:=AM.new.lt
  simp only[Be,CY]at hj;rcases hj with rfl | rfl | rfl | hj | hj
  ·omega
  ·omega
  ·omega
  ·have:=this j hj;omega
  ·have:=lv j hj;omega
 ·refine⟨AM.os.trans<|hU.os.trans O5.os,AM.tape.trans<|hU.tape.trans O5.tape,AM.output.trans<|hU.output.trans O5.output,zx,fun j hj hn=>?_⟩;rw[hown]at hn;simp only[Be,CY,not_or]at hn;exact Xt j hj hn.2.1 hn.2.2.2.1 hn.1
 ·intro i hi;rw[hown];simp only[Be,CY]at hi⊢;rcases hi with rfl | rfl | rfl | hi | hi
  ·simp
  ·simp
  ·simp
  ·rcases Di i hi with h | h
   ·simp[h]
   ·exact .inr h
  ·simp[hi]
end Go.P
