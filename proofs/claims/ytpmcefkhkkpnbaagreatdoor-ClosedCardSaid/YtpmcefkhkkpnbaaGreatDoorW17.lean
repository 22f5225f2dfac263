import Derived.Test.YtpmcefkhkkpnbaaGreatDoorW16
set_option linter.all false
set_option maxRecDepth 100000
set_option maxHeartbeats 8000000
open Go.Proofs Go.RowKit Go.W Tryz
namespace Go.W
section
open Go.Extern.Stop Go.Stop Go.Extern
def Zy7 (t:Addr)(w:Bb):(ReflectliteValue.unpack<|.iface 88<|.pointer<|some t).run prog w
  = .ok (.agg #[zq 24 88,zq w.heap.size 0,.int .u64 150]) (w.alloc<|.cells #[.pointer<|some t] 88):=zt
def Yew (a:Addr)(w:Bb):(ReflectliteValue.methodAny (ReflectliteValue.valueError "reflectlite.Value.Type" 0) (fun t _ _ _=>ReflectliteType.toType t) #[.agg #[zq 24 88,.pointer<|some a,.int .u64 150]]).run prog w
  = .ok (.iface 245<|.agg #[zq 24 88]) w:=zt
def Zt0 (h:Value)(w:Bb):(Go.method 573 245 (.agg #[h]) "Kind").run prog w= .ok (323,h) w:=zt
def Yem (w:Bb):((ReflectliteType.abiMethod fun t=>(fun a:Nat=>Value.int IntKind.u8 (a:Int)) <$> Rtype.kind t) #[zq 24 88]).run prog w= .ok (yS 22) w:=zt
def Yin (w:Bb):((ReflectliteType.abiMethod fun t=>(fun a:Nat=>Value.int IntKind.u8 (a:Int)) <$> Rtype.kind t) #[zq 24 86]).run prog w= .ok (yS 22) w:=zt
def Ykb (z:Sem Value)(f:TypeId->Addr->Nat->Nat->Sem Value)(a:Addr)(w:Bb):(ReflectliteValue.method z f #[.agg #[zq 24 88,.pointer<|some a,.int .u64 150]]).run prog w=(f 88 a 150 22).run prog w:=zt
def Z9d (a p:Addr)(W:Bb)(ha:W.cell? a=some (.pointer<|some p)):
  (ReflectliteValue.method (ReflectliteValue.valueError "reflectlite.Value.IsNil" 0) ReflectliteValue.isNil #[.agg #[zq 24 88,.pointer<|some a,.int .u64 150]]).run prog W= .ok (.bool false) W:=by
 rw[Ykb];simp[ReflectliteValue.isNil,loadVar,isAgg,underlying,underlying88,ha,Result.andThen]
def Ztz (h:Value)(w:Bb):(Go.method 573 245 (.agg #[h]) "Elem").run prog w= .ok (337,.agg #[h]) w:=zt
def Zi0 (h:Value)(w:Bb):(Go.method 573 245 (.agg #[h]) "Implements").run prog w= .ok (338,.agg #[h]) w:=zt
def Zha (h:Value)(w:Bb):(Go.method 573 245 (.agg #[h]) "AssignableTo").run prog w= .ok (335,.agg #[h]) w:=zt
def Yeh (w:Bb):(ReflectliteType.method ReflectliteType.elem #[.agg #[zq 24 88]]).run prog w= .ok (.iface 245<|.agg #[zq 24 86]) w:=zt
def Zqz (w:Bb):(ReflectliteType.relation "Implements" ReflectliteType.implements_ #[.agg #[zq 24 86],.iface 245<|.agg #[zq 24 57]]).run prog w= .ok (.bool true) w:=zt
def Yg0 (v:Value)(w:Bb):(ReflectliteType.typeOf #[.iface 86 v]).run prog w= .ok (.iface 245<|.agg #[zq 24 86]) w:=zt
def Zzu (w:Bb):(ReflectliteType.relation "AssignableTo" ReflectliteType.assignableTo #[.agg #[zq 24 86],.iface 245<|.agg #[zq 24 86]]).run prog w= .ok (.bool true) w:=zt
def Zzt (w:Bb):(ReflectliteType.relation "AssignableTo" ReflectliteType.assignableTo #[.agg #[zq 24 430],.iface 245<|.agg #[zq 24 86]]).run prog w= .ok (.bool false) w:=zt
def Ydy (e:Addr)(w:Bb):(ReflectliteValue.unpack<|.iface 86<|.pointer<|some e).run prog w
  = .ok (.agg #[zq 24 86,zq w.heap.size 0,.int .u64 150]) (w.alloc<|.cells #[.pointer<|some e] 86):=zt
def Yj0 (v:Value)(xT:TypeId)(w:Bb):(Instr.typeAssert (.iface 430 v) xT 255 true).run prog w= .ok (.tuple #[.nilIface,.bool false]) w:=run_typeAssert_lacksB underlying255 zt zt v xT w
def Ybw (w:Bb):(Rtype.elem? 88).run prog w= .ok (some 86) w:=zt
def mkP (p:Addr)(w:Bb):(ReflectliteValue.mk 86 p ReflectliteValue.flagAddr).run prog w= .ok (.agg #[zq 24 86,.pointer<|some p,.int .u64 406]) w:=zt
def Yfw (a p:Addr)(W:Bb)(ha:W.cell? a=some (.pointer<|some p)):
  (ReflectliteValue.method (ReflectliteValue.valueError "reflectlite.Value.Elem" 0) ReflectliteValue.elem #[.agg #[zq 24 88,.pointer<|some a,.int .u64 150]]).run prog W
   = .ok (.agg #[zq 24 86,.pointer<|some p,.int .u64 406]) W:=by
 rw[Ykb];simp[ReflectliteValue.elem,loadVar,isAgg,underlying,underlying88,ha,Result.andThen,Ybw,mkP]
def Ygg (a:Addr)(w:Bb):(ReflectliteValue.parts<|.agg #[zq 24 86,.pointer<|some a,.int .u64 406]).run prog w= .ok (some (86,a,406)) w:=zt
def Yix (a:Addr)(w:Bb):(ReflectliteValue.parts<|.agg #[zq 24 86,.pointer<|some a,.int .u64 150]).run prog w= .ok (some (86,a,150)) w:=zt
def Yfr (w:Bb):(Rtype.directlyAssignable 86 86).run prog w= .ok true w:=zt
def Ygs (v x:Value)(f:Value->Value->Sem Value)(g:Ca->Sem Value):ReflectliteValue.set.match_3 (fun _=>Sem Value) #[v,x] f g=f v x:=rfl
def Yki (ta b e:Addr)(old:Value)(W:Bb)(hb:W.cell? b=some (.pointer<|some e))(ht:W.cell? ta=some old)(hf:W.frozen? ta=false):
  (ReflectliteValue.set #[.agg #[zq 24 86,.pointer<|some ta,.int .u64 406],.agg #[zq 24 86,.pointer<|some b,.int .u64 150]]).run prog W
   = .ok (.tuple #[]) (W.setCell ta<|.pointer<|some e):=by
 delta ReflectliteValue.set
 rw[Ygs];simp only[Uz,Ygg,Yix,Result.andThen];simp[ReflectliteValue.flagAddr,loadVar,isAgg,underlying,underlying86,hb,Result.andThen,Yfr,storeVar,Value.cells,storeCells,Addr.add];rw[run_store prog W ta _ _ (by rfl)];simp[ht,hf]
def Yh5 (e t:Addr)(old:Value)(w:Bb)(hg:w.cell? (zm 10 0)=some (.iface 245<|.agg #[zq 24 57]))(Ib:w.cell? t=some old)(jD:w.frozen? t=false):
  Calls prog 28 #[.iface 86<|.pointer<|some e,.iface 88<|.pointer<|some t] w fun ev w'=>ev=uY (.bool true)/\w'=((((w.alloc<|.cells #[.pointer<|some t] 88).alloc<|.cells #[zq 24 88,zq w.heap.size 0,.int .u64 150] 168).alloc<|.cells #[zq 24 88,zq w.heap.size 0,.int .u64 150] 168).alloc<|.cells #[.pointer<|some e] 86).setCell t (.pointer<|some e):=by
 have h6:= @JA prog 64 _ (fun args=>ReflectliteValue.unpack (args.getD 0<|.tuple #[])) func64 zt zt zt zt;have h7:= @JA prog 65 _ (ReflectliteValue.methodAny (ReflectliteValue.valueError "reflectlite.Value.Type" 0) fun t _ _ _=>ReflectliteType.toType t) func65 zt zt zt zt;have h8:= @JA prog 66 _ (ReflectliteValue.method (ReflectliteValue.valueError "reflectlite.Value.IsNil" 0) ReflectliteValue.isNil) func66 zt zt zt zt;have h27:= @JA prog 323 _ (ReflectliteType.abiMethod fun t=>do pure (.int .u8<|<- Rtype.kind t)) func323 zt zt zt zt;have h37:= @JA prog 337 _ (ReflectliteType.method ReflectliteType.elem) func337 zt zt zt zt;have h38:= @JA prog 338 _ (ReflectliteType.relation "Implements" ReflectliteType.implements_) func338 zt zt zt zt;have h10:= @JA prog 62 _ ReflectliteType.typeOf func62 zt zt zt zt;have h35:= @JA prog 335 _ (ReflectliteType.relation "AssignableTo" ReflectliteType.assignableTo) func335 zt zt zt zt;have h11:= @JA prog 124 _ (ReflectliteValue.method (ReflectliteValue.valueError "reflectlite.Value.Elem" 0) ReflectliteValue.elem) func124 zt zt zt zt;have uV:= @JA prog 125 _ ReflectliteValue.set func125 zt zt zt zt;have tO:=Yg0;have a25:=Zzu;have v25:=Ydy;have mA:=Zha;have f6:=Zy7;have f7:=Yew;have mK:=Zt0;have mE:=Ztz;have mI:=Zi0;have k27:=Yem;have k25:=Yin;have e27:=Yeh;have i25:=Zqz;have n8:=Z9d (zm w.heap.size 0) t ((w.alloc<|.cells #[.pointer<|some t] 88).alloc<|.cells #[zq 24 88,zq w.heap.size 0,.int .u64 150] 168) zw;have hlt:10<w.heap.size:=by
  rcases Qp 10 w.heap.size with h | h
  .exact h
  .simp[World.cell?,Zj h]at hg
 have hg2:((w.alloc<|.cells #[.pointer<|some t] 88).alloc<|.cells #[zq 24 88,zq w.heap.size 0,.int .u64 150] 168).cell? (zm 10 0)=some (.iface 245<|.agg #[zq 24 57]):=by
  rw[Zk _ _ (zm 10 0) zc,Zk _ _ (zm 10 0) hlt];exact hg
 have JW:t.block<w.heap.size:=by
  rcases Qp t.block w.heap.size with h | h
  .exact h
  .simp[World.cell?,Zj h]at Ib
 have el:=Yfw (zm w.heap.size 0) t (((w.alloc<|.cells #[.pointer<|some t] 88).alloc<|.cells #[zq 24 88,zq w.heap.size 0,.int .u64 150] 168).alloc<|.cells #[zq 24 88,zq w.heap.size 0,.int .u64 150] 168) (by rw[Zk _ _ (zm w.heap.size 0) zc];simp);have st:=Yki t (zm (w.heap.size+1+1+1) 0) e old ((((w.alloc<|.cells #[.pointer<|some t] 88).alloc<|.cells #[zq 24 88,zq w.heap.size 0,.int .u64 150] 168).alloc<|.cells #[zq 24 88,zq w.heap.size 0,.int .u64 150] 168).alloc<|.cells #[.pointer<|some e] 86)
  (by rw[World.cell?_alloc_at _ _ _ _ zw];rfl)
  (by rw[Zk _ _ t zc,Zk _ _ t zc,Zk _ _ t zc,Zk _ _ t JW];exact Ib)
  (by rw[World.frozen?_alloc_old _ _ t zc,World.frozen?_alloc_old _ _ t zc,World.frozen?_alloc_old _ _ t zc,World.frozen?_alloc_old _ _ t<|Nat.ne_of_lt JW];exact jD)
 go_in
 go_wp2
 refine YA 1 ?_;rw[Tt];go_wp2
 go_ret
 exact⟨rfl,rfl⟩
def Yff (a t:Addr)(w:Bb)(hg:w.cell? (zm 10 0)=some (.iface 245<|.agg #[zq 24 57])):
  Calls prog 28 #[.iface 430<|.pointer<|some a,.iface 88<|.pointer<|some t] w fun ev w'=>ev=uY (.bool false)/\w'=(((w.alloc<|.cells #[.pointer<|some t] 88).alloc<|.cells #[zq 24 88,zq w.heap.size 0,.int .u64 150] 168).alloc<|.cells #[zq 24 88,zq w.heap.size 0,.int .u64 150] 168):=by
 have h6:= @JA prog 64 _ (fun args=>ReflectliteValue.unpack (args.getD 0<|.tuple #[])) func64 zt zt zt zt;have h7:= @JA prog 65 _ (ReflectliteValue.methodAny (ReflectliteValue.valueError "reflectlite.Value.Type" 0) fun t _ _ _=>ReflectliteType.toType t) func65 zt zt zt zt;have h8:= @JA prog 66 _ (ReflectliteValue.method (ReflectliteValue.valueError "reflectlite.Value.IsNil" 0) ReflectliteValue.isNil) func66 zt zt zt zt;have h27:= @JA prog 323 _ (ReflectliteType.abiMethod fun t=>do pure (.int .u8<|<- Rtype.kind t)) func323 zt zt zt zt;have h37:= @JA prog 337 _ (ReflectliteType.method ReflectliteType.elem) func337 zt zt zt zt;have h38:= @JA prog 338 _ (ReflectliteType.relation "Implements" ReflectliteType.implements_) func338 zt zt zt zt;have h10:= @JA prog 62 _ ReflectliteType.typeOf func62 zt zt zt zt;have h35:= @JA prog 335 _ (ReflectliteType.relation "AssignableTo" ReflectliteType.assignableTo) func335 zt zt zt zt;have tO:=qR;have a25:=Zzt;have nA:=Yj0;have uE:=Zq9;have vE:=Znn;have mA:=Zha;have f6:=Zy7;have f7:=Yew;have mK:=Zt0;have mE:=Ztz;have mI:=Zi0;have k27:=Yem;have k25:=Yin;have e27:=Yeh;have i25:=Zqz;have n8:=Z9d (zm w.heap.size 0) t ((w.alloc<|.cells #[.pointer<|some t] 88).alloc<|.cells #[zq 24 88,zq w.heap.size 0,.int .u64 150] 168) zw;have hlt:10<w.heap.size:=by
  rcases Qp 10 w.heap.size with h | h
  .exact h
  .simp[World.cell?,Zj h]at hg
 have hg2:((w.alloc<|.cells #[.pointer<|some t] 88).alloc<|.cells #[zq 24 88,zq w.heap.size 0,.int .u64 150] 168).cell? (zm 10 0)=some (.iface 245<|.agg #[zq 24 57]):=by
  rw[Zk _ _ (zm 10 0) zc,Zk _ _ (zm 10 0) hlt];exact hg
 go_in
 go_wp2
 refine YA 1 ?_;rw[Tt];go_wp2
 go_ret
 exact⟨rfl,rfl⟩
end
end Go.W
