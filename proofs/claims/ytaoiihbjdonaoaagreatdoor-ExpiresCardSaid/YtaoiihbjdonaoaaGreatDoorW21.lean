import Derived.Test.YtaoiihbjdonaoaaGreatDoorW20
set_option linter.defProp false
set_option maxRecDepth 100000
set_option maxHeartbeats 8000000
set_option linter.unusedSimpArgs false
open Go.Proofs Go.RowKit Go.W Tryz
namespace Go.P
open Go.RowKit Go.Extern.Stop Go.Stop Go.Extern
def Zy7 (t:Addr)(w:World):(ReflectliteValue.unpack<|.iface 91<|.pointer<|some t).run prog w
  = .ok (.agg #[zq 23 91,zq w.heap.size 0,.int .u64 150]) (w.alloc<|.cells #[.pointer<|some t] 91):=zt
def Yew (a:Addr)(w:World):(ReflectliteValue.methodAny (ReflectliteValue.valueError "reflectlite.Value.Type" 0) (fun t _ _ _=>ReflectliteType.toType t) #[.agg #[zq 23 91,.pointer<|some a,.int .u64 150]]).run prog w
  = .ok (.iface 188<|.agg #[zq 23 91]) w:=zt
def Zt0 (h:Value)(w:World):(Go.method 531 188 (.agg #[h]) "Kind").run prog w= .ok (289,h) w:=zt
def Yem (w:World):((ReflectliteType.abiMethod fun t=>(fun a:Nat=>Value.int IntKind.u8 (a:Int)) <$> Rtype.kind t) #[zq 23 91]).run prog w= .ok (.int .u8 22) w:=zt
def Yin (w:World):((ReflectliteType.abiMethod fun t=>(fun a:Nat=>Value.int IntKind.u8 (a:Int)) <$> Rtype.kind t) #[zq 23 89]).run prog w= .ok (.int .u8 22) w:=zt
def Ykb (z:Sem Value)(f:TypeId->Addr->Nat->Nat->Sem Value)(a:Addr)(w:World):(ReflectliteValue.method z f #[.agg #[zq 23 91,.pointer<|some a,.int .u64 150]]).run prog w=(f 91 a 150 22).run prog w:=zt
def Z9d (a p:Addr)(W:World)(ha:W.cell? a=some (.pointer<|some p)):
  (ReflectliteValue.method (ReflectliteValue.valueError "reflectlite.Value.IsNil" 0) ReflectliteValue.isNil #[.agg #[zq 23 91,.pointer<|some a,.int .u64 150]]).run prog W= .ok (.bool false) W:=by
 rw[Ykb];simp[ReflectliteValue.isNil,loadVar,isAgg,underlying,underlying91,ha,Result.andThen]
def Ztz (h:Value)(w:World):(Go.method 531 188 (.agg #[h]) "Elem").run prog w= .ok (302,.agg #[h]) w:=zt
def Zi0 (h:Value)(w:World):(Go.method 531 188 (.agg #[h]) "Implements").run prog w= .ok (303,.agg #[h]) w:=zt
def Zha (h:Value)(w:World):(Go.method 531 188 (.agg #[h]) "AssignableTo").run prog w= .ok (300,.agg #[h]) w:=zt
def Yeh (w:World):(ReflectliteType.method ReflectliteType.elem #[.agg #[zq 23 91]]).run prog w= .ok (.iface 188<|.agg #[zq 23 89]) w:=zt
def Zqz (w:World):(ReflectliteType.relation "Implements" ReflectliteType.implements_ #[.agg #[zq 23 89],.iface 188<|.agg #[zq 23 67]]).run prog w= .ok (.bool true) w:=zt
def Yg0 (v:Value)(w:World):(ReflectliteType.typeOf #[.iface 89 v]).run prog w= .ok (.iface 188<|.agg #[zq 23 89]) w:=zt
def Zzu (w:World):(ReflectliteType.relation "AssignableTo" ReflectliteType.assignableTo #[.agg #[zq 23 89],.iface 188<|.agg #[zq 23 89]]).run prog w= .ok (.bool true) w:=zt
def Zzt (w:World):(ReflectliteType.relation "AssignableTo" ReflectliteType.assignableTo #[.agg #[zq 23 388],.iface 188<|.agg #[zq 23 89]]).run prog w= .ok (.bool false) w:=zt
def Ydy (e:Addr)(w:World):(ReflectliteValue.unpack<|.iface 89<|.pointer<|some e).run prog w
  = .ok (.agg #[zq 23 89,zq w.heap.size 0,.int .u64 150]) (w.alloc<|.cells #[.pointer<|some e] 89):=zt
def Yj0 (v:Value)(xT:TypeId)(w:World):(Instr.typeAssert (.iface 388 v) xT 198 true).run prog w= .ok (.tuple #[.nilIface,.bool false]) w:=run_typeAssert_lacksB underlying198 zt zt v xT w
def Ybw (w:World):(Rtype.elem? 91).run prog w= .ok (some 89) w:=zt
def mkP (p:Addr)(w:World):(ReflectliteValue.mk 89 p ReflectliteValue.flagAddr).run prog w= .ok (.agg #[zq 23 89,.pointer<|some p,.int .u64 406]) w:=zt
def Yfw (a p:Addr)(W:World)(ha:W.cell? a=some (.pointer<|some p)):
  (ReflectliteValue.method (ReflectliteValue.valueError "reflectlite.Value.Elem" 0) ReflectliteValue.elem #[.agg #[zq 23 91,.pointer<|some a,.int .u64 150]]).run prog W
   = .ok (.agg #[zq 23 89,.pointer<|some p,.int .u64 406]) W:=by
 rw[Ykb];simp[ReflectliteValue.elem,loadVar,isAgg,underlying,underlying91,ha,Result.andThen,Ybw,mkP]
def Ygg (a:Addr)(w:World):(ReflectliteValue.parts<|.agg #[zq 23 89,.pointer<|some a,.int .u64 406]).run prog w= .ok (some (89,a,406)) w:=zt
def Yix (a:Addr)(w:World):(ReflectliteValue.parts<|.agg #[zq 23 89,.pointer<|some a,.int .u64 150]).run prog w= .ok (some (89,a,150)) w:=zt
def Yfr (w:World):(Rtype.directlyAssignable 89 89).run prog w= .ok true w:=zt
def Ygs (v x:Value)(f:Value->Value->Sem Value)(g:Array Value->Sem Value):ReflectliteValue.set.match_3 (fun _=>Sem Value) #[v,x] f g=f v x:=rfl
def Yki (ta b e:Addr)(old:Value)(W:World)(hb:W.cell? b=some (.pointer<|some e))(ht:W.cell? ta=some old)(hf:W.frozen? ta=false):
  (ReflectliteValue.set #[.agg #[zq 23 89,.pointer<|some ta,.int .u64 406],.agg #[zq 23 89,.pointer<|some b,.int .u64 150]]).run prog W
   = .ok (.tuple #[]) (W.setCell ta<|.pointer<|some e):=by
 delta ReflectliteValue.set
 rw[Ygs];simp only[Uz,Ygg,Yix,Result.andThen];simp[ReflectliteValue.flagAddr,loadVar,isAgg,underlying,underlying89,hb,Result.andThen,Yfr,storeVar,Value.cells,storeCells,Addr.add];rw[run_store prog W ta _ _ (by rfl)];simp[ht,hf]
def Yh5 (e t:Addr)(old:Value)(w:World)(hg:w.cell? (zm 10 0)=some (.iface 188<|.agg #[zq 23 67]))(Ib:w.cell? t=some old)(jD:w.frozen? t=false):
  Calls prog 24 #[.iface 89<|.pointer<|some e,.iface 91<|.pointer<|some t] w fun ev w'=>ev= .returned (.bool true)/\w'=((((w.alloc<|.cells #[.pointer<|some t] 91).alloc<|.cells #[zq 23 91,zq w.heap.size 0,.int .u64 150] 133).alloc<|.cells #[zq 23 91,zq w.heap.size 0,.int .u64 150] 133).alloc<|.cells #[.pointer<|some e] 89).setCell t (.pointer<|some e):=by
 have h6:= @JA prog 47 _ (fun args=>ReflectliteValue.unpack (args.getD 0<|.tuple #[])) func47 zt zt zt zt;have h7:= @JA prog 48 _ (ReflectliteValue.methodAny (ReflectliteValue.valueError "reflectlite.Value.Type" 0) fun t _ _ _=>ReflectliteType.toType t) func48 zt zt zt zt;have h8:= @JA prog 49 _ (ReflectliteValue.method (ReflectliteValue.valueError "reflectlite.Value.IsNil" 0) ReflectliteValue.isNil) func49 zt zt zt zt;have h27:= @JA prog 289 _ (ReflectliteType.abiMethod fun t=>do pure (.int .u8<|<- Rtype.kind t)) func289 zt zt zt zt;have h37:= @JA prog 302 _ (ReflectliteType.method ReflectliteType.elem) func302 zt zt zt zt;have h38:= @JA prog 303 _ (ReflectliteType.relation "Implements" ReflectliteType.implements_) func303 zt zt zt zt;have h10:= @JA prog 45 _ ReflectliteType.typeOf func45 zt zt zt zt;have h35:= @JA prog 300 _ (ReflectliteType.relation "AssignableTo" ReflectliteType.assignableTo) func300 zt zt zt zt;have h11:= @JA prog 89 _ (ReflectliteValue.method (ReflectliteValue.valueError "reflectlite.Value.Elem" 0) ReflectliteValue.elem) func89 zt zt zt zt;have uV:= @JA prog 90 _ ReflectliteValue.set func90 zt zt zt zt;have tO:=Yg0;have a25:=Zzu;have v25:=Ydy;have mA:=Zha;have f6:=Zy7;have f7:=Yew;have mK:=Zt0;have mE:=Ztz;have mI:=Zi0;have k27:=Yem;have k25:=Yin;have e27:=Yeh;have i25:=Zqz;have n8:=Z9d (zm w.heap.size 0) t ((w.alloc<|.cells #[.pointer<|some t] 91).alloc<|.cells #[zq 23 91,zq w.heap.size 0,.int .u64 150] 133) zw;have hlt:10<w.heap.size:=by
  rcases Qp 10 w.heap.size with h | h
  ·exact h
  ·simp[World.cell?,Zj h]at hg
 have hg2:((w.alloc<|.cells #[.pointer<|some t] 91).alloc<|.cells #[zq 23 91,zq w.heap.size 0,.int .u64 150] 133).cell? (zm 10 0)=some (.iface 188<|.agg #[zq 23 67]):=by
  rw[Zk _ _ (zm 10 0) (by simp;omega),Zk _ _ (zm 10 0) hlt];exact hg
 have JW:t.block<w.heap.size:=by
  rcases Qp t.block w.heap.size with h | h
  ·exact h
  ·simp[World.cell?,Zj h]at Ib
 have el:=Yfw (zm w.heap.size 0) t (((w.alloc<|.cells #[.pointer<|some t] 91).alloc<|.cells #[zq 23 91,zq w.heap.size 0,.int .u64 150] 133).alloc<|.cells #[zq 23 91,zq w.heap.size 0,.int .u64 150] 133) (by rw[Zk _ _ (zm w.heap.size 0) (by simp;omega)];simp);have st:=Yki t (zm (w.heap.size+1+1+1) 0) e old ((((w.alloc<|.cells #[.pointer<|some t] 91).alloc<|.cells #[zq 23 91,zq w.heap.size 0,.int .u64 150] 133).alloc<|.cells #[zq 23 91,zq w.heap.size 0,.int .u64 150] 133).alloc<|.cells #[.pointer<|some e] 89)
  (by rw[World.cell?_alloc_at _ _ _ _ zw];rfl)
  (by rw[Zk _ _ t (by simp;omega),Zk _ _ t (by simp;omega),Zk _ _ t (by simp;omega),Zk _ _ t JW];exact Ib)
  (by rw[World.frozen?_alloc_old _ _ t (by simp;omega),World.frozen?_alloc_old _ _ t (by simp;omega),World.frozen?_alloc_old _ _ t (by simp;omega),World.frozen?_alloc_old _ _ t<|Nat.ne_of_lt JW];exact jD)
 go_in
 go_wp2
 refine YA 1 ?_;rw[Tt];go_wp2
 go_ret
 exact⟨rfl,rfl⟩
def Yff (a t:Addr)(w:World)(hg:w.cell? (zm 10 0)=some (.iface 188<|.agg #[zq 23 67])):
  Calls prog 24 #[.iface 388<|.pointer<|some a,.iface 91<|.pointer<|some t] w fun ev w'=>ev= .returned (.bool false)/\w'=(((w.alloc<|.cells #[.pointer<|some t] 91).alloc<|.cells #[zq 23 91,zq w.heap.size 0,.int .u64 150] 133).alloc<|.cells #[zq 23 91,zq w.heap.size 0,.int .u64 150] 133):=by
 have h6:= @JA prog 47 _ (fun args=>ReflectliteValue.unpack (args.getD 0<|.tuple #[])) func47 zt zt zt zt;have h7:= @JA prog 48 _ (ReflectliteValue.methodAny (ReflectliteValue.valueError "reflectlite.Value.Type" 0) fun t _ _ _=>ReflectliteType.toType t) func48 zt zt zt zt;have h8:= @JA prog 49 _ (ReflectliteValue.method (ReflectliteValue.valueError "reflectlite.Value.IsNil" 0) ReflectliteValue.isNil) func49 zt zt zt zt;have h27:= @JA prog 289 _ (ReflectliteType.abiMethod fun t=>do pure (.int .u8<|<- Rtype.kind t)) func289 zt zt zt zt;have h37:= @JA prog 302 _ (ReflectliteType.method ReflectliteType.elem) func302 zt zt zt zt;have h38:= @JA prog 303 _ (ReflectliteType.relation "Implements" ReflectliteType.implements_) func303 zt zt zt zt;have h10:= @JA prog 45 _ ReflectliteType.typeOf func45 zt zt zt zt;have h35:= @JA prog 300 _ (ReflectliteType.relation "AssignableTo" ReflectliteType.assignableTo) func300 zt zt zt zt;have tO:=qR;have a25:=Zzt;have nA:=Yj0;have uE:=Zq9;have vE:=Znn;have mA:=Zha;have f6:=Zy7;have f7:=Yew;have mK:=Zt0;have mE:=Ztz;have mI:=Zi0;have k27:=Yem;have k25:=Yin;have e27:=Yeh;have i25:=Zqz;have n8:=Z9d (zm w.heap.size 0) t ((w.alloc<|.cells #[.pointer<|some t] 91).alloc<|.cells #[zq 23 91,zq w.heap.size 0,.int .u64 150] 133) zw;have hlt:10<w.heap.size:=by
  rcases Qp 10 w.heap.size with h | h
  ·exact h
  ·simp[World.cell?,Zj h]at hg
 have hg2:((w.alloc<|.cells #[.pointer<|some t] 91).alloc<|.cells #[zq 23 91,zq w.heap.size 0,.int .u64 150] 133).cell? (zm 10 0)=some (.iface 188<|.agg #[zq 23 67]):=by
  rw[Zk _ _ (zm 10 0) (by simp;omega),Zk _ _ (zm 10 0) hlt];exact hg
 go_in
 go_wp2
 refine YA 1 ?_;rw[Tt];go_wp2
 go_ret
 exact⟨rfl,rfl⟩
end Go.P
