import Derived.Test.YtmebjfclpalmaaaGreatDoorW19
set_option maxRecDepth 100000
set_option maxHeartbeats 8000000
set_option linter.unusedSimpArgs false
open Go.Proofs Go.RowKit Go.W Tryz
namespace Go.P
open Go.RowKit Go.Extern.Stop Go.Stop Go.Extern
theorem Zu9 (t:Addr)(w:World):(ReflectliteValue.unpack (.iface 99 (.pointer (some t)))).run prog w
  = .ok (.agg #[.pointer (some ⟨23,99,none⟩),.pointer (some ⟨w.heap.size,0,none⟩),.int .u64 150]) (w.alloc (.cells #[.pointer (some t)] 99)):=by kernel_rfl
theorem Z8e (a:Addr)(w:World):(ReflectliteValue.methodAny (ReflectliteValue.valueError "reflectlite.Value.Type" 0) (fun t _ _ _=>ReflectliteType.toType t) #[.agg #[.pointer (some ⟨23,99,none⟩),.pointer (some a),.int .u64 150]]).run prog w
  = .ok (.iface 210 (.agg #[.pointer (some ⟨23,99,none⟩)])) w:=by kernel_rfl
theorem Zq0 (h:Value)(w:World):(Go.method 546 210 (.agg #[h]) "Kind").run prog w= .ok (305,h) w:=by kernel_rfl
theorem Z75 (w:World):((ReflectliteType.abiMethod fun t=>(fun a:Nat=>Value.int IntKind.u8 (a:Int)) <$> Rtype.kind t) #[.pointer (some ⟨23,99,none⟩)]).run prog w= .ok (.int .u8 22) w:=by kernel_rfl
theorem Ybl (w:World):((ReflectliteType.abiMethod fun t=>(fun a:Nat=>Value.int IntKind.u8 (a:Int)) <$> Rtype.kind t) #[.pointer (some ⟨23,97,none⟩)]).run prog w= .ok (.int .u8 22) w:=by kernel_rfl
theorem Ycq (z:Sem Value)(f:TypeId->Addr->Nat->Nat->Sem Value)(a:Addr)(w:World):(ReflectliteValue.method z f #[.agg #[.pointer (some ⟨23,99,none⟩),.pointer (some a),.int .u64 150]]).run prog w=(f 99 a 150 22).run prog w:=by kernel_rfl
theorem Z3l (a p:Addr)(W:World)(ha:W.cell? a=some (.pointer (some p))):
  (ReflectliteValue.method (ReflectliteValue.valueError "reflectlite.Value.IsNil" 0) ReflectliteValue.isNil #[.agg #[.pointer (some ⟨23,99,none⟩),.pointer (some a),.int .u64 150]]).run prog W= .ok (.bool false) W:=by
 rw[Ycq];simp[ReflectliteValue.isNil,loadVar,isAgg,underlying,underlying99,ha,Result.andThen]
theorem Zqz (h:Value)(w:World):(Go.method 546 210 (.agg #[h]) "Elem").run prog w= .ok (317,.agg #[h]) w:=by kernel_rfl
theorem Zh0 (h:Value)(w:World):(Go.method 546 210 (.agg #[h]) "Implements").run prog w= .ok (318,.agg #[h]) w:=by kernel_rfl
theorem Zgh (h:Value)(w:World):(Go.method 546 210 (.agg #[h]) "AssignableTo").run prog w= .ok (315,.agg #[h]) w:=by kernel_rfl
theorem Z72 (w:World):(ReflectliteType.method ReflectliteType.elem #[.agg #[.pointer (some ⟨23,99,none⟩)]]).run prog w= .ok (.iface 210 (.agg #[.pointer (some ⟨23,97,none⟩)])) w:=by kernel_rfl
theorem Zn5 (w:World):(ReflectliteType.relation "Implements" ReflectliteType.implements_ #[.agg #[.pointer (some ⟨23,97,none⟩)],.iface 210 (.agg #[.pointer (some ⟨23,62,none⟩)])]).run prog w= .ok (.bool true) w:=by kernel_rfl
theorem Z94 (v:Value)(w:World):(ReflectliteType.typeOf #[.iface 97 v]).run prog w= .ok (.iface 210 (.agg #[.pointer (some ⟨23,97,none⟩)])) w:=by kernel_rfl
theorem Zvr (w:World):(ReflectliteType.relation "AssignableTo" ReflectliteType.assignableTo #[.agg #[.pointer (some ⟨23,97,none⟩)],.iface 210 (.agg #[.pointer (some ⟨23,97,none⟩)])]).run prog w= .ok (.bool true) w:=by kernel_rfl
theorem Zvq (w:World):(ReflectliteType.relation "AssignableTo" ReflectliteType.assignableTo #[.agg #[.pointer (some ⟨23,403,none⟩)],.iface 210 (.agg #[.pointer (some ⟨23,97,none⟩)])]).run prog w= .ok (.bool false) w:=by kernel_rfl
theorem Z7r (e:Addr)(w:World):(ReflectliteValue.unpack (.iface 97 (.pointer (some e)))).run prog w
  = .ok (.agg #[.pointer (some ⟨23,97,none⟩),.pointer (some ⟨w.heap.size,0,none⟩),.int .u64 150]) (w.alloc (.cells #[.pointer (some e)] 97)):=by kernel_rfl
theorem Ycf (v:Value)(xT:TypeId)(w:World):(Instr.typeAssert (.iface 403 v) xT 220 true).run prog w= .ok (.tuple #[.nilIface,.bool false]) w:=run_typeAssert_lacksB underlying220 (by kernel_rfl) (by kernel_rfl) v xT w
theorem Z55 (w:World):(Rtype.elem? 99).run prog w= .ok (some 97) w:=by kernel_rfl
theorem mkP (p:Addr)(w:World):(ReflectliteValue.mk 97 p ReflectliteValue.flagAddr).run prog w= .ok (.agg #[.pointer (some ⟨23,97,none⟩),.pointer (some p),.int .u64 406]) w:=by kernel_rfl
theorem Z87 (a p:Addr)(W:World)(ha:W.cell? a=some (.pointer (some p))):
  (ReflectliteValue.method (ReflectliteValue.valueError "reflectlite.Value.Elem" 0) ReflectliteValue.elem #[.agg #[.pointer (some ⟨23,99,none⟩),.pointer (some a),.int .u64 150]]).run prog W
   = .ok (.agg #[.pointer (some ⟨23,97,none⟩),.pointer (some p),.int .u64 406]) W:=by
 rw[Ycq];simp[ReflectliteValue.elem,loadVar,isAgg,underlying,underlying99,ha,Result.andThen,Z55,mkP]
theorem Z9q (a:Addr)(w:World):(ReflectliteValue.parts (.agg #[.pointer (some ⟨23,97,none⟩),.pointer (some a),.int .u64 406])).run prog w= .ok (some (97,a,406)) w:=by kernel_rfl
theorem Ybw (a:Addr)(w:World):(ReflectliteValue.parts (.agg #[.pointer (some ⟨23,97,none⟩),.pointer (some a),.int .u64 150])).run prog w= .ok (some (97,a,150)) w:=by kernel_rfl
theorem Z82 (w:World):(Rtype.directlyAssignable 97 97).run prog w= .ok true w:=by kernel_rfl
theorem Z9z (v x:Value)(f:Value->Value->Sem Value)(g:Array Value->Sem Value):ReflectliteValue.set.match_3 (fun _=>Sem Value) #[v,x] f g=f v x:=rfl
theorem Yc8 (ta b e:Addr)(old:Value)(W:World)(hb:W.cell? b=some (.pointer (some e)))(ht:W.cell? ta=some old)(hf:W.frozen? ta=false):
  (ReflectliteValue.set #[.agg #[.pointer (some ⟨23,97,none⟩),.pointer (some ta),.int .u64 406],.agg #[.pointer (some ⟨23,97,none⟩),.pointer (some b),.int .u64 150]]).run prog W
   = .ok (.tuple #[]) (W.setCell ta (.pointer (some e))):=by
 delta ReflectliteValue.set
 rw[Z9z];simp only[Ye2,Z9q,Ybw,Result.andThen];simp[ReflectliteValue.flagAddr,loadVar,isAgg,underlying,underlying97,hb,Result.andThen,Z82,storeVar,Value.cells,storeCells,Addr.add];rw[run_store prog W ta _ _ (by rfl)];simp[ht,hf]
theorem Yav (e t:Addr)(old:Value)(w:World)(hg:w.cell? ⟨10,0,none⟩=some (.iface 210 (.agg #[.pointer (some ⟨23,62,none⟩)])))(ht0:w.cell? t=some old)(hf0:w.frozen? t=false):
  Calls prog 38 #[.iface 97 (.pointer (some e)),.iface 99 (.pointer (some t))] w fun ev w'=>ev= .returned (.bool true)/\w'=((((w.alloc (.cells #[.pointer (some t)] 99)).alloc (.cells #[.pointer (some ⟨23,99,none⟩),.pointer (some ⟨w.heap.size,0,none⟩),.int .u64 150] 156)).alloc (.cells #[.pointer (some ⟨23,99,none⟩),.pointer (some ⟨w.heap.size,0,none⟩),.int .u64 150] 156)).alloc (.cells #[.pointer (some e)] 97)).setCell t (.pointer (some e)):=by
 have h6:= @Ye9 prog 67 _ (fun args=>ReflectliteValue.unpack (args.getD 0 (.tuple #[]))) func67 (by kernel_rfl) (by kernel_rfl) (by kernel_rfl) (by kernel_rfl);have h7:= @Ye9 prog 68 _ (ReflectliteValue.methodAny (ReflectliteValue.valueError "reflectlite.Value.Type" 0) (fun t _ _ _=>ReflectliteType.toType t)) func68 (by kernel_rfl) (by kernel_rfl) (by kernel_rfl) (by kernel_rfl);have h8:= @Ye9 prog 69 _ (ReflectliteValue.method (ReflectliteValue.valueError "reflectlite.Value.IsNil" 0) ReflectliteValue.isNil) func69 (by kernel_rfl) (by kernel_rfl) (by kernel_rfl) (by kernel_rfl);have h27:= @Ye9 prog 305 _ (ReflectliteType.abiMethod fun t=>do pure (.int .u8 (<- Rtype.kind t))) func305 (by kernel_rfl) (by kernel_rfl) (by kernel_rfl) (by kernel_rfl);have h37:= @Ye9 prog 317 _ (ReflectliteType.method ReflectliteType.elem) func317 (by kernel_rfl) (by kernel_rfl) (by kernel_rfl) (by kernel_rfl);have h38:= @Ye9 prog 318 _ (ReflectliteType.relation "Implements" ReflectliteType.implements_) func318 (by kernel_rfl) (by kernel_rfl) (by kernel_rfl) (by kernel_rfl);have h10:= @Ye9 prog 65 _ ReflectliteType.typeOf func65 (by kernel_rfl) (by kernel_rfl) (by kernel_rfl) (by kernel_rfl);have h35:= @Ye9 prog 315 _ (ReflectliteType.relation "AssignableTo" ReflectliteType.assignableTo) func315 (by kernel_rfl) (by kernel_rfl) (by kernel_rfl) (by kernel_rfl);have h11:= @Ye9 prog 107 _ (ReflectliteValue.method (ReflectliteValue.valueError "reflectlite.Value.Elem" 0) ReflectliteValue.elem) func107 (by kernel_rfl) (by kernel_rfl) (by kernel_rfl) (by kernel_rfl);have h12:= @Ye9 prog 108 _ ReflectliteValue.set func108 (by kernel_rfl) (by kernel_rfl) (by kernel_rfl) (by kernel_rfl);have tO:=Z94;have a25:=Zvr;have v25:=Z7r;have mA:=Zgh;have f6:=Zu9;have f7:=Z8e;have mK:=Zq0;have mE:=Zqz;have mI:=Zh0;have k27:=Z75;have k25:=Ybl;have e27:=Z72;have i25:=Zn5;have n8:=Z3l ⟨w.heap.size,0,none⟩ t ((w.alloc (.cells #[.pointer (some t)] 99)).alloc (.cells #[.pointer (some ⟨23,99,none⟩),.pointer (some ⟨w.heap.size,0,none⟩),.int .u64 150] 156)) (by simp);have hlt:10 < w.heap.size:=by
  rcases Ye3 10 w.heap.size with h | h
  ·exact h
  ·simp[World.cell?,Ye0 h]at hg
 have hg2:((w.alloc (.cells #[.pointer (some t)] 99)).alloc (.cells #[.pointer (some ⟨23,99,none⟩),.pointer (some ⟨w.heap.size,0,none⟩),.int .u64 150] 156)).cell? ⟨10,0,none⟩=some (.iface 210 (.agg #[.pointer (some ⟨23,62,none⟩)])):=by
  rw[Yev _ _ ⟨10,0,none⟩ (by simp;omega),Yev _ _ ⟨10,0,none⟩ hlt];exact hg
 have htl:t.block < w.heap.size:=by
  rcases Ye3 t.block w.heap.size with h | h
  ·exact h
  ·simp[World.cell?,Ye0 h]at ht0
 have el:=Z87 ⟨w.heap.size,0,none⟩ t (((w.alloc (.cells #[.pointer (some t)] 99)).alloc (.cells #[.pointer (some ⟨23,99,none⟩),.pointer (some ⟨w.heap.size,0,none⟩),.int .u64 150] 156)).alloc (.cells #[.pointer (some ⟨23,99,none⟩),.pointer (some ⟨w.heap.size,0,none⟩),.int .u64 150] 156)) (by rw[Yev _ _ ⟨w.heap.size,0,none⟩ (by simp;omega)];simp);have st:=Yc8 t ⟨w.heap.size+1+1+1,0,none⟩ e old ((((w.alloc (.cells #[.pointer (some t)] 99)).alloc (.cells #[.pointer (some ⟨23,99,none⟩),.pointer (some ⟨w.heap.size,0,none⟩),.int .u64 150] 156)).alloc (.cells #[.pointer (some ⟨23,99,none⟩),.pointer (some ⟨w.heap.size,0,none⟩),.int .u64 150] 156)).alloc (.cells #[.pointer (some e)] 97))
  (by rw[World.cell?_alloc_at _ _ _ _ (by simp)];rfl)
  (by rw[Yev _ _ t (by simp;omega),Yev _ _ t (by simp;omega),Yev _ _ t (by simp;omega),Yev _ _ t htl];exact ht0)
  (by rw[World.frozen?_alloc_old _ _ t (by simp;omega),World.frozen?_alloc_old _ _ t (by simp;omega),World.frozen?_alloc_old _ _ t (by simp;omega),World.frozen?_alloc_old _ _ t (Nat.ne_of_lt htl)];exact hf0)
 go_in
 go_wp2
 refine Ye7 1 ?_;rw[Ye5];go_wp2
 go_ret
 exact⟨rfl,rfl⟩
theorem Z8u (a t:Addr)(w:World)(hg:w.cell? ⟨10,0,none⟩=some (.iface 210 (.agg #[.pointer (some ⟨23,62,none⟩)]))):
  Calls prog 38 #[.iface 403 (.pointer (some a)),.iface 99 (.pointer (some t))] w fun ev w'=>ev= .returned (.bool false)/\w'=(((w.alloc (.cells #[.pointer (some t)] 99)).alloc (.cells #[.pointer (some ⟨23,99,none⟩),.pointer (some ⟨w.heap.size,0,none⟩),.int .u64 150] 156)).alloc (.cells #[.pointer (some ⟨23,99,none⟩),.pointer (some ⟨w.heap.size,0,none⟩),.int .u64 150] 156)):=by
 have h6:= @Ye9 prog 67 _ (fun args=>ReflectliteValue.unpack (args.getD 0 (.tuple #[]))) func67 (by kernel_rfl) (by kernel_rfl) (by kernel_rfl) (by kernel_rfl);have h7:= @Ye9 prog 68 _ (ReflectliteValue.methodAny (ReflectliteValue.valueError "reflectlite.Value.Type" 0) (fun t _ _ _=>ReflectliteType.toType t)) func68 (by kernel_rfl) (by kernel_rfl) (by kernel_rfl) (by kernel_rfl);have h8:= @Ye9 prog 69 _ (ReflectliteValue.method (ReflectliteValue.valueError "reflectlite.Value.IsNil" 0) ReflectliteValue.isNil) func69 (by kernel_rfl) (by kernel_rfl) (by kernel_rfl) (by kernel_rfl);have h27:= @Ye9 prog 305 _ (ReflectliteType.abiMethod fun t=>do pure (.int .u8 (<- Rtype.kind t))) func305 (by kernel_rfl) (by kernel_rfl) (by kernel_rfl) (by kernel_rfl);have h37:= @Ye9 prog 317 _ (ReflectliteType.method ReflectliteType.elem) func317 (by kernel_rfl) (by kernel_rfl) (by kernel_rfl) (by kernel_rfl);have h38:= @Ye9 prog 318 _ (ReflectliteType.relation "Implements" ReflectliteType.implements_) func318 (by kernel_rfl) (by kernel_rfl) (by kernel_rfl) (by kernel_rfl);have h10:= @Ye9 prog 65 _ ReflectliteType.typeOf func65 (by kernel_rfl) (by kernel_rfl) (by kernel_rfl) (by kernel_rfl);have h35:= @Ye9 prog 315 _ (ReflectliteType.relation "AssignableTo" ReflectliteType.assignableTo) func315 (by kernel_rfl) (by kernel_rfl) (by kernel_rfl) (by kernel_rfl);have tO:=Zkq;have a25:=Zvq;have nA:=Ycf;have uE:=Zog;have vE:=Zlu;have mA:=Zgh;have f6:=Zu9;have f7:=Z8e;have mK:=Zq0;have mE:=Zqz;have mI:=Zh0;have k27:=Z75;have k25:=Ybl;have e27:=Z72;have i25:=Zn5;have n8:=Z3l ⟨w.heap.size,0,none⟩ t ((w.alloc (.cells #[.pointer (some t)] 99)).alloc (.cells #[.pointer (some ⟨23,99,none⟩),.pointer (some ⟨w.heap.size,0,none⟩),.int .u64 150] 156)) (by simp);have hlt:10 < w.heap.size:=by
  rcases Ye3 10 w.heap.size with h | h
  ·exact h
  ·simp[World.cell?,Ye0 h]at hg
 have hg2:((w.alloc (.cells #[.pointer (some t)] 99)).alloc (.cells #[.pointer (some ⟨23,99,none⟩),.pointer (some ⟨w.heap.size,0,none⟩),.int .u64 150] 156)).cell? ⟨10,0,none⟩=some (.iface 210 (.agg #[.pointer (some ⟨23,62,none⟩)])):=by
  rw[Yev _ _ ⟨10,0,none⟩ (by simp;omega),Yev _ _ ⟨10,0,none⟩ hlt];exact hg
 go_in
 go_wp2
 refine Ye7 1 ?_;rw[Ye5];go_wp2
 go_ret
 exact⟨rfl,rfl⟩
end Go.P
