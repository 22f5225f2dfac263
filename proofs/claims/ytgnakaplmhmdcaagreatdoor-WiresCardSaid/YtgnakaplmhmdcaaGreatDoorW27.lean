import Derived.Test.YtgnakaplmhmdcaaGreatDoorW26
set_option maxRecDepth 100000
set_option maxHeartbeats 8000000
set_option linter.unusedSimpArgs false
open Go.Proofs Go.RowKit Go.W
namespace Go.P
open Go.RowKit Go.Extern.Stop Go.Stop Go.Extern
theorem Zvc (t:Addr)(w:World):(ReflectliteValue.unpack (.iface 88 (.pointer (some t)))).run Tryz.prog w
  = .ok (.agg #[.pointer (some ⟨23,88,none⟩),.pointer (some ⟨w.heap.size,0,none⟩),.int .u64 150]) (w.alloc (.cells #[.pointer (some t)] 88)):=by kernel_rfl
theorem Z7o (a:Addr)(w:World):(ReflectliteValue.methodAny (ReflectliteValue.valueError "reflectlite.Value.Type" 0) (fun t _ _ _=>ReflectliteType.toType t) #[.agg #[.pointer (some ⟨23,88,none⟩),.pointer (some a),.int .u64 150]]).run Tryz.prog w
  = .ok (.iface 215 (.agg #[.pointer (some ⟨23,88,none⟩)])) w:=by kernel_rfl
theorem Zq0 (h:Value)(w:World):(Go.method 537 215 (.agg #[h]) "Kind").run Tryz.prog w= .ok (294,h) w:=by kernel_rfl
theorem Z7q (w:World):((ReflectliteType.abiMethod fun t=>(fun a:Nat=>Value.int IntKind.u8 (a:Int)) <$> Rtype.kind t) #[.pointer (some ⟨23,88,none⟩)]).run Tryz.prog w= .ok (.int .u8 22) w:=by kernel_rfl
theorem Yad (w:World):((ReflectliteType.abiMethod fun t=>(fun a:Nat=>Value.int IntKind.u8 (a:Int)) <$> Rtype.kind t) #[.pointer (some ⟨23,86,none⟩)]).run Tryz.prog w= .ok (.int .u8 22) w:=by kernel_rfl
theorem Ycb (z:Sem Value)(f:TypeId->Addr->Nat->Nat->Sem Value)(a:Addr)(w:World):(ReflectliteValue.method z f #[.agg #[.pointer (some ⟨23,88,none⟩),.pointer (some a),.int .u64 150]]).run Tryz.prog w=(f 88 a 150 22).run Tryz.prog w:=by kernel_rfl
theorem Z4a (a p:Addr)(W:World)(ha:W.cell? a=some (.pointer (some p))):
  (ReflectliteValue.method (ReflectliteValue.valueError "reflectlite.Value.IsNil" 0) ReflectliteValue.isNil #[.agg #[.pointer (some ⟨23,88,none⟩),.pointer (some a),.int .u64 150]]).run Tryz.prog W= .ok (.bool false) W:=by
 rw[Ycb];simp[ReflectliteValue.isNil,loadVar,isAgg,underlying,Tryz.underlying88,ha,Result.andThen]
theorem Zqo (h:Value)(w:World):(Go.method 537 215 (.agg #[h]) "Elem").run Tryz.prog w= .ok (308,.agg #[h]) w:=by kernel_rfl
theorem Zhu (h:Value)(w:World):(Go.method 537 215 (.agg #[h]) "Implements").run Tryz.prog w= .ok (309,.agg #[h]) w:=by kernel_rfl
theorem Zfz (h:Value)(w:World):(Go.method 537 215 (.agg #[h]) "AssignableTo").run Tryz.prog w= .ok (306,.agg #[h]) w:=by kernel_rfl
theorem Z7g (w:World):(ReflectliteType.method ReflectliteType.elem #[.agg #[.pointer (some ⟨23,88,none⟩)]]).run Tryz.prog w= .ok (.iface 215 (.agg #[.pointer (some ⟨23,86,none⟩)])) w:=by kernel_rfl
theorem Zor (w:World):(ReflectliteType.relation "Implements" ReflectliteType.implements_ #[.agg #[.pointer (some ⟨23,86,none⟩)],.iface 215 (.agg #[.pointer (some ⟨23,58,none⟩)])]).run Tryz.prog w= .ok (.bool true) w:=by kernel_rfl
theorem Z80 (v:Value)(w:World):(ReflectliteType.typeOf #[.iface 86 v]).run Tryz.prog w= .ok (.iface 215 (.agg #[.pointer (some ⟨23,86,none⟩)])) w:=by kernel_rfl
theorem Zxk (w:World):(ReflectliteType.relation "AssignableTo" ReflectliteType.assignableTo #[.agg #[.pointer (some ⟨23,86,none⟩)],.iface 215 (.agg #[.pointer (some ⟨23,86,none⟩)])]).run Tryz.prog w= .ok (.bool true) w:=by kernel_rfl
theorem Zv0 (w:World):(ReflectliteType.relation "AssignableTo" ReflectliteType.assignableTo #[.agg #[.pointer (some ⟨23,394,none⟩)],.iface 215 (.agg #[.pointer (some ⟨23,86,none⟩)])]).run Tryz.prog w= .ok (.bool false) w:=by kernel_rfl
theorem Z6f (e:Addr)(w:World):(ReflectliteValue.unpack (.iface 86 (.pointer (some e)))).run Tryz.prog w
  = .ok (.agg #[.pointer (some ⟨23,86,none⟩),.pointer (some ⟨w.heap.size,0,none⟩),.int .u64 150]) (w.alloc (.cells #[.pointer (some e)] 86)):=by kernel_rfl
theorem Ybz (v:Value)(xT:TypeId)(w:World):(Instr.typeAssert (.iface 394 v) xT 225 true).run Tryz.prog w= .ok (.tuple #[.nilIface,.bool false]) w:=run_typeAssert_lacksB Tryz.underlying225 (by kernel_rfl) (by kernel_rfl) v xT w
theorem Z51 (w:World):(Rtype.elem? 88).run Tryz.prog w= .ok (some 86) w:=by kernel_rfl
theorem mkP (p:Addr)(w:World):(ReflectliteValue.mk 86 p ReflectliteValue.flagAddr).run Tryz.prog w= .ok (.agg #[.pointer (some ⟨23,86,none⟩),.pointer (some p),.int .u64 406]) w:=by kernel_rfl
theorem Z83 (a p:Addr)(W:World)(ha:W.cell? a=some (.pointer (some p))):
  (ReflectliteValue.method (ReflectliteValue.valueError "reflectlite.Value.Elem" 0) ReflectliteValue.elem #[.agg #[.pointer (some ⟨23,88,none⟩),.pointer (some a),.int .u64 150]]).run Tryz.prog W
   = .ok (.agg #[.pointer (some ⟨23,86,none⟩),.pointer (some p),.int .u64 406]) W:=by
 rw[Ycb];simp[ReflectliteValue.elem,loadVar,isAgg,underlying,Tryz.underlying88,ha,Result.andThen,Z51,mkP]
theorem Z8h (a:Addr)(w:World):(ReflectliteValue.parts (.agg #[.pointer (some ⟨23,86,none⟩),.pointer (some a),.int .u64 406])).run Tryz.prog w= .ok (some (86,a,406)) w:=by kernel_rfl
theorem Yas (a:Addr)(w:World):(ReflectliteValue.parts (.agg #[.pointer (some ⟨23,86,none⟩),.pointer (some a),.int .u64 150])).run Tryz.prog w= .ok (some (86,a,150)) w:=by kernel_rfl
theorem Z8v (w:World):(Rtype.directlyAssignable 86 86).run Tryz.prog w= .ok true w:=by kernel_rfl
theorem Z9d (v x:Value)(f:Value->Value->Sem Value)(g:Array Value->Sem Value):ReflectliteValue.set.match_3 (fun _=>Sem Value) #[v,x] f g=f v x:=rfl
theorem Ycp (ta b e:Addr)(old:Value)(W:World)(hb:W.cell? b=some (.pointer (some e)))(ht:W.cell? ta=some old)(hf:W.frozen? ta=false):
  (ReflectliteValue.set #[.agg #[.pointer (some ⟨23,86,none⟩),.pointer (some ta),.int .u64 406],.agg #[.pointer (some ⟨23,86,none⟩),.pointer (some b),.int .u64 150]]).run Tryz.prog W
   = .ok (.tuple #[]) (W.setCell ta (.pointer (some e))):=by
 delta ReflectliteValue.set
 rw[Z9d];simp only[Yek,Z8h,Yas,Result.andThen];simp[ReflectliteValue.flagAddr,loadVar,isAgg,underlying,Tryz.underlying86,hb,Result.andThen,Z8v,storeVar,Value.cells,storeCells,Addr.add];rw[run_store Tryz.prog W ta _ _ (by rfl)];simp[ht,hf]
theorem Ya8 (e t:Addr)(old:Value)(w:World)(hg:w.cell? ⟨10,0,none⟩=some (.iface 215 (.agg #[.pointer (some ⟨23,58,none⟩)])))(ht0:w.cell? t=some old)(hf0:w.frozen? t=false):
  Calls Tryz.prog 31 #[.iface 86 (.pointer (some e)),.iface 88 (.pointer (some t))] w fun ev w'=>ev= .returned (.bool true)/\w'=((((w.alloc (.cells #[.pointer (some t)] 88)).alloc (.cells #[.pointer (some ⟨23,88,none⟩),.pointer (some ⟨w.heap.size,0,none⟩),.int .u64 150] 150)).alloc (.cells #[.pointer (some ⟨23,88,none⟩),.pointer (some ⟨w.heap.size,0,none⟩),.int .u64 150] 150)).alloc (.cells #[.pointer (some e)] 86)).setCell t (.pointer (some e)):=by
 have h6:= @run_callFunc_extern Tryz.prog 62 _ (fun args=>ReflectliteValue.unpack (args.getD 0 (.tuple #[]))) Tryz.func62 (by kernel_rfl) (by kernel_rfl) (by kernel_rfl) (by kernel_rfl);have h7:= @run_callFunc_extern Tryz.prog 63 _ (ReflectliteValue.methodAny (ReflectliteValue.valueError "reflectlite.Value.Type" 0) (fun t _ _ _=>ReflectliteType.toType t)) Tryz.func63 (by kernel_rfl) (by kernel_rfl) (by kernel_rfl) (by kernel_rfl);have h8:= @run_callFunc_extern Tryz.prog 64 _ (ReflectliteValue.method (ReflectliteValue.valueError "reflectlite.Value.IsNil" 0) ReflectliteValue.isNil) Tryz.func64 (by kernel_rfl) (by kernel_rfl) (by kernel_rfl) (by kernel_rfl);have h27:= @run_callFunc_extern Tryz.prog 294 _ (ReflectliteType.abiMethod fun t=>do pure (.int .u8 (<- Rtype.kind t))) Tryz.func294 (by kernel_rfl) (by kernel_rfl) (by kernel_rfl) (by kernel_rfl);have h37:= @run_callFunc_extern Tryz.prog 308 _ (ReflectliteType.method ReflectliteType.elem) Tryz.func308 (by kernel_rfl) (by kernel_rfl) (by kernel_rfl) (by kernel_rfl);have h38:= @run_callFunc_extern Tryz.prog 309 _ (ReflectliteType.relation "Implements" ReflectliteType.implements_) Tryz.func309 (by kernel_rfl) (by kernel_rfl) (by kernel_rfl) (by kernel_rfl);have h10:= @run_callFunc_extern Tryz.prog 60 _ ReflectliteType.typeOf Tryz.func60 (by kernel_rfl) (by kernel_rfl) (by kernel_rfl) (by kernel_rfl);have h35:= @run_callFunc_extern Tryz.prog 306 _ (ReflectliteType.relation "AssignableTo" ReflectliteType.assignableTo) Tryz.func306 (by kernel_rfl) (by kernel_rfl) (by kernel_rfl) (by kernel_rfl);have h11:= @run_callFunc_extern Tryz.prog 118 _ (ReflectliteValue.method (ReflectliteValue.valueError "reflectlite.Value.Elem" 0) ReflectliteValue.elem) Tryz.func118 (by kernel_rfl) (by kernel_rfl) (by kernel_rfl) (by kernel_rfl);have h12:= @run_callFunc_extern Tryz.prog 119 _ ReflectliteValue.set Tryz.func119 (by kernel_rfl) (by kernel_rfl) (by kernel_rfl) (by kernel_rfl);have tO:=Z80;have a25:=Zxk;have v25:=Z6f;have mA:=Zfz;have f6:=Zvc;have f7:=Z7o;have mK:=Zq0;have mE:=Zqo;have mI:=Zhu;have k27:=Z7q;have k25:=Yad;have e27:=Z7g;have i25:=Zor;have n8:=Z4a ⟨w.heap.size,0,none⟩ t ((w.alloc (.cells #[.pointer (some t)] 88)).alloc (.cells #[.pointer (some ⟨23,88,none⟩),.pointer (some ⟨w.heap.size,0,none⟩),.int .u64 150] 150)) (by simp);have hlt:10 < w.heap.size:=by
  rcases Yel 10 w.heap.size with h | h
  ·exact h
  ·simp[World.cell?,Yei h]at hg
 have hg2:((w.alloc (.cells #[.pointer (some t)] 88)).alloc (.cells #[.pointer (some ⟨23,88,none⟩),.pointer (some ⟨w.heap.size,0,none⟩),.int .u64 150] 150)).cell? ⟨10,0,none⟩=some (.iface 215 (.agg #[.pointer (some ⟨23,58,none⟩)])):=by
  rw[Yed _ _ ⟨10,0,none⟩ (by simp;omega),Yed _ _ ⟨10,0,none⟩ hlt];exact hg
 have htl:t.block < w.heap.size:=by
  rcases Yel t.block w.heap.size with h | h
  ·exact h
  ·simp[World.cell?,Yei h]at ht0
 have el:=Z83 ⟨w.heap.size,0,none⟩ t (((w.alloc (.cells #[.pointer (some t)] 88)).alloc (.cells #[.pointer (some ⟨23,88,none⟩),.pointer (some ⟨w.heap.size,0,none⟩),.int .u64 150] 150)).alloc (.cells #[.pointer (some ⟨23,88,none⟩),.pointer (some ⟨w.heap.size,0,none⟩),.int .u64 150] 150)) (by rw[Yed _ _ ⟨w.heap.size,0,none⟩ (by simp;omega)];simp);have st:=Ycp t ⟨w.heap.size+1+1+1,0,none⟩ e old ((((w.alloc (.cells #[.pointer (some t)] 88)).alloc (.cells #[.pointer (some ⟨23,88,none⟩),.pointer (some ⟨w.heap.size,0,none⟩),.int .u64 150] 150)).alloc (.cells #[.pointer (some ⟨23,88,none⟩),.pointer (some ⟨w.heap.size,0,none⟩),.int .u64 150] 150)).alloc (.cells #[.pointer (some e)] 86))
  (by rw[World.cell?_alloc_at _ _ _ _ (by simp)];rfl)
  (by rw[Yed _ _ t (by simp;omega),Yed _ _ t (by simp;omega),Yed _ _ t (by simp;omega),Yed _ _ t htl];exact ht0)
  (by rw[World.frozen?_alloc_old _ _ t (by simp;omega),World.frozen?_alloc_old _ _ t (by simp;omega),World.frozen?_alloc_old _ _ t (by simp;omega),World.frozen?_alloc_old _ _ t (Nat.ne_of_lt htl)];exact hf0)
 go_enter Tryz.func31,Tryz.ntmps31
 go_wp2
 refine wp_loop_rounds 1 ?_;rw[rounds_succ];go_wp2
 go_ret
 exact⟨rfl,rfl⟩
theorem Z8p (a t:Addr)(w:World)(hg:w.cell? ⟨10,0,none⟩=some (.iface 215 (.agg #[.pointer (some ⟨23,58,none⟩)]))):
  Calls Tryz.prog 31 #[.iface 394 (.pointer (some a)),.iface 88 (.pointer (some t))] w fun ev w'=>ev= .returned (.bool false)/\w'=(((w.alloc (.cells #[.pointer (some t)] 88)).alloc (.cells #[.pointer (some ⟨23,88,none⟩),.pointer (some ⟨w.heap.size,0,none⟩),.int .u64 150] 150)).alloc (.cells #[.pointer (some ⟨23,88,none⟩),.pointer (some ⟨w.heap.size,0,none⟩),.int .u64 150] 150)):=by
 have h6:= @run_callFunc_extern Tryz.prog 62 _ (fun args=>ReflectliteValue.unpack (args.getD 0 (.tuple #[]))) Tryz.func62 (by kernel_rfl) (by kernel_rfl) (by kernel_rfl) (by kernel_rfl);have h7:= @run_callFunc_extern Tryz.prog 63 _ (ReflectliteValue.methodAny (ReflectliteValue.valueError "reflectlite.Value.Type" 0) (fun t _ _ _=>ReflectliteType.toType t)) Tryz.func63 (by kernel_rfl) (by kernel_rfl) (by kernel_rfl) (by kernel_rfl);have h8:= @run_callFunc_extern Tryz.prog 64 _ (ReflectliteValue.method (ReflectliteValue.valueError "reflectlite.Value.IsNil" 0) ReflectliteValue.isNil) Tryz.func64 (by kernel_rfl) (by kernel_rfl) (by kernel_rfl) (by kernel_rfl);have h27:= @run_callFunc_extern Tryz.prog 294 _ (ReflectliteType.abiMethod fun t=>do pure (.int .u8 (<- Rtype.kind t))) Tryz.func294 (by kernel_rfl) (by kernel_rfl) (by kernel_rfl) (by kernel_rfl);have h37:= @run_callFunc_extern Tryz.prog 308 _ (ReflectliteType.method ReflectliteType.elem) Tryz.func308 (by kernel_rfl) (by kernel_rfl) (by kernel_rfl) (by kernel_rfl);have h38:= @run_callFunc_extern Tryz.prog 309 _ (ReflectliteType.relation "Implements" ReflectliteType.implements_) Tryz.func309 (by kernel_rfl) (by kernel_rfl) (by kernel_rfl) (by kernel_rfl);have h10:= @run_callFunc_extern Tryz.prog 60 _ ReflectliteType.typeOf Tryz.func60 (by kernel_rfl) (by kernel_rfl) (by kernel_rfl) (by kernel_rfl);have h35:= @run_callFunc_extern Tryz.prog 306 _ (ReflectliteType.relation "AssignableTo" ReflectliteType.assignableTo) Tryz.func306 (by kernel_rfl) (by kernel_rfl) (by kernel_rfl) (by kernel_rfl);have tO:=Zko;have a25:=Zv0;have nA:=Ybz;have uE:=Zoq;have vE:=Zld;have mA:=Zfz;have f6:=Zvc;have f7:=Z7o;have mK:=Zq0;have mE:=Zqo;have mI:=Zhu;have k27:=Z7q;have k25:=Yad;have e27:=Z7g;have i25:=Zor;have n8:=Z4a ⟨w.heap.size,0,none⟩ t ((w.alloc (.cells #[.pointer (some t)] 88)).alloc (.cells #[.pointer (some ⟨23,88,none⟩),.pointer (some ⟨w.heap.size,0,none⟩),.int .u64 150] 150)) (by simp);have hlt:10 < w.heap.size:=by
  rcases Yel 10 w.heap.size with h | h
  ·exact h
  ·simp[World.cell?,Yei h]at hg
 have hg2:((w.alloc (.cells #[.pointer (some t)] 88)).alloc (.cells #[.pointer (some ⟨23,88,none⟩),.pointer (some ⟨w.heap.size,0,none⟩),.int .u64 150] 150)).cell? ⟨10,0,none⟩=some (.iface 215 (.agg #[.pointer (some ⟨23,58,none⟩)])):=by
  rw[Yed _ _ ⟨10,0,none⟩ (by simp;omega),Yed _ _ ⟨10,0,none⟩ hlt];exact hg
 go_enter Tryz.func31,Tryz.ntmps31
 go_wp2
 refine wp_loop_rounds 1 ?_;rw[rounds_succ];go_wp2
 go_ret
 exact⟨rfl,rfl⟩
end Go.P
