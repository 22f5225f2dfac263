import Derived.Test.YtghnjdpgbldlkaaGreatDoorW22
set_option linter.defProp false
set_option maxRecDepth 100000
set_option maxHeartbeats 8000000
set_option linter.unusedSimpArgs false
open Go.Proofs Go.RowKit Go.W Tryz
namespace Go.P
open Go.RowKit Go.Extern.Stop Go.Stop Go.Extern
def Z7u (t:Addr)(w:World):(ReflectliteValue.unpack<|.iface 85<|.pointer<|some t).run prog w
  = .ok (.agg #[.pointer<|Qb 23 85,.pointer<|Qb w.heap.size 0,.int .u64 150]) (w.alloc<|.cells #[.pointer<|some t] 85):=zt
def Ye7 (a:Addr)(w:World):(ReflectliteValue.methodAny (ReflectliteValue.valueError "reflectlite.Value.Type" 0) (fun t _ _ _=>ReflectliteType.toType t) #[.agg #[.pointer<|Qb 23 85,.pointer<|some a,.int .u64 150]]).run prog w
  = .ok (.iface 201<|.agg #[.pointer<|Qb 23 85]) w:=zt
def Z2u (h:Value)(w:World):(Go.method 547 201 (.agg #[h]) "Kind").run prog w= .ok (315,h) w:=zt
def Yep (w:World):((ReflectliteType.abiMethod fun t=>(fun a:Nat=>Value.int IntKind.u8 (a:Int)) <$> Rtype.kind t) #[.pointer<|Qb 23 85]).run prog w= .ok (.int .u8 22) w:=zt
def Yfp (w:World):((ReflectliteType.abiMethod fun t=>(fun a:Nat=>Value.int IntKind.u8 (a:Int)) <$> Rtype.kind t) #[.pointer<|Qb 23 83]).run prog w= .ok (.int .u8 22) w:=zt
def Yf1 (z:Sem Value)(f:TypeId->Addr->Nat->Nat->Sem Value)(a:Addr)(w:World):(ReflectliteValue.method z f #[.agg #[.pointer<|Qb 23 85,.pointer<|some a,.int .u64 150]]).run prog w=(f 85 a 150 22).run prog w:=zt
def Yb7 (a p:Addr)(W:World)(ha:W.cell? a=some (.pointer<|some p)):
  (ReflectliteValue.method (ReflectliteValue.valueError "reflectlite.Value.IsNil" 0) ReflectliteValue.isNil #[.agg #[.pointer<|Qb 23 85,.pointer<|some a,.int .u64 150]]).run prog W= .ok (.bool false) W:=by
 rw[Yf1];simp[ReflectliteValue.isNil,loadVar,isAgg,underlying,underlying85,ha,Result.andThen]
def Z2t (h:Value)(w:World):(Go.method 547 201 (.agg #[h]) "Elem").run prog w= .ok (329,.agg #[h]) w:=zt
def Zn9 (h:Value)(w:World):(Go.method 547 201 (.agg #[h]) "Implements").run prog w= .ok (330,.agg #[h]) w:=zt
def Zlp (h:Value)(w:World):(Go.method 547 201 (.agg #[h]) "AssignableTo").run prog w= .ok (327,.agg #[h]) w:=zt
def Yef (w:World):(ReflectliteType.method ReflectliteType.elem #[.agg #[.pointer<|Qb 23 85]]).run prog w= .ok (.iface 201<|.agg #[.pointer<|Qb 23 83]) w:=zt
def Zym (w:World):(ReflectliteType.relation "Implements" ReflectliteType.implements_ #[.agg #[.pointer<|Qb 23 83],.iface 201<|.agg #[.pointer<|Qb 23 56]]).run prog w= .ok (.bool true) w:=zt
def Yc6 (v:Value)(w:World):(ReflectliteType.typeOf #[.iface 83 v]).run prog w= .ok (.iface 201<|.agg #[.pointer<|Qb 23 83]) w:=zt
def Zxs (w:World):(ReflectliteType.relation "AssignableTo" ReflectliteType.assignableTo #[.agg #[.pointer<|Qb 23 83],.iface 201<|.agg #[.pointer<|Qb 23 83]]).run prog w= .ok (.bool true) w:=zt
def Yah (e:Addr)(w:World):(ReflectliteValue.unpack<|.iface 83<|.pointer<|some e).run prog w
  = .ok (.agg #[.pointer<|Qb 23 83,.pointer<|Qb w.heap.size 0,.int .u64 150]) (w.alloc<|.cells #[.pointer<|some e] 83):=zt
def Z8q (w:World):(Rtype.elem? 85).run prog w= .ok (some 83) w:=zt
def mkP (p:Addr)(w:World):(ReflectliteValue.mk 83 p ReflectliteValue.flagAddr).run prog w= .ok (.agg #[.pointer<|Qb 23 83,.pointer<|some p,.int .u64 406]) w:=zt
def Ybw (a p:Addr)(W:World)(ha:W.cell? a=some (.pointer<|some p)):
  (ReflectliteValue.method (ReflectliteValue.valueError "reflectlite.Value.Elem" 0) ReflectliteValue.elem #[.agg #[.pointer<|Qb 23 85,.pointer<|some a,.int .u64 150]]).run prog W
   = .ok (.agg #[.pointer<|Qb 23 83,.pointer<|some p,.int .u64 406]) W:=by
 rw[Yf1];simp[ReflectliteValue.elem,loadVar,isAgg,underlying,underlying85,ha,Result.andThen,Z8q,mkP]
def Ycl (a:Addr)(w:World):(ReflectliteValue.parts<|.agg #[.pointer<|Qb 23 83,.pointer<|some a,.int .u64 406]).run prog w= .ok (some (83,a,406)) w:=zt
def Yey (a:Addr)(w:World):(ReflectliteValue.parts<|.agg #[.pointer<|Qb 23 83,.pointer<|some a,.int .u64 150]).run prog w= .ok (some (83,a,150)) w:=zt
def Ybr (w:World):(Rtype.directlyAssignable 83 83).run prog w= .ok true w:=zt
def Ycz (v x:Value)(f:Value->Value->Sem Value)(g:Array Value->Sem Value):ReflectliteValue.set.match_3 (fun _=>Sem Value) #[v,x] f g=f v x:=rfl
def Ygh (ta b e:Addr)(old:Value)(W:World)(hb:W.cell? b=some (.pointer<|some e))(ht:W.cell? ta=some old)(hf:W.frozen? ta=false):
  (ReflectliteValue.set #[.agg #[.pointer<|Qb 23 83,.pointer<|some ta,.int .u64 406],.agg #[.pointer<|Qb 23 83,.pointer<|some b,.int .u64 150]]).run prog W
   = .ok (.tuple #[]) (W.setCell ta<|.pointer<|some e):=by
 delta ReflectliteValue.set
 rw[Ycz];simp only[QM,Ycl,Yey,Result.andThen];simp[ReflectliteValue.flagAddr,loadVar,isAgg,underlying,underlying83,hb,Result.andThen,Ybr,storeVar,Value.cells,storeCells,Addr.add];rw[run_store prog W ta _ _ (by rfl)];simp[ht,hf]
def Yd0 (e t:Addr)(old:Value)(w:World)(hg:w.cell? ⟨10,0,none⟩=some (.iface 201<|.agg #[.pointer<|Qb 23 56]))(IW:w.cell? t=some old)(qw:w.frozen? t=false):
  Calls prog 28 #[.iface 83<|.pointer<|some e,.iface 85<|.pointer<|some t] w fun ev w'=>ev= .returned (.bool true)/\w'=((((w.alloc<|.cells #[.pointer<|some t] 85).alloc<|.cells #[.pointer<|Qb 23 85,.pointer<|Qb w.heap.size 0,.int .u64 150] 144).alloc<|.cells #[.pointer<|Qb 23 85,.pointer<|Qb w.heap.size 0,.int .u64 150] 144).alloc<|.cells #[.pointer<|some e] 83).setCell t (.pointer<|some e):=by
 have h6:= @PQ prog 58 _ (fun args=>ReflectliteValue.unpack (args.getD 0<|.tuple #[])) func58 zt zt zt zt;have h7:= @PQ prog 59 _ (ReflectliteValue.methodAny (ReflectliteValue.valueError "reflectlite.Value.Type" 0) fun t _ _ _=>ReflectliteType.toType t) func59 zt zt zt zt;have h8:= @PQ prog 60 _ (ReflectliteValue.method (ReflectliteValue.valueError "reflectlite.Value.IsNil" 0) ReflectliteValue.isNil) func60 zt zt zt zt;have h27:= @PQ prog 315 _ (ReflectliteType.abiMethod fun t=>do pure (.int .u8<|<- Rtype.kind t)) func315 zt zt zt zt;have h37:= @PQ prog 329 _ (ReflectliteType.method ReflectliteType.elem) func329 zt zt zt zt;have h38:= @PQ prog 330 _ (ReflectliteType.relation "Implements" ReflectliteType.implements_) func330 zt zt zt zt;have h10:= @PQ prog 56 _ ReflectliteType.typeOf func56 zt zt zt zt;have h35:= @PQ prog 327 _ (ReflectliteType.relation "AssignableTo" ReflectliteType.assignableTo) func327 zt zt zt zt;have h11:= @PQ prog 107 _ (ReflectliteValue.method (ReflectliteValue.valueError "reflectlite.Value.Elem" 0) ReflectliteValue.elem) func107 zt zt zt zt;have h12:= @PQ prog 108 _ ReflectliteValue.set func108 zt zt zt zt;have tO:=Yc6;have a25:=Zxs;have v25:=Yah;have mA:=Zlp;have f6:=Z7u;have f7:=Ye7;have mK:=Z2u;have mE:=Z2t;have mI:=Zn9;have k27:=Yep;have k25:=Yfp;have e27:=Yef;have i25:=Zym;have n8:=Yb7 ⟨w.heap.size,0,none⟩ t ((w.alloc<|.cells #[.pointer<|some t] 85).alloc<|.cells #[.pointer<|Qb 23 85,.pointer<|Qb w.heap.size 0,.int .u64 150] 144) zw;have hlt:10<w.heap.size:=by
  rcases QL 10 w.heap.size with h | h
  ·exact h
  ·simp[World.cell?,Zm h]at hg
 have hg2:((w.alloc<|.cells #[.pointer<|some t] 85).alloc<|.cells #[.pointer<|Qb 23 85,.pointer<|Qb w.heap.size 0,.int .u64 150] 144).cell? ⟨10,0,none⟩=some (.iface 201<|.agg #[.pointer<|Qb 23 56]):=by
  rw[Zn _ _ ⟨10,0,none⟩ (by simp;omega),Zn _ _ ⟨10,0,none⟩ hlt];exact hg
 have JV:t.block<w.heap.size:=by
  rcases QL t.block w.heap.size with h | h
  ·exact h
  ·simp[World.cell?,Zm h]at IW
 have el:=Ybw ⟨w.heap.size,0,none⟩ t (((w.alloc<|.cells #[.pointer<|some t] 85).alloc<|.cells #[.pointer<|Qb 23 85,.pointer<|Qb w.heap.size 0,.int .u64 150] 144).alloc<|.cells #[.pointer<|Qb 23 85,.pointer<|Qb w.heap.size 0,.int .u64 150] 144) (by rw[Zn _ _ ⟨w.heap.size,0,none⟩ (by simp;omega)];simp);have st:=Ygh t ⟨w.heap.size+1+1+1,0,none⟩ e old ((((w.alloc<|.cells #[.pointer<|some t] 85).alloc<|.cells #[.pointer<|Qb 23 85,.pointer<|Qb w.heap.size 0,.int .u64 150] 144).alloc<|.cells #[.pointer<|Qb 23 85,.pointer<|Qb w.heap.size 0,.int .u64 150] 144).alloc<|.cells #[.pointer<|some e] 83)
  (by rw[World.cell?_alloc_at _ _ _ _ zw];rfl)
  (by rw[Zn _ _ t (by simp;omega),Zn _ _ t (by simp;omega),Zn _ _ t (by simp;omega),Zn _ _ t JV];exact IW)
  (by rw[World.frozen?_alloc_old _ _ t (by simp;omega),World.frozen?_alloc_old _ _ t (by simp;omega),World.frozen?_alloc_old _ _ t (by simp;omega),World.frozen?_alloc_old _ _ t<|Nat.ne_of_lt JV];exact qw)
 go_in
 go_wp2
 refine Dt 1 ?_;rw[A8];go_wp2
 go_ret
 exact⟨rfl,rfl⟩
end Go.P
