import Derived.Test.YtghnjdpgbldlkaaGreatDoorV
import Derived.Test.YtghnjdpgbldlkaaGreatDoorProg
import Derived.WalkKit
import Derived.LaidEql
import Derived.Stop.Asserts
import Derived.RowKitTokens
set_option linter.defProp false
set_option maxRecDepth 100000
set_option maxHeartbeats 8000000
set_option linter.unusedSimpArgs false
open Go.Proofs Go.RowKit Go.W Tryz
namespace Go.P
open Go.RowKit Go.Extern.Stop Go.Stop Go.Extern
def Z0o (v:Value)(w:World):(Extern.ReflectliteType.typeOf #[.iface 411 v]).run prog w= .ok (.iface 201<|.agg #[.pointer<|Qb 23 411]) w:=zt
def uV:Array Value->Sem Value:=Extern.ReflectliteType.method fun t=>do Extern.Rtype.noPackHeld "Comparable" t;pure (.bool (<- typeInfo t).comparable)
def Zno (w:World):(uV #[.agg #[.pointer<|Qb 23 411]]).run prog w= .ok (.bool true) w:=zt
def Zgt (v:Value)(w:World):(Go.method 547 201 v "Comparable").run prog w= .ok (328,v) w:=zt
def Yav:(prog.info? 411).map (·.comparable)=some true:=zt
def Yaw:(prog.info? 413).map (·.size)=some 1:=zt
def Yfq (v:Value)(xT:TypeId)(w:World):(Instr.typeAssert (.iface 411 v) xT 203 true).run prog w= .ok (.tuple #[.nilIface,.bool false]) w:=run_typeAssert_lacksB underlying203 zt zt v xT w
def Z58 (v:Value)(xT:TypeId)(w:World):(Instr.typeAssert (.iface 411 v) xT 206 true).run prog w= .ok (.tuple #[.nilIface,.bool false]) w:=run_typeAssert_lacksB underlying206 zt zt v xT w
def Z2w (v:Value)(xT:TypeId)(w:World):(Instr.typeAssert (.iface 411 v) xT 207 true).run prog w= .ok (.tuple #[.nilIface,.bool false]) w:=run_typeAssert_lacksB underlying207 zt zt v xT w
def Yes (v:Value)(xT:TypeId)(w:World):(Instr.typeAssert (.iface 83 v) xT 203 true).run prog w= .ok (.tuple #[.nilIface,.bool false]) w:=run_typeAssert_lacksB underlying203 zt zt v xT w
def Zr6 (v:Value)(xT:TypeId)(w:World):(Instr.typeAssert (.iface 83 v) xT 206 true).run prog w= .ok (.tuple #[.iface 83 v,.bool true]) w:=run_typeAssert_hasB underlying206 zt v xT w
def Znq (v:Value)(w:World):(Go.method 547 83 v "Unwrap").run prog w= .ok (321,v) w:=zt
def Ztu (pb po:Nat)(b:Addr)(w:World)(h1:w.cell? ⟨pb,po+1,none⟩=some (.iface 411<|.pointer<|some b)):
  Calls prog 27 #[.iface 83<|.pointer<|Qb pb po,.iface 411<|.pointer<|some b] w fun e w'=>e= .returned (.bool true)/\w'=w:=by
 obtain⟨i,hi,Yi⟩:=SE.1 Yav;obtain⟨j,hj,kV⟩:=SE.1 Yaw;have h8:= @PQ prog 56 _ Extern.ReflectliteType.typeOf func56 zt zt zt zt;have Ea:= @PQ prog 328 _ uV func328 zt zt zt zt;have tT:=Z0o;have cT:=Zno;have mR:=Zgt;have nF:=Yes;have uF:=Zr6;have mU:=Znq;have aT:=run_eql_iface_ptr_same (P:=prog) w b underlying56 underlying411 hi Yi hj;have qG:=run_eql_iface_types (P:=prog) 83 411 (.pointer<|Qb pb po) (.pointer<|some b) underlying56 zu w;go_in
 go_wp2
 refine Dt 2 ?_;rw[A8];go_wp2
 rw[A8];go_wp2
 go_ret
 exact⟨rfl,rfl⟩
def Zrc (pb po:Nat)(b a:Addr)(ca cb:Array Value)(ta tb:TypeId)(w:World)(h1:w.cell? ⟨pb,po+1,none⟩=some (.iface 411<|.pointer<|some a))(hne:a≠b)(ha:w.heap[a.block]?=some (.cells ca ta (0,0)))(hb:w.heap[b.block]?=some (.cells cb tb (0,0))):
  Calls prog 27 #[.iface 83<|.pointer<|Qb pb po,.iface 411<|.pointer<|some b] w fun e w'=>e= .returned (.bool false)/\w'=w:=by
 obtain⟨i,hi,Yi⟩:=SE.1 Yav;obtain⟨j,hj,kV⟩:=SE.1 Yaw;have h8:= @PQ prog 56 _ Extern.ReflectliteType.typeOf func56 zt zt zt zt;have Ea:= @PQ prog 328 _ uV func328 zt zt zt zt;have tT:=Z0o;have cT:=Zno;have mR:=Zgt;have nE:=Yfq;have uE:=Z58;have vE:=Z2w;have nF:=Yes;have uF:=Zr6;have mU:=Znq;have aT:=run_eql_iface_ptr_other (P:=prog) w underlying56 underlying411 hi Yi hj (by rw[kV];decide) hne ha hb;have qG:=run_eql_iface_types (P:=prog) 83 411 (.pointer<|Qb pb po) (.pointer<|some b) underlying56 zu w;go_in
 go_wp2
 refine Dt 2 ?_;rw[A8];go_wp2
 rw[A8];go_wp2
 go_ret
 exact⟨rfl,rfl⟩
end Go.P
