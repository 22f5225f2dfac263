import Derived.Test.YtaoiihbjdonaoaaGreatDoorV
import Derived.Test.YtaoiihbjdonaoaaGreatDoorProg
import Derived.WalkKit
import Derived.LaidEql
import Derived.Stop.Asserts
import Derived.RowKitTokens
set_option linter.defProp false
set_option maxRecDepth 100000
set_option maxHeartbeats 8000000
set_option linter.unusedSimpArgs false
open Go.Proofs Go.RowKit Go.W Tryz
namespace Go.P
open Go.RowKit Go.Extern.Stop Go.Stop Go.Extern
def qR (v:Value)(w:World):(Extern.ReflectliteType.typeOf #[.iface 388 v]).run prog w= .ok (.iface 188<|.agg #[zq 23 388]) w:=zt
def qM:Array Value->Sem Value:=Extern.ReflectliteType.method fun t=>do Extern.Rtype.noPackHeld "Comparable" t;pure (.bool (<- typeInfo t).comparable)
def wQ (w:World):(qM #[.agg #[zq 23 388]]).run prog w= .ok (.bool true) w:=zt
def wT (v:Value)(w:World):(Go.method 531 188 v "Comparable").run prog w= .ok (301,v) w:=zt
def wm:(prog.info? 388).map (·.comparable)=some true:=zt
def wh:(prog.info? 390).map (·.size)=some 1:=zt
def Yir (v:Value)(xT:TypeId)(w:World):(Instr.typeAssert (.iface 388 v) xT 190 true).run prog w= .ok (.tuple #[.nilIface,.bool false]) w:=run_typeAssert_lacksB underlying190 zt zt v xT w
def Zq9 (v:Value)(xT:TypeId)(w:World):(Instr.typeAssert (.iface 388 v) xT 193 true).run prog w= .ok (.tuple #[.nilIface,.bool false]) w:=run_typeAssert_lacksB underlying193 zt zt v xT w
def Znn (v:Value)(xT:TypeId)(w:World):(Instr.typeAssert (.iface 388 v) xT 194 true).run prog w= .ok (.tuple #[.nilIface,.bool false]) w:=run_typeAssert_lacksB underlying194 zt zt v xT w
def Yis (v:Value)(xT:TypeId)(w:World):(Instr.typeAssert (.iface 89 v) xT 190 true).run prog w= .ok (.tuple #[.nilIface,.bool false]) w:=run_typeAssert_lacksB underlying190 zt zt v xT w
def Zto (v:Value)(xT:TypeId)(w:World):(Instr.typeAssert (.iface 89 v) xT 193 true).run prog w= .ok (.tuple #[.iface 89 v,.bool true]) w:=run_typeAssert_hasB underlying193 zt v xT w
def Zof (v:Value)(w:World):(Go.method 531 89 v "Unwrap").run prog w= .ok (293,v) w:=zt
def Yf6 (a:Addr)(w:World):
  Calls prog 23 #[.iface 388<|.pointer<|some a,.iface 388<|.pointer<|some a] w fun e w'=>e= .returned (.bool true)/\w'=w:=by
 obtain⟨i,hi,RS⟩:=QP.1 wm;obtain⟨j,hj,dY⟩:=QP.1 wh;have h8:= @JA prog 45 _ Extern.ReflectliteType.typeOf func45 zt zt zt zt;have G7:= @JA prog 301 _ qM func301 zt zt zt zt;have tT:=qR;have cT:=wQ;have mR:=wT;have Ce:=run_eql_iface_ptr_same (P:=prog) w a underlying67 underlying388 hi RS hj;go_in
 go_wp2
 refine YA 1 ?_;rw[Tt];go_wp2
 go_ret
 exact⟨rfl,rfl⟩
def Ycl (a b:Addr)(ca cb:Array Value)(ta tb:TypeId)(w:World)(hne:a≠b)(ha:w.heap[a.block]?=some (.cells ca ta (0,0)))(hb:w.heap[b.block]?=some (.cells cb tb (0,0))):
  Calls prog 23 #[.iface 388<|.pointer<|some a,.iface 388<|.pointer<|some b] w fun e w'=>e= .returned (.bool false)/\w'=w:=by
 obtain⟨i,hi,RS⟩:=QP.1 wm;obtain⟨j,hj,dY⟩:=QP.1 wh;have h8:= @JA prog 45 _ Extern.ReflectliteType.typeOf func45 zt zt zt zt;have G7:= @JA prog 301 _ qM func301 zt zt zt zt;have tT:=qR;have cT:=wQ;have mR:=wT;have nE:=Yir;have uE:=Zq9;have vE:=Znn;have Ce:=run_eql_iface_ptr_other (P:=prog) w underlying67 underlying388 hi RS hj (by rw[dY];decide) hne ha hb;go_in
 go_wp2
 refine YA 1 ?_;rw[Tt];go_wp2
 go_ret
 exact⟨rfl,rfl⟩
def Zvq (pb po:Nat)(b:Addr)(w:World)(h1:w.cell? (zm pb (po+1))=some (.iface 388<|.pointer<|some b)):
  Calls prog 23 #[.iface 89<|zq pb po,.iface 388<|.pointer<|some b] w fun e w'=>e= .returned (.bool true)/\w'=w:=by
 obtain⟨i,hi,RS⟩:=QP.1 wm;obtain⟨j,hj,dY⟩:=QP.1 wh;have h8:= @JA prog 45 _ Extern.ReflectliteType.typeOf func45 zt zt zt zt;have G7:= @JA prog 301 _ qM func301 zt zt zt zt;have tT:=qR;have cT:=wQ;have mR:=wT;have nF:=Yis;have uF:=Zto;have mU:=Zof;have Ce:=run_eql_iface_ptr_same (P:=prog) w b underlying67 underlying388 hi RS hj;have mW:=run_eql_iface_types (P:=prog) 89 388 (zq pb po) (.pointer<|some b) underlying67 zu w;go_in
 go_wp2
 refine YA 2 ?_;rw[Tt];go_wp2
 rw[Tt];go_wp2
 go_ret
 exact⟨rfl,rfl⟩
def Zsp (pb po:Nat)(b a:Addr)(ca cb:Array Value)(ta tb:TypeId)(w:World)(h1:w.cell? (zm pb (po+1))=some (.iface 388<|.pointer<|some a))(hne:a≠b)(ha:w.heap[a.block]?=some (.cells ca ta (0,0)))(hb:w.heap[b.block]?=some (.cells cb tb (0,0))):
  Calls prog 23 #[.iface 89<|zq pb po,.iface 388<|.pointer<|some b] w fun e w'=>e= .returned (.bool false)/\w'=w:=by
 obtain⟨i,hi,RS⟩:=QP.1 wm;obtain⟨j,hj,dY⟩:=QP.1 wh;have h8:= @JA prog 45 _ Extern.ReflectliteType.typeOf func45 zt zt zt zt;have G7:= @JA prog 301 _ qM func301 zt zt zt zt;have tT:=qR;have cT:=wQ;have mR:=wT;have nE:=Yir;have uE:=Zq9;have vE:=Znn;have nF:=Yis;have uF:=Zto;have mU:=Zof;have Ce:=run_eql_iface_ptr_other (P:=prog) w underlying67 underlying388 hi RS hj (by rw[dY];decide) hne ha hb;have mW:=run_eql_iface_types (P:=prog) 89 388 (zq pb po) (.pointer<|some b) underlying67 zu w;go_in
 go_wp2
 refine YA 2 ?_;rw[Tt];go_wp2
 rw[Tt];go_wp2
 go_ret
 exact⟨rfl,rfl⟩
end Go.P
