import Derived.Test.YtpmcefkhkkpnbaaGreatDoorV
import Derived.Test.YtpmcefkhkkpnbaaGreatDoorProg
import Derived.WalkKit
import Derived.LaidEql
import Derived.Stop.Asserts
import Derived.RowKitTokens
set_option linter.all false
set_option maxRecDepth 100000
set_option maxHeartbeats 8000000
open Go.Proofs Go.RowKit Go.W Tryz
namespace Go.W
section
open Go.Extern.Stop Go.Stop Go.Extern
def qR (v:Value)(w:Bb):(Extern.ReflectliteType.typeOf #[.iface 430 v]).run prog w= .ok (.iface 245<|.agg #[zq 24 430]) w:=zt
def qM:Ca->Sem Value:=Extern.ReflectliteType.method fun t=>do Extern.Rtype.noPackHeld "Comparable" t;pure (.bool (<- typeInfo t).comparable)
def wQ (w:Bb):(qM #[.agg #[zq 24 430]]).run prog w= .ok (.bool true) w:=zt
def wT (v:Value)(w:Bb):(Go.method 573 245 v "Comparable").run prog w= .ok (336,v) w:=zt
def wm:(prog.info? 430).map (·.comparable)=some true:=zt
def wh:(prog.info? 432).map (·.size)=some 1:=zt
def Yir (v:Value)(xT:TypeId)(w:Bb):(Instr.typeAssert (.iface 430 v) xT 247 true).run prog w= .ok (.tuple #[.nilIface,.bool false]) w:=run_typeAssert_lacksB underlying247 zt zt v xT w
def Zq9 (v:Value)(xT:TypeId)(w:Bb):(Instr.typeAssert (.iface 430 v) xT 250 true).run prog w= .ok (.tuple #[.nilIface,.bool false]) w:=run_typeAssert_lacksB underlying250 zt zt v xT w
def Znn (v:Value)(xT:TypeId)(w:Bb):(Instr.typeAssert (.iface 430 v) xT 251 true).run prog w= .ok (.tuple #[.nilIface,.bool false]) w:=run_typeAssert_lacksB underlying251 zt zt v xT w
def Yis (v:Value)(xT:TypeId)(w:Bb):(Instr.typeAssert (.iface 86 v) xT 247 true).run prog w= .ok (.tuple #[.nilIface,.bool false]) w:=run_typeAssert_lacksB underlying247 zt zt v xT w
def Zto (v:Value)(xT:TypeId)(w:Bb):(Instr.typeAssert (.iface 86 v) xT 250 true).run prog w= .ok (.tuple #[.iface 86 v,.bool true]) w:=run_typeAssert_hasB underlying250 zt v xT w
def Zof (v:Value)(w:Bb):(Go.method 573 86 v "Unwrap").run prog w= .ok (328,v) w:=zt
def Yf6 (a:Addr)(w:Bb):
  Calls prog 27 #[.iface 430<|.pointer<|some a,.iface 430<|.pointer<|some a] w fun e w'=>e=uY (.bool true)/\w'=w:=by
 obtain⟨i,hi,RS⟩:=QP.1 wm;obtain⟨j,hj,dY⟩:=QP.1 wh;have h8:= @JA prog 62 _ Extern.ReflectliteType.typeOf func62 zt zt zt zt;have G7:= @JA prog 336 _ qM func336 zt zt zt zt;have tT:=qR;have cT:=wQ;have mR:=wT;have Ce:=run_eql_iface_ptr_same (P:=prog) w a underlying57 underlying430 hi RS hj;go_in
 go_wp2
 refine YA 1 ?_;rw[Tt];go_wp2
 go_ret
 exact⟨rfl,rfl⟩
def Ycl (a b:Addr)(ca cb:Ca)(ta tb:TypeId)(w:Bb)(hne:a≠b)(ha:w.heap[a.block]?=some (.cells ca ta (0,0)))(hb:w.heap[b.block]?=some (.cells cb tb (0,0))):
  Calls prog 27 #[.iface 430<|.pointer<|some a,.iface 430<|.pointer<|some b] w fun e w'=>e=uY (.bool false)/\w'=w:=by
 obtain⟨i,hi,RS⟩:=QP.1 wm;obtain⟨j,hj,dY⟩:=QP.1 wh;have h8:= @JA prog 62 _ Extern.ReflectliteType.typeOf func62 zt zt zt zt;have G7:= @JA prog 336 _ qM func336 zt zt zt zt;have tT:=qR;have cT:=wQ;have mR:=wT;have nE:=Yir;have uE:=Zq9;have vE:=Znn;have Ce:=run_eql_iface_ptr_other (P:=prog) w underlying57 underlying430 hi RS hj (by rw[dY];decide) hne ha hb;go_in
 go_wp2
 refine YA 1 ?_;rw[Tt];go_wp2
 go_ret
 exact⟨rfl,rfl⟩
def Zvq (pb po:Nat)(b:Addr)(w:Bb)(h1:w.cell? (zm pb (po+1))=some (.iface 430<|.pointer<|some b)):
  Calls prog 27 #[.iface 86<|zq pb po,.iface 430<|.pointer<|some b] w fun e w'=>e=uY (.bool true)/\w'=w:=by
 obtain⟨i,hi,RS⟩:=QP.1 wm;obtain⟨j,hj,dY⟩:=QP.1 wh;have h8:= @JA prog 62 _ Extern.ReflectliteType.typeOf func62 zt zt zt zt;have G7:= @JA prog 336 _ qM func336 zt zt zt zt;have tT:=qR;have cT:=wQ;have mR:=wT;have nF:=Yis;have uF:=Zto;have mU:=Zof;have Ce:=run_eql_iface_ptr_same (P:=prog) w b underlying57 underlying430 hi RS hj;have mW:=run_eql_iface_types (P:=prog) 86 430 (zq pb po) (.pointer<|some b) underlying57 zu w;go_in
 go_wp2
 refine YA 2 ?_;rw[Tt];go_wp2
 rw[Tt];go_wp2
 go_ret
 exact⟨rfl,rfl⟩
def Zsp (pb po:Nat)(b a:Addr)(ca cb:Ca)(ta tb:TypeId)(w:Bb)(h1:w.cell? (zm pb (po+1))=some (.iface 430<|.pointer<|some a))(hne:a≠b)(ha:w.heap[a.block]?=some (.cells ca ta (0,0)))(hb:w.heap[b.block]?=some (.cells cb tb (0,0))):
  Calls prog 27 #[.iface 86<|zq pb po,.iface 430<|.pointer<|some b] w fun e w'=>e=uY (.bool false)/\w'=w:=by
 obtain⟨i,hi,RS⟩:=QP.1 wm;obtain⟨j,hj,dY⟩:=QP.1 wh;have h8:= @JA prog 62 _ Extern.ReflectliteType.typeOf func62 zt zt zt zt;have G7:= @JA prog 336 _ qM func336 zt zt zt zt;have tT:=qR;have cT:=wQ;have mR:=wT;have nE:=Yir;have uE:=Zq9;have vE:=Znn;have nF:=Yis;have uF:=Zto;have mU:=Zof;have Ce:=run_eql_iface_ptr_other (P:=prog) w underlying57 underlying430 hi RS hj (by rw[dY];decide) hne ha hb;have mW:=run_eql_iface_types (P:=prog) 86 430 (zq pb po) (.pointer<|some b) underlying57 zu w;go_in
 go_wp2
 refine YA 2 ?_;rw[Tt];go_wp2
 rw[Tt];go_wp2
 go_ret
 exact⟨rfl,rfl⟩
end
end Go.W
