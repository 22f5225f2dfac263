import Derived.Test.YtgnakaplmhmdcaaGreatDoorV
import Derived.Test.YtgnakaplmhmdcaaGreatDoorProg
import Derived.WalkKit
import Derived.LaidEql
import Derived.Stop.Asserts
import Derived.RowKitTokens
set_option maxRecDepth 100000
set_option maxHeartbeats 8000000
set_option linter.unusedSimpArgs false
open Go.Proofs Go.RowKit Go.W
namespace Go.P
open Go.RowKit Go.Extern.Stop Go.Stop Go.Extern
theorem Zko (v:Value)(w:World):(Extern.ReflectliteType.typeOf #[.iface 394 v]).run Tryz.prog w= .ok (.iface 215 (.agg #[.pointer (some ⟨23,394,none⟩)])) w:=by kernel_rfl
def Zku:Array Value->Sem Value:=Extern.ReflectliteType.method fun t=>do Extern.Rtype.noPackHeld "Comparable" t;pure (.bool (<- typeInfo t).comparable)
theorem Zf8 (w:World):(Zku #[.agg #[.pointer (some ⟨23,394,none⟩)]]).run Tryz.prog w= .ok (.bool true) w:=by kernel_rfl
theorem Zc8 (v:Value)(w:World):(Go.method 537 215 v "Comparable").run Tryz.prog w= .ok (307,v) w:=by kernel_rfl
theorem Zym:(Tryz.prog.info? 394).map (·.comparable)=some true:=by kernel_rfl
theorem Zx0:(Tryz.prog.info? 396).map (·.size)=some 1:=by kernel_rfl
theorem Z98 (v:Value)(xT:TypeId)(w:World):(Instr.typeAssert (.iface 394 v) xT 217 true).run Tryz.prog w= .ok (.tuple #[.nilIface,.bool false]) w:=run_typeAssert_lacksB Tryz.underlying217 (by kernel_rfl) (by kernel_rfl) v xT w
theorem Zoq (v:Value)(xT:TypeId)(w:World):(Instr.typeAssert (.iface 394 v) xT 220 true).run Tryz.prog w= .ok (.tuple #[.nilIface,.bool false]) w:=run_typeAssert_lacksB Tryz.underlying220 (by kernel_rfl) (by kernel_rfl) v xT w
theorem Zld (v:Value)(xT:TypeId)(w:World):(Instr.typeAssert (.iface 394 v) xT 221 true).run Tryz.prog w= .ok (.tuple #[.nilIface,.bool false]) w:=run_typeAssert_lacksB Tryz.underlying221 (by kernel_rfl) (by kernel_rfl) v xT w
theorem Ybb (v:Value)(xT:TypeId)(w:World):(Instr.typeAssert (.iface 86 v) xT 217 true).run Tryz.prog w= .ok (.tuple #[.nilIface,.bool false]) w:=run_typeAssert_lacksB Tryz.underlying217 (by kernel_rfl) (by kernel_rfl) v xT w
theorem Zrb (v:Value)(xT:TypeId)(w:World):(Instr.typeAssert (.iface 86 v) xT 220 true).run Tryz.prog w= .ok (.tuple #[.iface 86 v,.bool true]) w:=run_typeAssert_hasB Tryz.underlying220 (by kernel_rfl) v xT w
theorem Zmc (v:Value)(w:World):(Go.method 537 86 v "Unwrap").run Tryz.prog w= .ok (300,v) w:=by kernel_rfl
theorem Z9h (a:Addr)(w:World):
  Calls Tryz.prog 30 #[.iface 394 (.pointer (some a)),.iface 394 (.pointer (some a))] w fun e w'=>e= .returned (.bool true)/\w'=w:=by
 obtain⟨i,hi,hcmp⟩:=Ydi.1 Zym;obtain⟨j,hj,hjs⟩:=Ydi.1 Zx0;have h8:= @run_callFunc_extern Tryz.prog 60 _ Extern.ReflectliteType.typeOf Tryz.func60 (by kernel_rfl) (by kernel_rfl) (by kernel_rfl) (by kernel_rfl);have h32:= @run_callFunc_extern Tryz.prog 307 _ Zku Tryz.func307 (by kernel_rfl) (by kernel_rfl) (by kernel_rfl) (by kernel_rfl);have tT:=Zko;have cT:=Zf8;have mR:=Zc8;have heq:=run_eql_iface_ptr_same (P:=Tryz.prog) w a Tryz.underlying58 Tryz.underlying394 hi hcmp hj;go_enter Tryz.func30,Tryz.ntmps30
 go_wp2
 refine wp_loop_rounds 1 ?_;rw[rounds_succ];go_wp2
 go_ret
 exact⟨rfl,rfl⟩
theorem Z5j (a b:Addr)(ca cb:Array Value)(ta tb:TypeId)(w:World)(hne:a≠b)(ha:w.heap[a.block]?=some (.cells ca ta (0,0)))(hb:w.heap[b.block]?=some (.cells cb tb (0,0))):
  Calls Tryz.prog 30 #[.iface 394 (.pointer (some a)),.iface 394 (.pointer (some b))] w fun e w'=>e= .returned (.bool false)/\w'=w:=by
 obtain⟨i,hi,hcmp⟩:=Ydi.1 Zym;obtain⟨j,hj,hjs⟩:=Ydi.1 Zx0;have h8:= @run_callFunc_extern Tryz.prog 60 _ Extern.ReflectliteType.typeOf Tryz.func60 (by kernel_rfl) (by kernel_rfl) (by kernel_rfl) (by kernel_rfl);have h32:= @run_callFunc_extern Tryz.prog 307 _ Zku Tryz.func307 (by kernel_rfl) (by kernel_rfl) (by kernel_rfl) (by kernel_rfl);have tT:=Zko;have cT:=Zf8;have mR:=Zc8;have nE:=Z98;have uE:=Zoq;have vE:=Zld;have heq:=run_eql_iface_ptr_other (P:=Tryz.prog) w Tryz.underlying58 Tryz.underlying394 hi hcmp hj (by rw[hjs];decide) hne ha hb;go_enter Tryz.func30,Tryz.ntmps30
 go_wp2
 refine wp_loop_rounds 1 ?_;rw[rounds_succ];go_wp2
 go_ret
 exact⟨rfl,rfl⟩
theorem Zro (pb po:Nat)(b:Addr)(w:World)(h1:w.cell? ⟨pb,po+1,none⟩=some (.iface 394 (.pointer (some b)))):
  Calls Tryz.prog 30 #[.iface 86 (.pointer (some ⟨pb,po,none⟩)),.iface 394 (.pointer (some b))] w fun e w'=>e= .returned (.bool true)/\w'=w:=by
 obtain⟨i,hi,hcmp⟩:=Ydi.1 Zym;obtain⟨j,hj,hjs⟩:=Ydi.1 Zx0;have h8:= @run_callFunc_extern Tryz.prog 60 _ Extern.ReflectliteType.typeOf Tryz.func60 (by kernel_rfl) (by kernel_rfl) (by kernel_rfl) (by kernel_rfl);have h32:= @run_callFunc_extern Tryz.prog 307 _ Zku Tryz.func307 (by kernel_rfl) (by kernel_rfl) (by kernel_rfl) (by kernel_rfl);have tT:=Zko;have cT:=Zf8;have mR:=Zc8;have nF:=Ybb;have uF:=Zrb;have mU:=Zmc;have heq:=run_eql_iface_ptr_same (P:=Tryz.prog) w b Tryz.underlying58 Tryz.underlying394 hi hcmp hj;have hty:=run_eql_iface_types (P:=Tryz.prog) 86 394 (.pointer (some ⟨pb,po,none⟩)) (.pointer (some b)) Tryz.underlying58 (by decide) w;go_enter Tryz.func30,Tryz.ntmps30
 go_wp2
 refine wp_loop_rounds 2 ?_;rw[rounds_succ];go_wp2
 rw[rounds_succ];go_wp2
 go_ret
 exact⟨rfl,rfl⟩
theorem Zp1 (pb po:Nat)(b a:Addr)(ca cb:Array Value)(ta tb:TypeId)(w:World)(h1:w.cell? ⟨pb,po+1,none⟩=some (.iface 394 (.pointer (some a))))(hne:a≠b)(ha:w.heap[a.block]?=some (.cells ca ta (0,0)))(hb:w.heap[b.block]?=some (.cells cb tb (0,0))):
  Calls Tryz.prog 30 #[.iface 86 (.pointer (some ⟨pb,po,none⟩)),.iface 394 (.pointer (some b))] w fun e w'=>e= .returned (.bool false)/\w'=w:=by
 obtain⟨i,hi,hcmp⟩:=Ydi.1 Zym;obtain⟨j,hj,hjs⟩:=Ydi.1 Zx0;have h8:= @run_callFunc_extern Tryz.prog 60 _ Extern.ReflectliteType.typeOf Tryz.func60 (by kernel_rfl) (by kernel_rfl) (by kernel_rfl) (by kernel_rfl);have h32:= @run_callFunc_extern Tryz.prog 307 _ Zku Tryz.func307 (by kernel_rfl) (by kernel_rfl) (by kernel_rfl) (by kernel_rfl);have tT:=Zko;have cT:=Zf8;have mR:=Zc8;have nE:=Z98;have uE:=Zoq;have vE:=Zld;have nF:=Ybb;have uF:=Zrb;have mU:=Zmc;have heq:=run_eql_iface_ptr_other (P:=Tryz.prog) w Tryz.underlying58 Tryz.underlying394 hi hcmp hj (by rw[hjs];decide) hne ha hb;have hty:=run_eql_iface_types (P:=Tryz.prog) 86 394 (.pointer (some ⟨pb,po,none⟩)) (.pointer (some b)) Tryz.underlying58 (by decide) w;go_enter Tryz.func30,Tryz.ntmps30
 go_wp2
 refine wp_loop_rounds 2 ?_;rw[rounds_succ];go_wp2
 rw[rounds_succ];go_wp2
 go_ret
 exact⟨rfl,rfl⟩
end Go.P
