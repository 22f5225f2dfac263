import Derived.Test.YtmebjfclpalmaaaGreatDoorV
import Derived.Test.YtmebjfclpalmaaaGreatDoorProg
import Derived.WalkKit
import Derived.LaidEql
import Derived.Stop.Asserts
import Derived.RowKitTokens
set_option maxRecDepth 100000
set_option maxHeartbeats 8000000
set_option linter.unusedSimpArgs false
open Go.Proofs Go.RowKit Go.W Tryz
namespace Go.P
open Go.RowKit Go.Extern.Stop Go.Stop Go.Extern
theorem Zkq (v:Value)(w:World):(Extern.ReflectliteType.typeOf #[.iface 403 v]).run prog w= .ok (.iface 210 (.agg #[.pointer (some ⟨23,403,none⟩)])) w:=by kernel_rfl
def Zkl:Array Value->Sem Value:=Extern.ReflectliteType.method fun t=>do Extern.Rtype.noPackHeld "Comparable" t;pure (.bool (<- typeInfo t).comparable)
theorem Zgg (w:World):(Zkl #[.agg #[.pointer (some ⟨23,403,none⟩)]]).run prog w= .ok (.bool true) w:=by kernel_rfl
theorem Zdd (v:Value)(w:World):(Go.method 546 210 v "Comparable").run prog w= .ok (316,v) w:=by kernel_rfl
theorem Zye:(prog.info? 403).map (·.comparable)=some true:=by kernel_rfl
theorem Zyf:(prog.info? 405).map (·.size)=some 1:=by kernel_rfl
theorem Ybo (v:Value)(xT:TypeId)(w:World):(Instr.typeAssert (.iface 403 v) xT 212 true).run prog w= .ok (.tuple #[.nilIface,.bool false]) w:=run_typeAssert_lacksB underlying212 (by kernel_rfl) (by kernel_rfl) v xT w
theorem Zog (v:Value)(xT:TypeId)(w:World):(Instr.typeAssert (.iface 403 v) xT 215 true).run prog w= .ok (.tuple #[.nilIface,.bool false]) w:=run_typeAssert_lacksB underlying215 (by kernel_rfl) (by kernel_rfl) v xT w
theorem Zlu (v:Value)(xT:TypeId)(w:World):(Instr.typeAssert (.iface 403 v) xT 216 true).run prog w= .ok (.tuple #[.nilIface,.bool false]) w:=run_typeAssert_lacksB underlying216 (by kernel_rfl) (by kernel_rfl) v xT w
theorem Ybp (v:Value)(xT:TypeId)(w:World):(Instr.typeAssert (.iface 97 v) xT 212 true).run prog w= .ok (.tuple #[.nilIface,.bool false]) w:=run_typeAssert_lacksB underlying212 (by kernel_rfl) (by kernel_rfl) v xT w
theorem Zqu (v:Value)(xT:TypeId)(w:World):(Instr.typeAssert (.iface 97 v) xT 215 true).run prog w= .ok (.tuple #[.iface 97 v,.bool true]) w:=run_typeAssert_hasB underlying215 (by kernel_rfl) v xT w
theorem Zme (v:Value)(w:World):(Go.method 546 97 v "Unwrap").run prog w= .ok (309,v) w:=by kernel_rfl
theorem Z9g (a:Addr)(w:World):
  Calls prog 37 #[.iface 403 (.pointer (some a)),.iface 403 (.pointer (some a))] w fun e w'=>e= .returned (.bool true)/\w'=w:=by
 obtain⟨i,hi,hcmp⟩:=Yd0.1 Zye;obtain⟨j,hj,hjs⟩:=Yd0.1 Zyf;have h8:= @Ye9 prog 65 _ Extern.ReflectliteType.typeOf func65 (by kernel_rfl) (by kernel_rfl) (by kernel_rfl) (by kernel_rfl);have h32:= @Ye9 prog 316 _ Zkl func316 (by kernel_rfl) (by kernel_rfl) (by kernel_rfl) (by kernel_rfl);have tT:=Zkq;have cT:=Zgg;have mR:=Zdd;have heq:=run_eql_iface_ptr_same (P:=prog) w a underlying62 underlying403 hi hcmp hj;go_in
 go_wp2
 refine Ye7 1 ?_;rw[Ye5];go_wp2
 go_ret
 exact⟨rfl,rfl⟩
theorem Z6l (a b:Addr)(ca cb:Array Value)(ta tb:TypeId)(w:World)(hne:a≠b)(ha:w.heap[a.block]?=some (.cells ca ta (0,0)))(hb:w.heap[b.block]?=some (.cells cb tb (0,0))):
  Calls prog 37 #[.iface 403 (.pointer (some a)),.iface 403 (.pointer (some b))] w fun e w'=>e= .returned (.bool false)/\w'=w:=by
 obtain⟨i,hi,hcmp⟩:=Yd0.1 Zye;obtain⟨j,hj,hjs⟩:=Yd0.1 Zyf;have h8:= @Ye9 prog 65 _ Extern.ReflectliteType.typeOf func65 (by kernel_rfl) (by kernel_rfl) (by kernel_rfl) (by kernel_rfl);have h32:= @Ye9 prog 316 _ Zkl func316 (by kernel_rfl) (by kernel_rfl) (by kernel_rfl) (by kernel_rfl);have tT:=Zkq;have cT:=Zgg;have mR:=Zdd;have nE:=Ybo;have uE:=Zog;have vE:=Zlu;have heq:=run_eql_iface_ptr_other (P:=prog) w underlying62 underlying403 hi hcmp hj (by rw[hjs];decide) hne ha hb;go_in
 go_wp2
 refine Ye7 1 ?_;rw[Ye5];go_wp2
 go_ret
 exact⟨rfl,rfl⟩
theorem Zsc (pb po:Nat)(b:Addr)(w:World)(h1:w.cell? ⟨pb,po+1,none⟩=some (.iface 403 (.pointer (some b)))):
  Calls prog 37 #[.iface 97 (.pointer (some ⟨pb,po,none⟩)),.iface 403 (.pointer (some b))] w fun e w'=>e= .returned (.bool true)/\w'=w:=by
 obtain⟨i,hi,hcmp⟩:=Yd0.1 Zye;obtain⟨j,hj,hjs⟩:=Yd0.1 Zyf;have h8:= @Ye9 prog 65 _ Extern.ReflectliteType.typeOf func65 (by kernel_rfl) (by kernel_rfl) (by kernel_rfl) (by kernel_rfl);have h32:= @Ye9 prog 316 _ Zkl func316 (by kernel_rfl) (by kernel_rfl) (by kernel_rfl) (by kernel_rfl);have tT:=Zkq;have cT:=Zgg;have mR:=Zdd;have nF:=Ybp;have uF:=Zqu;have mU:=Zme;have heq:=run_eql_iface_ptr_same (P:=prog) w b underlying62 underlying403 hi hcmp hj;have hty:=run_eql_iface_types (P:=prog) 97 403 (.pointer (some ⟨pb,po,none⟩)) (.pointer (some b)) underlying62 (by decide) w;go_in
 go_wp2
 refine Ye7 2 ?_;rw[Ye5];go_wp2
 rw[Ye5];go_wp2
 go_ret
 exact⟨rfl,rfl⟩
theorem Zpz (pb po:Nat)(b a:Addr)(ca cb:Array Value)(ta tb:TypeId)(w:World)(h1:w.cell? ⟨pb,po+1,none⟩=some (.iface 403 (.pointer (some a))))(hne:a≠b)(ha:w.heap[a.block]?=some (.cells ca ta (0,0)))(hb:w.heap[b.block]?=some (.cells cb tb (0,0))):
  Calls prog 37 #[.iface 97 (.pointer (some ⟨pb,po,none⟩)),.iface 403 (.pointer (some b))] w fun e w'=>e= .returned (.bool false)/\w'=w:=by
 obtain⟨i,hi,hcmp⟩:=Yd0.1 Zye;obtain⟨j,hj,hjs⟩:=Yd0.1 Zyf;have h8:= @Ye9 prog 65 _ Extern.ReflectliteType.typeOf func65 (by kernel_rfl) (by kernel_rfl) (by kernel_rfl) (by kernel_rfl);have h32:= @Ye9 prog 316 _ Zkl func316 (by kernel_rfl) (by kernel_rfl) (by kernel_rfl) (by kernel_rfl);have tT:=Zkq;have cT:=Zgg;have mR:=Zdd;have nE:=Ybo;have uE:=Zog;have vE:=Zlu;have nF:=Ybp;have uF:=Zqu;have mU:=Zme;have heq:=run_eql_iface_ptr_other (P:=prog) w underlying62 underlying403 hi hcmp hj (by rw[hjs];decide) hne ha hb;have hty:=run_eql_iface_types (P:=prog) 97 403 (.pointer (some ⟨pb,po,none⟩)) (.pointer (some b)) underlying62 (by decide) w;go_in
 go_wp2
 refine Ye7 2 ?_;rw[Ye5];go_wp2
 rw[Ye5];go_wp2
 go_ret
 exact⟨rfl,rfl⟩
end Go.P
