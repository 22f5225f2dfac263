import Derived.WalkKit
import Derived.Deep.RegionHeld
import Derived.Below
abbrev Go.Bl (w:Go.World):Go.World->Prop:=Go.RowKit.Below w.heap.size w
abbrev Go.Qb (b o:Nat):Option Go.Addr:=some ⟨b,o,none⟩
theorem Go.zx {p:Prop}(h:p:=by omega):p:=h
theorem Go.zw {p:Prop}(h:p:=by simp):p:=h
theorem Go.zu {p:Prop}(h:p:=by decide):p:=h
theorem Go.zt {p:Prop}(h:p:=by kernel_rfl):p:=h
namespace Go
open Go.RowKit
theorem tk {P:Program}{md:Region.Mode}{ops:Array Oper}{Q:Exit→Act→World→Prop}{S:World→Prop}(i:Nat)(v:Value){oi:Oper}{fuel:Nat}{listed:Array Bool}{a:Act}{w:World}(hS:S w)(h:wpAnyH P md ops Q S fuel (listed.setIfInBounds i true) (a.put oi.dst v) w)(hi:ops[i]?=some oi:=by rfl)(hs:Region.noSelect ops=true:=by kernel_rfl)(hf:Region.free md ops listed i=true:=by kernel_rfl)(hr:(Region.ready md ops listed).contains i=true:=by kernel_rfl)(hQ: ∀ c a w,Q (.panic c) (a.put oi.dst v) w→Q (.panic c) a w:=by exact fun _ _ _ h=>h)(hw:Region.wanted oi (yielded ops a.tmps)=true:=by rfl)(hy: ∀ u,S u→(execOp a.eval oi).run P u= .ok (.value v) u:=by intro _ _;go_simp):wpAnyH P md ops Q S (fuel+1) listed a w:=
 wpAnyH_take hi hs hf hr hQ (Or.inl ⟨hw,hy⟩) hS h
theorem mq {P:Program}{k:Nat}{a:Array Value}{w:World}{v:Ending}{R:World->Prop}{Q:Ending->World->Prop}(h:Calls P k a w fun e w'=>e=v/\R w')(f:forall w',R w'->Q v w'):Calls P k a w Q:=h.mono fun _ _ h=>h.1 ▸ f _ h.2
theorem lr {n:Nat}:n<=n:=Nat.le_refl n
theorem zz:((forall (a:Act) (d:Nat) (v:Value),a.put (some d) v={a with tmps:=a.tmps.setIfInBounds d v})/\(forall (a:Act) (v:Value),a.put none v=a)/\(forall {α:Type} (l:List α) (i:Nat) (h:i<l.toArray.size),l.toArray[i]=l[i]'(by simpa using h))/\(forall {α:Type} (a:α) (l:List α) (i:Nat) (h:i+1<(a::l).length),(a::l)[i+1]=l[i]'(by simpa using h))/\(forall {α:Type} (a:α) (l:List α) (h:0<(a::l).length),(a::l)[0]=a)/\(forall {α:Type} (l:List α) (i:Nat) (a:α),l.toArray.setIfInBounds i a=(l.set i a).toArray)/\(forall {α:Type} (a b:α) (l:List α) (i:Nat),(a::l).set (i+1) b=a::l.set i b)/\(forall {α:Type} (a b:α) (l:List α),(a::l).set 0 b=b::l)):=⟨fun _ _ _=>rfl,fun _ _=>rfl,fun _ _ _=>by simp,fun _ _ _ _=>by simp,fun _ _ _=>rfl,fun _ _ _=>by simp,fun _ _ _ _=>rfl,fun _ _ _=>rfl⟩
abbrev AF:=@And.intro
abbrev AQ:=@Below.refl
abbrev AU:=@Nat.le_trans
abbrev Bc:=@Array.getElem?_setIfInBounds
abbrev Am:=@World.cell?_of_block
abbrev Ah:=@Below.heap_alloc
abbrev Au:=@Below.heap_setCell
abbrev Ba:=@Nat.lt_of_lt_of_le
abbrev DK:=@List.getElem?_eq_getElem
abbrev Be:=@List.mem_cons
abbrev CY:=@List.mem_append
abbrev Gl:=@List.getElem?_eq_some_iff
abbrev EH:=@World.size_alloc
abbrev E9:=@List.size_toArray
abbrev IU:=@Array.getElem?_eq_some_iff
abbrev BO:=@List.length_cons
abbrev GY:=@List.append_assoc
abbrev EG:=@AllReadyH.cons
abbrev Ht:=@List.eq_nil_of_length_eq_zero
abbrev D7:=@List.length_nil
abbrev Eh:=@AllReadyH.nil
abbrev Gm:=@List.cons_append
abbrev Jv:=@Array.replicate_zero
abbrev Ju:=@Array.replicate_succ
abbrev FK:=@List.nil_append
abbrev Jt:=@List.append_toArray
abbrev SE:=@Option.map_eq_some_iff
abbrev Q7:=@List.getElem?_append_right
abbrev Jr:=@List.push_toArray
abbrev Lr:=@ByteArray.toList_eq
abbrev Q0:=@List.getElem?_append_left
abbrev Jq:=@List.getElem?_map
abbrev Ry:=@Array.getElem?_append_left
abbrev Hr:=@Nat.zero_add
abbrev Qz:=@List.getElem?_toArray
abbrev Rx:=@List.take_of_length_le
abbrev MZ:=@Oper.semAt_some
abbrev MX:=@List.mem_singleton
abbrev JB:=@Nat.le_refl
abbrev UH:=@List.mem_append_right
abbrev UG:=@Array.getElem?_toList
abbrev WL:=@Go.MapKept.run_getObj_map
abbrev Bq:=@List.length_append
abbrev U9:=@ByteArray.size_extract
abbrev UF:=@List.mem_append_left
abbrev Ii:=@Nat.zero_le
abbrev JQ:=@List.take_length
abbrev KV:=@List.getElem_mem
abbrev Qy:=@List.nodup_append
abbrev Ny:=@Option.some.inj
abbrev Nw:=@List.length_map
abbrev UE:=@Array.length_toList
abbrev U8:=@List.mem_of_getElem?
abbrev Rw:=@Result.andThen_ok
abbrev PR:=@List.take_add_one
abbrev Js:=@Nat.le_succ
abbrev SA:=@List.not_mem_nil
abbrev Zn:=@World.cell?_alloc_lt
abbrev ja:=@Array.setIfInBounds_setIfInBounds
abbrev Ol:=@Nat.zero_mul
abbrev Oj:=@Nat.add_zero
abbrev Xj:=@World.frozen?_of_block
abbrev Zm:=@Array.getElem?_eq_none
abbrev UI:=@List.all_eq_true
abbrev QM:=@Sem.run_bind
abbrev QL:=@Nat.lt_or_ge
abbrev BK:=@beq_eq_false_iff_ne
abbrev A8:=@rounds_succ
abbrev CQ:=@bodyPost_ret
abbrev Dt:=@wp_loop_rounds
abbrev Db:=@setRow_other
abbrev PQ:=@run_callFunc_extern
abbrev Jp:=@wpList_store_row
abbrev DJ:=@beq_iff_eq
abbrev Eg:=@wpAnyH_ready
abbrev ET:=@setRow_size
abbrev Gj:=@setRow_heap
abbrev Jo:=@run_underlying
abbrev Oi:=@decide_eq_false
abbrev QK:=@wpList_load_row
abbrev Lp:=@wpAnyH_done
abbrev QJ:=@decide_eq_true
abbrev WK:=@run_loadVar_row
abbrev U7:=@wp_region_held
abbrev Xi:=@cell_setRow_other
abbrev Qx:=@calls_of_wp
abbrev Ru:=@leaves_cons
abbrev oM:=@run_convert_bytes_back
theorem W.zy:True:=trivial
theorem P.zy:True:=trivial
end Go
