import Derived.WalkKit
import Derived.Deep.RegionHeld
import Derived.Below
import Derived.Lib.UnsafeStr
theorem Go.Shut.o {p:Prop}(h:Go.Shut p):p:=h
theorem Go.zc {p:Prop}(h:p:=by simp;omega):p:=h
theorem Go.zd {p:Prop}(h:p:=by simp[intOf];omega):p:=h
theorem Go.zj {p:Prop}(h:p:=by rw[beq_eq_false_iff_ne];omega):p:=h
theorem Go.zp {p:Prop}(h:p:=by repeat (first | exact List.Mem.head _ | apply List.Mem.tail)):p:=h
abbrev Go.sE:Go.Value:=.string ⟨#[]⟩
abbrev Go.zr (x:Go.Addr):Go.Value:=.iface 430 (.pointer (some x))
theorem Go.zv (w:Go.World)(o:Go.Obj):Go.RowKit.Below w.heap.size w (w.alloc o):=(Go.RowKit.Below.refl _ w).alloc (Nat.le_refl _) o
abbrev Go.sP (p:Option Go.Addr) (n c:Nat):Go.Value:=.slice p n c
abbrev Go.um (t:ByteArray):Go.Value:=.string t
abbrev Go.uY (v:Go.Value):Go.Ending:=.returned v
abbrev Go.yS (n:Int):Go.Value:=.int .u8 n
abbrev Go.Al (n:Int):Go.Value:=.int .u32 n
abbrev Go.Ay:=ByteArray
abbrev Go.Bb:=Go.World
abbrev Go.Bp:=Option Go.Addr
abbrev Go.Bu:=List Go.Value
abbrev Go.Ca:=Array Go.Value
abbrev Go.Cg:=List Nat
abbrev Go.Cn (w:Go.World) (b o:Nat) (v:Go.Value):Prop:=w.cell? ⟨b,o,none⟩=some v
abbrev Go.Co (w:Go.World):Nat:=w.heap.size
theorem Go.fu {α:Sort _}(x:α):∃ y,x=y:=⟨_,rfl⟩
theorem Go.fw {p q:Prop}(h:q)(k:q->p:=by omega):p:=k h
theorem Go.jE {p q r:Prop}(h:q)(h':r)(k:q->r->p:=by omega):p:=k h h'
abbrev Go.Bl (w:Go.World):Go.World->Prop:=Go.RowKit.Below w.heap.size w
abbrev Go.Qb (b o:Nat):Option Go.Addr:=some ⟨b,o,none⟩
abbrev Go.zq (b o:Nat):Go.Value:=.pointer (some ⟨b,o,none⟩)
abbrev Go.zo (n:Int):Go.Value:=.int .i64 n
abbrev Go.zn:Go.Value:=.slice none 0 0
abbrev Go.zm (b o:Nat):Go.Addr:=⟨b,o,none⟩
theorem Go.zx {p:Prop}(h:p:=by omega):p:=h
theorem Go.zw {p:Prop}(h:p:=by simp):p:=h
theorem Go.zu {p:Prop}(h:p:=by decide):p:=h
theorem Go.zt {p:Prop}(h:p:=by kernel_rfl):p:=h
namespace Go
open Go.RowKit
theorem mq {P:Program}{k:Nat}{a:Array Value}{w:World}{v:Ending}{R:World->Prop}{Q:Ending->World->Prop}(h:Calls P k a w fun e w'=>e=v/\R w')(f:forall w',R w'->Q v w'):Calls P k a w Q:=h.mono fun _ _ h=>h.1 ▸ f _ h.2
theorem lr {n:Nat}:n<=n:=Nat.le_refl n
theorem zz:((forall (a:Act) (d:Nat) (v:Value),a.put (some d) v={a with tmps:=a.tmps.setIfInBounds d v})/\(forall (a:Act) (v:Value),a.put none v=a)/\(forall {α:Type} (l:List α) (i:Nat) (h:i<l.toArray.size),l.toArray[i]=l[i]'(by simpa using h))/\(forall {α:Type} (a:α) (l:List α) (i:Nat) (h:i+1<(a::l).length),(a::l)[i+1]=l[i]'(by simpa using h))/\(forall {α:Type} (a:α) (l:List α) (h:0<(a::l).length),(a::l)[0]=a)/\(forall {α:Type} (l:List α) (i:Nat) (a:α),l.toArray.setIfInBounds i a=(l.set i a).toArray)/\(forall {α:Type} (a b:α) (l:List α) (i:Nat),(a::l).set (i+1) b=a::l.set i b)/\(forall {α:Type} (a b:α) (l:List α),(a::l).set 0 b=b::l)):=⟨fun _ _ _=>rfl,fun _ _=>rfl,fun _ _ _=>by simp,fun _ _ _ _=>by simp,fun _ _ _=>rfl,fun _ _ _=>by simp,fun _ _ _ _=>rfl,fun _ _ _=>rfl⟩
theorem zE {P:Program}{md:Region.Mode}{ops:Array Oper}{Q:Exit->Act->World->Prop}{S:World->Prop}(i:Nat)(v:Value){oi:Oper}{fuel:Nat}{listed:Array Bool}{a:Act}{w:World}(hS:S w){g:Prop}(h:g)(hi:ops[i]?=some oi:=by rfl)(hs:Region.noSelect ops=true:=by kernel_rfl)(hf:Region.free md ops listed i=true:=by kernel_rfl)(hr:(Region.ready md ops listed).contains i=true:=by kernel_rfl)(hQ: ∀ c a w,Q (.panic c) (a.put oi.dst v) w->Q (.panic c) a w:=by exact fun _ _ _ h=>h)(hw:Region.wanted oi (yielded ops a.tmps)=true:=by rfl)(hy: ∀ u,S u->(execOp a.eval oi).run P u= .ok (.value v) u:=by intro _ h;revert h;(try simp only[and_imp]);intros;go_simp)(k:g->wpAnyH P md ops Q S fuel (listed.setIfInBounds i true) (a.put oi.dst v) w:=by intro h;(try simp only[zz]);exact h):wpAnyH P md ops Q S (fuel+1) listed a w:=
 wpAnyH_take hi hs hf hr hQ (Or.inl ⟨hw,hy⟩) hS (k h)
theorem mS {P:Program}{k:Nat}{a:Array Value}{w:World}{v:Ending}{Q:Ending->World->Prop}(h:Calls P k a w fun e w'=>e=v/\w'=w)(f:Q v w):Calls P k a w Q:=h.mono fun _ _ h=>h.1 ▸ h.2 ▸ f
theorem yr {P:Program}{md:Region.Mode}{ops:Array Oper}{Q:Exit->Act->World->Prop}{S:World->Prop}{fuel:Nat}{listed:Array Bool}{a:Act}{w:World}{o:Oper}(i:Nat)(h: ∀ K':Act->World->Prop,Shut (∀ a w,S w->(S w->wpAnyH P md ops Q S fuel (listed.setIfInBounds i true) a w)->K' a w)->if Region.wanted o (yielded ops a.tmps)=true then Oper.wp P o a w K' Q else K' (a.put o.dst undef) w)(hr:Region.ready md ops listed=[i]:=by kernel_rfl)(ho:ops[i]?=some o:=by rfl):wpAnyH P md ops Q S (fuel+1) listed a w:=wpAnyH_ready hr (by simp) (AllReadyH.cons ho h AllReadyH.nil)
abbrev xd:=@if_neg
abbrev xj:=@if_pos
abbrev xl:=@Go.Lib.byteCells_length
abbrev xp:=@List.map_cons
abbrev xr:=@List.getD_eq_getElem?_getD
abbrev xH:=@List.drop_eq_getElem_cons
abbrev wa:=@List.take_succ_eq_append_getElem
abbrev wb:=@List.map_append
abbrev we:=@List.mem_map
abbrev wi:=@Nat.pow_le_pow_right
abbrev wj:=@List.mem_cons_of_mem
abbrev wn:=@List.mem_iff_getElem?
abbrev wt:=@List.length_take
abbrev wx:=@Bool.and_eq_true
abbrev wA:=@decide_eq_true_eq
abbrev AJ:=@And.intro
abbrev AR:=@Below.refl
abbrev Ab:=@Nat.le_trans
abbrev Dy:=@Array.getElem?_setIfInBounds
abbrev A9:=@World.cell?_of_block
abbrev Ah:=@Below.heap_alloc
abbrev Aw:=@Below.heap_setCell
abbrev BK:=@Nat.lt_of_lt_of_le
abbrev A8:=@List.getElem?_eq_getElem
abbrev Ak:=@List.mem_cons
abbrev Aj:=@List.mem_append
abbrev DW:=@List.getElem?_eq_some_iff
abbrev EV:=@World.size_alloc
abbrev GN:=@List.size_toArray
abbrev PN:=@Array.getElem?_eq_some_iff
abbrev DU:=@List.length_cons
abbrev JB:=@List.append_assoc
abbrev ND:=@AllReadyH.cons
abbrev M9:=@List.eq_nil_of_length_eq_zero
abbrev JC:=@List.length_nil
abbrev M8:=@AllReadyH.nil
abbrev EC:=@List.cons_append
abbrev Qv:=@Array.replicate_zero
abbrev Qu:=@Array.replicate_succ
abbrev JU:=@List.nil_append
abbrev Qt:=@List.append_toArray
abbrev QP:=@Option.map_eq_some_iff
abbrev PL:=@List.getElem?_append_right
abbrev Qr:=@List.push_toArray
abbrev Nw:=@ByteArray.toList_eq
abbrev PK:=@List.getElem?_append_left
abbrev FK:=@List.getElem?_map
abbrev Ylf:=@Array.getElem?_append_left
abbrev Gx:=@Nat.zero_add
abbrev Tu:=@List.getElem?_toArray
abbrev U0:=@List.take_of_length_le
abbrev Me:=@Oper.semAt_some
abbrev Bh:=@List.mem_singleton
abbrev EO:=@Nat.le_refl
abbrev Vq:=@List.mem_append_right
abbrev Qq:=@Array.getElem?_toList
abbrev Zi:=@Go.MapKept.run_getObj_map
abbrev JS:=@List.length_append
abbrev YB:=@ByteArray.size_extract
abbrev Md:=@List.mem_append_left
abbrev Eg:=@Nat.zero_le
abbrev On:=@List.take_length
abbrev QO:=@List.getElem_mem
abbrev Mc:=@List.nodup_append
abbrev Gw:=@Option.some.inj
abbrev Dj:=@List.length_map
abbrev Vp:=@Array.length_toList
abbrev Ej:=@List.mem_of_getElem?
abbrev Vs:=@Result.andThen_ok
abbrev PM:=@List.take_add_one
abbrev Ny:=@Nat.le_succ
abbrev Lj:=@List.not_mem_nil
abbrev Zk:=@World.cell?_alloc_lt
abbrev rM:=@Array.setIfInBounds_setIfInBounds
abbrev YC:=@Nat.zero_mul
abbrev Qs:=@Nat.add_zero
abbrev bQ:=@World.frozen?_of_block
abbrev Zj:=@Array.getElem?_eq_none
abbrev SI:=@List.all_eq_true
abbrev Uz:=@Sem.run_bind
abbrev Qp:=@Nat.lt_or_ge
abbrev BJ:=@beq_eq_false_iff_ne
abbrev Tt:=@rounds_succ
abbrev Bg:=@bodyPost_ret
abbrev YA:=@wp_loop_rounds
abbrev Db:=@setRow_other
abbrev JA:=@run_callFunc_extern
abbrev Ij:=@wpList_store_row
abbrev DR:=@beq_iff_eq
abbrev MZ:=@wpAnyH_ready
abbrev Ef:=@setRow_size
abbrev GM:=@setRow_heap
abbrev J5:=@run_underlying
abbrev I8:=@decide_eq_false
abbrev QN:=@wpList_load_row
abbrev Uy:=@wpAnyH_done
abbrev Nv:=@decide_eq_true
abbrev Vo:=@run_loadVar_row
abbrev Zh:=@wp_region_held
abbrev bP:=@cell_setRow_other
abbrev X9:=@calls_of_wp
abbrev Vn:=@leaves_cons
abbrev xD:=@run_convert_bytes_back
theorem W.zy:True:=trivial
end Go
