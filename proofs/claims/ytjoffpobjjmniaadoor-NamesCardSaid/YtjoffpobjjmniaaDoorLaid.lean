/- From the listed variables to Good; the row; the card. -/
import Derived.Test.YtjoffpobjjmniaaDoorWalk
import Derived.Test.YtjoffpobjjmniaaDoorRows
import Derived.Test.YtjoffpobjjmniaaDoorTie
import Derived.Test.YtjoffpobjjmniaaDoorCards
import Derived.ProofKit
import Derived.LaidMore
import Derived.OpenShut
import Derived.Stop.Joined
import Derived.Stop.LaidErr
namespace Go.Proofs.YtjoffpobjjmniaaDoor
open Go.ChangeShapes Go.WideShapes Go.ChangeAt Go.RowKit

theorem own : ownKnob Tryd.prog.godebug = none := by kernel_rfl
theorem rt : (Tryd.prog.cutTypes.find? (·.1 == "internal/reflectlite.rtype")).map (·.2) = some 52 := by kernel_rfl
theorem oneRow : ((List.range 118).filter fun t => Tryd.prog.rowNamed t [101, 114, 114, 111, 114]) = [26] := by kernel_rfl
theorem typesSize : Tryd.prog.types.size = 118 := by kernel_rfl
theorem etNamed : Tryd.prog.globalNamed "errors.errorType" = some 10 := by kernel_rfl
theorem cellsE : Tryd.prog.cellsOf 106 = 1 := by kernel_rfl
theorem cellsS : Tryd.prog.cellsOf 9 = 1 := by kernel_rfl
theorem rowE (u : TypeId) (hu : Tryd.prog.typeName? 3 u = some "*errors.errorString") : u = 66 :=
  typeName_ptr_named (nm := "errors.errorString") (by kernel_rfl) (by kernel_rfl) (by decide) u hu

theorem laidMet.one {P : Program} {l : List (String × DataW Unit)} {W : World} {x : String × DataW Unit} (h : laidMet P l W) (hx : x ∈ l) : laidMet P [x] W := by
  induction l with
  | nil => cases hx
  | cons y r ih =>
    rcases List.mem_cons.1 hx with rfl | hx'
    · obtain ⟨ps, hv, hnd, hrows⟩ := h
      obtain ⟨n, d⟩ := x
      obtain ⟨g, t, cs, fuel, p, q, h1, h2, h3, h4, _, rfl⟩ := hv
      exact ⟨MemPlace.row ⟨g, 0, none⟩ cs.size ++ p ++ [], ⟨g, t, cs, fuel, p, [], h1, h2, h3, h4, rfl, rfl⟩, by simpa using List.Nodup.sublist (List.sublist_append_left _ _) hnd, fun b off hm => hrows b off (by rw [List.append_nil] at hm; exact List.mem_append_left _ hm)⟩
    · exact ih h.tail hx'

set_option maxRecDepth 100000 in
theorem sent_one {n : String} {text : List UInt8} {W : World} {g : Nat} (h : laidMet Tryd.prog [(n, .iface "*errors.errorString" (.ptr (.agg [.lit (.string text)])))] W)
    (hg : Tryd.prog.globalNamed n = some g) (ht : (Tryd.prog.globals[g]?).map (·.type) = some 26) :
    ∃ (a : Addr) (s : ByteArray), W.cell? ⟨g, 0, none⟩ = some (.iface 66 (.pointer (some a))) ∧ W.cell? a = some (.string s) ∧ s.data.toList = text ∧ ∃ c t, W.heap[a.block]? = some (.cells c t (0, 0)) := by
  obtain ⟨ps, ⟨g0, t0, cs0, f0, p0, q0, hg0, ht0, hv0, hd0, _, e0⟩, _, hrows⟩ := h
  obtain rfl := Option.some.inj (hg.symm.trans hg0)
  obtain rfl := Option.some.inj (ht.symm.trans ht0)
  subst e0
  obtain ⟨l0⟩ := cs0
  have ok0 : ∀ u v, l0 = [.iface u v] → Value.okWide Tryd.prog W .any 0 u v := fun u v e => by
    subst e
    exact (hrows g 0 (by simp [MemPlace.row])).2 u v (by simpa using World.var?_cell hg0 hv0 0)
  obtain ⟨a0, s0, rfl, hc0, hs0, _, rfl⟩ := errorString_of_trod Tryd.underlying26 rowE Tryd.underlying66 Tryd.underlying106 rfl rfl Tryd.underlying9 cellsE cellsS hd0 ok0
  obtain ⟨c0, t0, hb0⟩ := (hrows a0.block a0.off (by simp [MemPlace.row])).1
  exact ⟨a0, s0, by simpa using World.var?_cell hg0 hv0 0, hc0, hs0, c0, t0, hb0⟩

theorem sized (s : ByteArray) (l : List UInt8) (h : s.data.toList = l) : s.size = l.length := by
  show s.data.size = _
  rw [← Array.length_toList, h]

set_option maxRecDepth 100000 in
theorem good_of_laid {W : World} (h : laidMetH Tryd.prog Rows.namesRow.laid W) : ∃ a, Good a W := by
  have h' : laidMet Tryd.prog [("warrant/warrant.ErrWord", Rows.laid_warrant_warrant_ErrWord), ("warrant/warrant.ErrForm", Rows.laid_warrant_warrant_ErrForm), ("warrant/warrant.ErrDeep", Rows.laid_warrant_warrant_ErrDeep), ("warrant/warrant.ErrLimit", Rows.laid_warrant_warrant_ErrLimit), ("warrant/warrant.ErrFree", Rows.laid_warrant_warrant_ErrFree), ("warrant/warrant.ErrShort", Rows.laid_warrant_warrant_ErrShort), ("warrant/warrant.ErrBytes", Rows.laid_warrant_warrant_ErrBytes), ("warrant/warrant.ErrKey", Rows.laid_warrant_warrant_ErrKey), ("warrant/warrant.ErrSealed", Rows.laid_warrant_warrant_ErrSealed), ("warrant/warrant.ErrTag", Rows.laid_warrant_warrant_ErrTag)] W ∧ handlesMet Tryd.prog [("errors.errorType", Rows.laid_errors_errorType)] W := h
  obtain ⟨hl, hh⟩ := h'
  obtain ⟨name, u, ty, e1, e2, e3, e4, e5⟩ := hh _ (List.mem_singleton.2 rfl)
  have en : name = [101, 114, 114, 111, 114] := (Option.some.inj e1).symm
  subst en
  obtain rfl := Option.some.inj (rt.symm.trans e2)
  have hm : ty ∈ (List.range 118).filter fun t => Tryd.prog.rowNamed t [101, 114, 114, 111, 114] := List.mem_filter.2 ⟨List.mem_range.2 (by rw [← typesSize]; exact e3), e4⟩
  rw [oneRow] at hm
  obtain rfl := List.mem_singleton.1 hm
  have hty : typeHandle Tryd.prog 26 = .pointer (some ⟨14, 26, none⟩) := by kernel_rfl
  rw [hty] at e5
  have het : W.cell? ⟨10, 0, none⟩ = some (.iface 52 (.agg #[.pointer (some ⟨14, 26, none⟩)])) := by simpa using World.var?_cell etNamed e5 0
  obtain ⟨a0, s0, e0, u0, x0, r0⟩ := sent_one (laidMet.one hl (x := ("warrant/warrant.ErrWord", Rows.laid_warrant_warrant_ErrWord)) (by repeat (first | exact List.Mem.head _ | apply List.Mem.tail))) (by kernel_rfl) (by kernel_rfl)
  obtain ⟨a1, s1, e1, u1, x1, r1⟩ := sent_one (laidMet.one hl (x := ("warrant/warrant.ErrForm", Rows.laid_warrant_warrant_ErrForm)) (by repeat (first | exact List.Mem.head _ | apply List.Mem.tail))) (by kernel_rfl) (by kernel_rfl)
  obtain ⟨a2, s2, e2, u2, x2, r2⟩ := sent_one (laidMet.one hl (x := ("warrant/warrant.ErrDeep", Rows.laid_warrant_warrant_ErrDeep)) (by repeat (first | exact List.Mem.head _ | apply List.Mem.tail))) (by kernel_rfl) (by kernel_rfl)
  obtain ⟨a3, s3, e3, u3, x3, r3⟩ := sent_one (laidMet.one hl (x := ("warrant/warrant.ErrLimit", Rows.laid_warrant_warrant_ErrLimit)) (by repeat (first | exact List.Mem.head _ | apply List.Mem.tail))) (by kernel_rfl) (by kernel_rfl)
  obtain ⟨a4, s4, e4, u4, x4, r4⟩ := sent_one (laidMet.one hl (x := ("warrant/warrant.ErrFree", Rows.laid_warrant_warrant_ErrFree)) (by repeat (first | exact List.Mem.head _ | apply List.Mem.tail))) (by kernel_rfl) (by kernel_rfl)
  obtain ⟨a5, s5, e5, u5, x5, r5⟩ := sent_one (laidMet.one hl (x := ("warrant/warrant.ErrShort", Rows.laid_warrant_warrant_ErrShort)) (by repeat (first | exact List.Mem.head _ | apply List.Mem.tail))) (by kernel_rfl) (by kernel_rfl)
  obtain ⟨a6, s6, e6, u6, x6, r6⟩ := sent_one (laidMet.one hl (x := ("warrant/warrant.ErrBytes", Rows.laid_warrant_warrant_ErrBytes)) (by repeat (first | exact List.Mem.head _ | apply List.Mem.tail))) (by kernel_rfl) (by kernel_rfl)
  obtain ⟨a7, s7, e7, u7, x7, r7⟩ := sent_one (laidMet.one hl (x := ("warrant/warrant.ErrKey", Rows.laid_warrant_warrant_ErrKey)) (by repeat (first | exact List.Mem.head _ | apply List.Mem.tail))) (by kernel_rfl) (by kernel_rfl)
  obtain ⟨a8, s8, e8, u8, x8, r8⟩ := sent_one (laidMet.one hl (x := ("warrant/warrant.ErrSealed", Rows.laid_warrant_warrant_ErrSealed)) (by repeat (first | exact List.Mem.head _ | apply List.Mem.tail))) (by kernel_rfl) (by kernel_rfl)
  obtain ⟨a9, s9, e9, u9, x9, r9⟩ := sent_one (laidMet.one hl (x := ("warrant/warrant.ErrTag", Rows.laid_warrant_warrant_ErrTag)) (by repeat (first | exact List.Mem.head _ | apply List.Mem.tail))) (by kernel_rfl) (by kernel_rfl)
  have tx : ∀ (x : Addr) (s : ByteArray) (l : List UInt8), W.cell? x = some (.string s) → s.data.toList = l → decide (0 < l.length ∧ l.length ≤ 100) = true → ∃ s : ByteArray, W.cell? x = some (.string s) ∧ 0 < s.size ∧ s.size ≤ 100 := fun x s l h1 h2 h3 => by
    have := sized s l h2
    have := of_decide_eq_true h3
    exact ⟨s, h1, by omega, by omega⟩
  have ne : ∀ (x y : Addr) (s s' : ByteArray) (l l' : List UInt8), W.cell? x = some (.string s) → s.data.toList = l → W.cell? y = some (.string s') → s'.data.toList = l' → decide (l = l') = false → x ≠ y := fun x y s s' l l' h1 h2 h3 h4 h5 hxy => by
    subst hxy
    rw [h1] at h3
    cases h3
    exact absurd (h2.symm.trans h4) (of_decide_eq_false h5)
  refine ⟨fun k => match k with | 0 => a0 | 1 => a1 | 2 => a2 | 3 => a3 | 4 => a4 | 5 => a5 | 6 => a6 | 7 => a7 | 8 => a8 | _ => a9, ⟨e0, e1, e2, e3, e4, e5, e6, e7, e8, e9, ?_, ?_, ?_, het⟩⟩
  · intro k hk
    have h : k = 0 ∨ k = 1 ∨ k = 2 ∨ k = 3 ∨ k = 4 ∨ k = 5 ∨ k = 6 ∨ k = 7 ∨ k = 8 ∨ k = 9 := by omega
    rcases h with rfl | rfl | rfl | rfl | rfl | rfl | rfl | rfl | rfl | rfl
    · exact r0
    · exact r1
    · exact r2
    · exact r3
    · exact r4
    · exact r5
    · exact r6
    · exact r7
    · exact r8
    · exact r9
  · intro k hk
    have h : k = 0 ∨ k = 1 ∨ k = 2 ∨ k = 3 ∨ k = 4 ∨ k = 5 ∨ k = 6 ∨ k = 7 ∨ k = 8 ∨ k = 9 := by omega
    rcases h with rfl | rfl | rfl | rfl | rfl | rfl | rfl | rfl | rfl | rfl
    · exact tx a0 s0 _ u0 x0 rfl
    · exact tx a1 s1 _ u1 x1 rfl
    · exact tx a2 s2 _ u2 x2 rfl
    · exact tx a3 s3 _ u3 x3 rfl
    · exact tx a4 s4 _ u4 x4 rfl
    · exact tx a5 s5 _ u5 x5 rfl
    · exact tx a6 s6 _ u6 x6 rfl
    · exact tx a7 s7 _ u7 x7 rfl
    · exact tx a8 s8 _ u8 x8 rfl
    · exact tx a9 s9 _ u9 x9 rfl
  · intro i j hi hj hij
    have h : i = 0 ∨ i = 1 ∨ i = 2 ∨ i = 3 ∨ i = 4 ∨ i = 5 ∨ i = 6 ∨ i = 7 ∨ i = 8 ∨ i = 9 := by omega
    have h2 : j = 0 ∨ j = 1 ∨ j = 2 ∨ j = 3 ∨ j = 4 ∨ j = 5 ∨ j = 6 ∨ j = 7 ∨ j = 8 ∨ j = 9 := by omega
    rcases h with rfl | rfl | rfl | rfl | rfl | rfl | rfl | rfl | rfl | rfl <;> rcases h2 with rfl | rfl | rfl | rfl | rfl | rfl | rfl | rfl | rfl | rfl
    all_goals first
      | exact absurd rfl hij
      | exact ne _ _ _ _ _ _ ‹_› ‹_› ‹_› ‹_› rfl
end Go.Proofs.YtjoffpobjjmniaaDoor
