/- plain.Reason by its contracts. -/
import Derived.Test.YtjoffpobjjmniaaDoorText
namespace Go.Proofs.YtjoffpobjjmniaaDoor
open Go.RowKit Go.Extern.Stop Go.Stop Go.Extern

theorem neq_empty (s : ByteArray) (h : 0 < s.size) : (s.toList.isEmpty) = false := by
  rw [ByteArray.toList_eq]
  cases hl : s.data.toList with
  | nil =>
    have : s.size = 0 := by
      show s.data.size = 0
      rw [← Array.length_toList, hl]; rfl
    omega
  | cons x xs => rfl

set_option maxHeartbeats 1000000 in
theorem reason_plain {a : Nat → Addr} {w : World} (g : Good a w) (k : Nat) (hk : k < 10) :
    Calls Tryd.prog 4 #[.int .i64 k, .bool false] w fun e w' => e = .returned (.tuple #[.int .i64 (k + 1), .int .i64 (-1), .bool true]) ∧ Below w.heap.size w w' := by
  have g0 := g.c0
  have g1 := g.c1
  have g2 := g.c2
  have g3 := g.c3
  have g4 := g.c4
  have g5 := g.c5
  have g6 := g.c6
  have g7 := g.c7
  have g8 := g.c8
  have g9 := g.c9
  have hb : Below w.heap.size w (w.alloc (.cells #[.iface 66 (.pointer (some (a 0))), .iface 66 (.pointer (some (a 1))), .iface 66 (.pointer (some (a 2))), .iface 66 (.pointer (some (a 3))), .iface 66 (.pointer (some (a 4))), .iface 66 (.pointer (some (a 5))), .iface 66 (.pointer (some (a 6))), .iface 66 (.pointer (some (a 7))), .iface 66 (.pointer (some (a 8))), .iface 66 (.pointer (some (a 9)))] 26)) := (Below.refl _ _).alloc (Nat.le_refl _) _
  have G := g.below hb
  have T := ten_cell a w k hk
  have N := number_plain G k hk
  have mE := methodError
  go_enter Tryd.func4, Tryd.ntmps4
  go_wp2_with fail
  refine N.mono ?_
  rintro e w' ⟨rfl, hn⟩
  have G2 := G.below hn
  obtain ⟨s, hs, hs0, hs1⟩ := G2.text k hk
  have he := neq_empty s hs0
  go_wp2_with fail
  refine (error_text (a k) s _ hs).mono ?_
  rintro e w2 ⟨rfl, rfl⟩
  go_wp2_with fail
  go_ret3
  exact ⟨rfl, hb.trans (hn.mono (by simp))⟩

set_option maxHeartbeats 1000000 in
theorem reason_wrapped {a : Nat → Addr} {w : World} (g : Good a w) (k : Nat) (hk : k < 10) :
    Calls Tryd.prog 4 #[.int .i64 k, .bool true] w fun e w' => e = .returned (.tuple #[.int .i64 (k + 1), .int .i64 7, .bool true]) ∧ Below w.heap.size w w' := by
  have g0 := g.c0
  have g1 := g.c1
  have g2 := g.c2
  have g3 := g.c3
  have g4 := g.c4
  have g5 := g.c5
  have g6 := g.c6
  have g7 := g.c7
  have g8 := g.c8
  have g9 := g.c9
  have hb : Below w.heap.size w (w.alloc (.cells #[.iface 66 (.pointer (some (a 0))), .iface 66 (.pointer (some (a 1))), .iface 66 (.pointer (some (a 2))), .iface 66 (.pointer (some (a 3))), .iface 66 (.pointer (some (a 4))), .iface 66 (.pointer (some (a 5))), .iface 66 (.pointer (some (a 6))), .iface 66 (.pointer (some (a 7))), .iface 66 (.pointer (some (a 8))), .iface 66 (.pointer (some (a 9)))] 26)) := (Below.refl _ _).alloc (Nat.le_refl _) _
  have T := ten_cell a w k hk
  have hb2 : Below w.heap.size w ((w.alloc (.cells #[.iface 66 (.pointer (some (a 0))), .iface 66 (.pointer (some (a 1))), .iface 66 (.pointer (some (a 2))), .iface 66 (.pointer (some (a 3))), .iface 66 (.pointer (some (a 4))), .iface 66 (.pointer (some (a 5))), .iface 66 (.pointer (some (a 6))), .iface 66 (.pointer (some (a 7))), .iface 66 (.pointer (some (a 8))), .iface 66 (.pointer (some (a 9)))] 26)).alloc (.cells #[.int .i64 7, .iface 66 (.pointer (some (a k)))] 30)) := hb.alloc (by simp) _
  have G := g.below hb2
  have N := number_fault G (w.heap.size + 1) 0 k 7 hk (by simp) (by simp)
  have mE := methodErrorF
  go_enter Tryd.func4, Tryd.ntmps4
  go_wp2_with fail
  refine N.mono ?_
  rintro e w' ⟨rfl, hn⟩
  have G2 := G.below hn
  have X := fault_text G2 (w.heap.size + 1) 0 k hk (by rw [hn.cell (p := ⟨w.heap.size + 1, 0, none⟩) (by simp)]; simp) (by rw [hn.cell (p := ⟨w.heap.size + 1, 0 + 1, none⟩) (by simp)]; simp)
  go_wp2_with fail
  refine X.mono ?_
  rintro e w2 ⟨⟨s, rfl, hs0⟩, rfl⟩
  have he := neq_empty s hs0
  go_wp2_with fail
  go_ret3
  exact ⟨rfl, hb2.trans (hn.mono (by simp; omega))⟩
end Go.Proofs.YtjoffpobjjmniaaDoor
