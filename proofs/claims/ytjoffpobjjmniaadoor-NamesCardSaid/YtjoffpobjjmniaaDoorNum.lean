/- plain.number at a sentinel, and at a Fault that wraps one. -/
import Derived.Test.YtjoffpobjjmniaaDoorGood
import Derived.Outline
namespace Go.Proofs.YtjoffpobjjmniaaDoor
open Go.RowKit Go.Extern.Stop Go.Stop Go.Extern

/-- what n holds ahead of round q, the reason's number being k. -/
def seen (k q : Nat) : Int := if k < q then (k : Int) + 1 else 0
theorem seen_hit (k : Nat) : seen k (k + 1) = (k : Int) + 1 := by simp [seen]
theorem seen_at (k : Nat) : seen k k = 0 := by simp [seen]
theorem seen_miss (k q : Nat) (h : q ≠ k) : seen k (q + 1) = seen k q := by
  unfold seen
  by_cases h1 : k < q
  · rw [if_pos (by omega), if_pos h1]
  · rw [if_neg (by omega), if_neg h1]
theorem seen_ten (k : Nat) (h : k < 10) : seen k 10 = (k : Int) + 1 := by simp [seen, h]

set_option maxHeartbeats 1000000 in
theorem number_plain {a : Nat → Addr} {w : World} (g : Good a w) (k : Nat) (hk : k < 10) :
    Calls Tryd.prog 5 #[.iface 66 (.pointer (some (a k)))] w fun e w' => e = .returned (.tuple #[.int .i64 (k + 1), .int .i64 (-1)]) ∧ Below w.heap.size w w' := by
  have g0 := g.c0
  have g1 := g.c1
  have g2 := g.c2
  have g3 := g.c3
  have g4 := g.c4
  have g5 := g.c5
  have g6 := g.c6
  have g7 := g.c7
  have g8 := g.c8
  have g9 := g.c9
  have hb : Below w.heap.size w (w.alloc (.cells #[.iface 66 (.pointer (some (a 0))), .iface 66 (.pointer (some (a 1))), .iface 66 (.pointer (some (a 2))), .iface 66 (.pointer (some (a 3))), .iface 66 (.pointer (some (a 4))), .iface 66 (.pointer (some (a 5))), .iface 66 (.pointer (some (a 6))), .iface 66 (.pointer (some (a 7))), .iface 66 (.pointer (some (a 8))), .iface 66 (.pointer (some (a 9)))] 26)) := (Below.refl _ _).alloc (Nat.le_refl _) _
  have G := g.below hb
  have T := ten_cell a w
  go_enter Tryd.func5, Tryd.ntmps5
  go_wp2
  clear g0 g1 g2 g3 g4 g5 g6 g7 g8 g9
  go_loop [4, 22] (fun n i => ∃ q : Nat, q ≤ 10 ∧ i = .int .i64 q ∧ n = .int .i64 (seen k q)) (fun _ i => 10 - (intOf i).toNat)
  case atStart => exact ⟨0, by omega, rfl, rfl⟩
  case round =>
    obtain ⟨q, hq, rfl, rfl⟩ := hrel
    by_cases hlt : q < 10
    · have Tq := T q hlt
      clear T
      by_cases h : q = k
      · subst h
        have I := is_plain G q q hk hlt
        simp only [seen_at, decide_true] at I ⊢
        go_wp2_with (go_at_call 6; refine I.mono ?_; rintro e w' ⟨rfl, rfl⟩)
        exact ⟨⟨q + 1, by omega, by go_num, by rw [seen_hit]⟩, by simp [intOf]; omega⟩
      · have I := is_plain G k q hk hlt
        simp only [h, decide_false] at I
        go_wp2_with (go_at_call 6; refine I.mono ?_; rintro e w' ⟨rfl, rfl⟩)
        exact ⟨⟨q + 1, by omega, by go_num, by rw [seen_miss k q h]⟩, by simp [intOf]; omega⟩
    · obtain rfl : q = 10 := by omega
      rw [seen_ten k hk]
      have hb2 : Below w.heap.size w ((w.alloc (.cells #[.iface 66 (.pointer (some (a 0))), .iface 66 (.pointer (some (a 1))), .iface 66 (.pointer (some (a 2))), .iface 66 (.pointer (some (a 3))), .iface 66 (.pointer (some (a 4))), .iface 66 (.pointer (some (a 5))), .iface 66 (.pointer (some (a 6))), .iface 66 (.pointer (some (a 7))), .iface 66 (.pointer (some (a 8))), .iface 66 (.pointer (some (a 9)))] 26)).alloc (.cells #[.pointer none] 28)) := hb.alloc (by simp) _
      have E := (g.below hb2).et
      go_wp2_with fail
      refine (as_miss _ _ _ E).mono ?_
      rintro e w' ⟨rfl, rfl⟩
      go_wp2
      go_ret2
      exact ⟨rfl, ((hb2.alloc (by simp; omega) _).alloc (by simp; omega) _).alloc (by simp; omega) _⟩

set_option maxHeartbeats 1000000 in
theorem number_fault {a : Nat → Addr} {w : World} (g : Good a w) (pb po k : Nat) (at0 : Int) (hk : k < 10) (h0 : w.cell? ⟨pb, po, none⟩ = some (.int .i64 at0)) (h1 : w.cell? ⟨pb, po + 1, none⟩ = some (.iface 66 (.pointer (some (a k))))) :
    Calls Tryd.prog 5 #[.iface 28 (.pointer (some ⟨pb, po, none⟩))] w fun e w' => e = .returned (.tuple #[.int .i64 (k + 1), .int .i64 at0]) ∧ Below w.heap.size w w' := by
  have g0 := g.c0
  have g1 := g.c1
  have g2 := g.c2
  have g3 := g.c3
  have g4 := g.c4
  have g5 := g.c5
  have g6 := g.c6
  have g7 := g.c7
  have g8 := g.c8
  have g9 := g.c9
  have hb : Below w.heap.size w (w.alloc (.cells #[.iface 66 (.pointer (some (a 0))), .iface 66 (.pointer (some (a 1))), .iface 66 (.pointer (some (a 2))), .iface 66 (.pointer (some (a 3))), .iface 66 (.pointer (some (a 4))), .iface 66 (.pointer (some (a 5))), .iface 66 (.pointer (some (a 6))), .iface 66 (.pointer (some (a 7))), .iface 66 (.pointer (some (a 8))), .iface 66 (.pointer (some (a 9)))] 26)) := (Below.refl _ _).alloc (Nat.le_refl _) _
  have G := g.below hb
  have T := ten_cell a w
  have hpl := lt_of_cell h0
  have h1' : (w.alloc (.cells #[.iface 66 (.pointer (some (a 0))), .iface 66 (.pointer (some (a 1))), .iface 66 (.pointer (some (a 2))), .iface 66 (.pointer (some (a 3))), .iface 66 (.pointer (some (a 4))), .iface 66 (.pointer (some (a 5))), .iface 66 (.pointer (some (a 6))), .iface 66 (.pointer (some (a 7))), .iface 66 (.pointer (some (a 8))), .iface 66 (.pointer (some (a 9)))] 26)).cell? ⟨pb, po + 1, none⟩ = some (.iface 66 (.pointer (some (a k)))) := by rw [hb.cell (p := ⟨pb, po + 1, none⟩) hpl]; exact h1
  go_enter Tryd.func5, Tryd.ntmps5
  go_wp2
  clear g0 g1 g2 g3 g4 g5 g6 g7 g8 g9
  go_loop [4, 22] (fun n i => ∃ q : Nat, q ≤ 10 ∧ i = .int .i64 q ∧ n = .int .i64 (seen k q)) (fun _ i => 10 - (intOf i).toNat)
  case atStart => exact ⟨0, by omega, rfl, rfl⟩
  case round =>
    obtain ⟨q, hq, rfl, rfl⟩ := hrel
    by_cases hlt : q < 10
    · have Tq := T q hlt
      clear T
      by_cases h : q = k
      · subst h
        have I := is_fault G pb po q q hk hlt h1'
        simp only [seen_at, decide_true] at I ⊢
        go_wp2_with (go_at_call 6; refine I.mono ?_; rintro e w' ⟨rfl, rfl⟩)
        exact ⟨⟨q + 1, by omega, by go_num, by rw [seen_hit]⟩, by simp [intOf]; omega⟩
      · have I := is_fault G pb po k q hk hlt h1'
        simp only [h, decide_false] at I
        go_wp2_with (go_at_call 6; refine I.mono ?_; rintro e w' ⟨rfl, rfl⟩)
        exact ⟨⟨q + 1, by omega, by go_num, by rw [seen_miss k q h]⟩, by simp [intOf]; omega⟩
    · obtain rfl : q = 10 := by omega
      rw [seen_ten k hk]
      have hb2 : Below w.heap.size w ((w.alloc (.cells #[.iface 66 (.pointer (some (a 0))), .iface 66 (.pointer (some (a 1))), .iface 66 (.pointer (some (a 2))), .iface 66 (.pointer (some (a 3))), .iface 66 (.pointer (some (a 4))), .iface 66 (.pointer (some (a 5))), .iface 66 (.pointer (some (a 6))), .iface 66 (.pointer (some (a 7))), .iface 66 (.pointer (some (a 8))), .iface 66 (.pointer (some (a 9)))] 26)).alloc (.cells #[.pointer none] 28)) := hb.alloc (by simp) _
      have E := (g.below hb2).et
      go_wp2_with fail
      refine (as_hit _ _ (.pointer none) _ E (by simp) (by simp)).mono ?_
      rintro e w' ⟨rfl, hw⟩
      have hpb : pb < w.heap.size := hpl
      have k2 : Below w.heap.size w w' := by
        rw [hw]
        exact ((((hb2.alloc (by simp; omega) _).alloc (by simp; omega) _).alloc (by simp; omega) _).alloc (by simp; omega) _).setCell (by simp) _
      have k1 : w'.cell? ⟨pb, po, none⟩ = some (.int .i64 at0) := by rw [k2.cell (p := ⟨pb, po, none⟩) hpb]; exact h0
      have k0 : w'.cell? ⟨w.heap.size + 1, 0, none⟩ = some (.pointer (some ⟨pb, po, none⟩)) := by rw [hw]; go_simp
      clear hw
      go_wp2
      go_region
      all_goals (try go_wp2)
      all_goals go_ret2
      all_goals exact ⟨rfl, k2.drew⟩
end Go.Proofs.YtjoffpobjjmniaaDoor
