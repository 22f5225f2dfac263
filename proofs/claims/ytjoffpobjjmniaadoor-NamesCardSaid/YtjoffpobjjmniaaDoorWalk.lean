/- warrantlaw.Names. -/
import Derived.Test.YtjoffpobjjmniaaDoorReason
namespace Go.Proofs.YtjoffpobjjmniaaDoor
open Go.RowKit Go.Extern.Stop Go.Stop Go.Extern

set_option maxHeartbeats 1000000 in
theorem names_walk {a : Nat → Addr} {w : World} (g : Good a w) :
    Calls Tryd.prog 3 #[] w fun e w' => e = .returned (.bool true) ∧ Below w.heap.size w w' := by
  go_enter Tryd.func3, Tryd.ntmps3
  go_wp2
  go_loopw [1] (fun i wr => ∃ q : Nat, q ≤ 10 ∧ i = .int .i64 q ∧ Below w.heap.size w wr) (fun i _ => 10 - (intOf i).toNat)
  case atStart => exact ⟨0, by omega, rfl, Below.refl _ _⟩
  case round =>
    obtain ⟨q, hq, rfl, hb⟩ := hrel
    by_cases hlt : q < 10
    · have R := reason_plain (g.below hb) q hlt
      go_wp2_with fail
      refine R.mono ?_
      rintro e w1 ⟨rfl, h1⟩
      have hb1 : Below w.heap.size w w1 := hb.trans (h1.mono hb.size)
      clear h1 R
      have R := reason_wrapped (g.below hb1) q hlt
      go_wp2_with fail
      refine R.mono ?_
      rintro e w2 ⟨rfl, h2⟩
      have hb2 : Below w.heap.size w w2 := hb1.trans (h2.mono hb1.size)
      clear h2 R
      go_wp2
      exact ⟨⟨q + 1, by omega, by go_num, hb2⟩, by simp [intOf]; omega⟩
    · obtain rfl : q = 10 := by omega
      go_wp2
      go_ret
      exact ⟨rfl, hb⟩
end Go.Proofs.YtjoffpobjjmniaaDoor
