/- The texts: (*errorString).Error, (*Fault).Error. -/
import Derived.Test.YtjoffpobjjmniaaDoorNum
import Derived.Outline
namespace Go.Proofs.YtjoffpobjjmniaaDoor
open Go.RowKit Go.Extern.Stop Go.Stop Go.Extern

theorem eq_run {a : Nat → Addr} {w : World} (g : Good a w) (k i : Nat) (hk : k < 10) (hi : i < 10) :
    (binOp .eql 26 (.iface 66 (.pointer (some (a k)))) (.iface 66 (.pointer (some (a i))))).run Tryd.prog w = .ok (.bool (decide (k = i))) w := by
  obtain ⟨d, hd, hcmp⟩ := Option.map_eq_some_iff.1 isComp
  obtain ⟨j, hj, hjs⟩ := Option.map_eq_some_iff.1 isSize
  by_cases h : k = i
  · subst h
    rw [run_eql_iface_ptr_same (P := Tryd.prog) w (a k) Tryd.underlying26 Tryd.underlying66 hd hcmp hj]
    simp
  · obtain ⟨c1, t1, h1⟩ := g.row k hk
    obtain ⟨c2, t2, h2⟩ := g.row i hi
    rw [run_eql_iface_ptr_other (P := Tryd.prog) w Tryd.underlying26 Tryd.underlying66 hd hcmp hj (by rw [hjs]; decide) (g.apart k i hk hi h) h1 h2]
    simp [h]

set_option maxHeartbeats 1000000 in
theorem isReason_yes {a : Nat → Addr} {w : World} (g : Good a w) (k : Nat) (hk : k < 10) :
    Calls Tryd.prog 36 #[.iface 66 (.pointer (some (a k)))] w fun e w' => e = .returned (.bool true) ∧ w' = w := by
  have g0 := g.c0
  have g1 := g.c1
  have g2 := g.c2
  have g3 := g.c3
  have g4 := g.c4
  have g5 := g.c5
  have g6 := g.c6
  have g7 := g.c7
  have g8 := g.c8
  have g9 := g.c9
  have E := fun i hi => eq_run g k i hk hi
  have h : k = 0 ∨ k = 1 ∨ k = 2 ∨ k = 3 ∨ k = 4 ∨ k = 5 ∨ k = 6 ∨ k = 7 ∨ k = 8 ∨ k = 9 := by omega
  have E0 := E 0 (by omega)
  have E1 := E 1 (by omega)
  have E2 := E 2 (by omega)
  have E3 := E 3 (by omega)
  have E4 := E 4 (by omega)
  have E5 := E 5 (by omega)
  have E6 := E 6 (by omega)
  have E7 := E 7 (by omega)
  have E8 := E 8 (by omega)
  have E9 := E 9 (by omega)
  clear E g
  rcases h with h | h | h | h | h | h | h | h | h | h
  all_goals
    subst h
    simp at E0 E1 E2 E3 E4 E5 E6 E7 E8 E9
    go_enter Tryd.func36, Tryd.ntmps36
    go_wp2
    go_ret
    exact ⟨rfl, rfl⟩

theorem error_text (x : Addr) (s : ByteArray) (w : World) (h : w.cell? x = some (.string s)) :
    Calls Tryd.prog 64 #[.pointer (some x)] w fun e w' => e = .returned (.string s) ∧ w' = w := by
  obtain ⟨b, o, z⟩ := x
  go_enter Tryd.func64, Tryd.ntmps64
  go_wp2
  go_ret
  exact ⟨rfl, rfl⟩

theorem methodError (v : Value) (w : World) : (Go.method 218 66 v "Error").run Tryd.prog w = .ok (64, v) w := by kernel_rfl
theorem methodErrorF (v : Value) (w : World) : (Go.method 218 28 v "Error").run Tryd.prog w = .ok (33, v) w := by kernel_rfl
theorem itoa7 (w : World) : Calls Tryd.prog 35 #[.int .i64 7] w fun e w' => e = .returned (.string ⟨#[55]⟩) ∧ w' = w := by
  go_enter Tryd.func35, Tryd.ntmps35
  go_wp2
  go_ret
  exact ⟨rfl, rfl⟩

set_option maxHeartbeats 1000000 in
theorem fault_text {a : Nat → Addr} {w : World} (g : Good a w) (pb po k : Nat) (hk : k < 10) (h0 : w.cell? ⟨pb, po, none⟩ = some (.int .i64 7)) (h1 : w.cell? ⟨pb, po + 1, none⟩ = some (.iface 66 (.pointer (some (a k))))) :
    Calls Tryd.prog 33 #[.pointer (some ⟨pb, po, none⟩)] w fun e w' => (∃ s : ByteArray, e = .returned (.string s) ∧ 0 < s.size) ∧ w' = w := by
  obtain ⟨s, hs, hs0, hs1⟩ := g.text k hk
  have mE := methodError
  have R := isReason_yes g k hk
  have X := error_text (a k) s w hs
  go_enter Tryd.func33, Tryd.ntmps33
  go_wp2_with (first | (go_at_call 35; refine (itoa7 _).mono ?_; rintro e w' ⟨rfl, rfl⟩) | (go_at_call 36; refine R.mono ?_; rintro e w' ⟨rfl, rfl⟩) | (go_at_call 64; refine X.mono ?_; rintro e w' ⟨rfl, rfl⟩))
  go_ret
  exact ⟨⟨_, rfl, by simp only [ByteArray.size_append]; omega⟩, rfl⟩
end Go.Proofs.YtjoffpobjjmniaaDoor
