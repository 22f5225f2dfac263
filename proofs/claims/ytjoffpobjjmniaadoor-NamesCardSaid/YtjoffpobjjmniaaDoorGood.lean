/- What the listed variables give (Good), and plain.number by its contracts. -/
import Derived.Test.YtjoffpobjjmniaaDoorAs
import Derived.Deep.RegionWith
import Derived.WalkSpells
namespace Go.Proofs.YtjoffpobjjmniaaDoor
open Go.RowKit Go.Extern.Stop Go.Stop Go.Extern

theorem lt_of_cell {w : World} {p : Addr} {x : Value} (h : w.cell? p = some x) : p.block < w.heap.size := by
  rcases Nat.lt_or_ge p.block w.heap.size with hl | hl
  · exact hl
  · simp [World.cell?, Array.getElem?_eq_none hl] at h

/-- The ten reasons lie in their variables, each a pointer to an errorString of its own with a text; errorType holds the handle of 'error'. -/
structure Good (a : Nat → Addr) (w : World) : Prop where
  c0 : w.cell? ⟨0, 0, none⟩ = some (.iface 66 (.pointer (some (a 0))))
  c1 : w.cell? ⟨1, 0, none⟩ = some (.iface 66 (.pointer (some (a 1))))
  c2 : w.cell? ⟨2, 0, none⟩ = some (.iface 66 (.pointer (some (a 2))))
  c3 : w.cell? ⟨3, 0, none⟩ = some (.iface 66 (.pointer (some (a 3))))
  c4 : w.cell? ⟨4, 0, none⟩ = some (.iface 66 (.pointer (some (a 4))))
  c5 : w.cell? ⟨5, 0, none⟩ = some (.iface 66 (.pointer (some (a 5))))
  c6 : w.cell? ⟨6, 0, none⟩ = some (.iface 66 (.pointer (some (a 6))))
  c7 : w.cell? ⟨7, 0, none⟩ = some (.iface 66 (.pointer (some (a 7))))
  c8 : w.cell? ⟨8, 0, none⟩ = some (.iface 66 (.pointer (some (a 8))))
  c9 : w.cell? ⟨9, 0, none⟩ = some (.iface 66 (.pointer (some (a 9))))
  row : ∀ k, k < 10 → ∃ c t, w.heap[(a k).block]? = some (.cells c t (0, 0))
  text : ∀ k, k < 10 → ∃ s : ByteArray, w.cell? (a k) = some (.string s) ∧ 0 < s.size ∧ s.size ≤ 100
  apart : ∀ i j, i < 10 → j < 10 → i ≠ j → a i ≠ a j
  et : w.cell? ⟨10, 0, none⟩ = some (.iface 52 (.agg #[.pointer (some ⟨14, 26, none⟩)]))

theorem Good.below {a : Nat → Addr} {w w' : World} (g : Good a w) (hb : Below w.heap.size w w') : Good a w' where
  c0 := by rw [hb.cell (p := ⟨0, 0, none⟩) (lt_of_cell g.c0)]; exact g.c0
  c1 := by rw [hb.cell (p := ⟨1, 0, none⟩) (lt_of_cell g.c1)]; exact g.c1
  c2 := by rw [hb.cell (p := ⟨2, 0, none⟩) (lt_of_cell g.c2)]; exact g.c2
  c3 := by rw [hb.cell (p := ⟨3, 0, none⟩) (lt_of_cell g.c3)]; exact g.c3
  c4 := by rw [hb.cell (p := ⟨4, 0, none⟩) (lt_of_cell g.c4)]; exact g.c4
  c5 := by rw [hb.cell (p := ⟨5, 0, none⟩) (lt_of_cell g.c5)]; exact g.c5
  c6 := by rw [hb.cell (p := ⟨6, 0, none⟩) (lt_of_cell g.c6)]; exact g.c6
  c7 := by rw [hb.cell (p := ⟨7, 0, none⟩) (lt_of_cell g.c7)]; exact g.c7
  c8 := by rw [hb.cell (p := ⟨8, 0, none⟩) (lt_of_cell g.c8)]; exact g.c8
  c9 := by rw [hb.cell (p := ⟨9, 0, none⟩) (lt_of_cell g.c9)]; exact g.c9
  row := fun k hk => by
    obtain ⟨c, t, h⟩ := g.row k hk
    obtain ⟨s, hs, _⟩ := g.text k hk
    exact ⟨c, t, by rw [hb.block _ (lt_of_cell hs)]; exact h⟩
  text := fun k hk => by
    obtain ⟨s, hs, h1, h2⟩ := g.text k hk
    exact ⟨s, by rw [hb.cell (p := a k) (lt_of_cell hs)]; exact hs, h1, h2⟩
  apart := g.apart
  et := by rw [hb.cell (p := ⟨10, 0, none⟩) (lt_of_cell g.et)]; exact g.et

theorem is_plain {a : Nat → Addr} {w : World} (g : Good a w) (k i : Nat) (hk : k < 10) (hi : i < 10) :
    Calls Tryd.prog 6 #[.iface 66 (.pointer (some (a k))), .iface 66 (.pointer (some (a i)))] w fun e w' => e = .returned (.bool (decide (i = k))) ∧ w' = w := by
  by_cases h : i = k
  · subst h
    simpa using is_same (a i) w
  · obtain ⟨c1, t1, h1⟩ := g.row k hk
    obtain ⟨c2, t2, h2⟩ := g.row i hi
    simpa [h] using is_other (a k) (a i) c1 c2 t1 t2 w (g.apart k i hk hi (Ne.symm h)) h1 h2

theorem is_fault {a : Nat → Addr} {w : World} (g : Good a w) (pb po k i : Nat) (hk : k < 10) (hi : i < 10) (hp : w.cell? ⟨pb, po + 1, none⟩ = some (.iface 66 (.pointer (some (a k))))) :
    Calls Tryd.prog 6 #[.iface 28 (.pointer (some ⟨pb, po, none⟩)), .iface 66 (.pointer (some (a i)))] w fun e w' => e = .returned (.bool (decide (i = k))) ∧ w' = w := by
  by_cases h : i = k
  · subst h
    simpa using is_fault_same pb po (a i) w hp
  · obtain ⟨c1, t1, h1⟩ := g.row k hk
    obtain ⟨c2, t2, h2⟩ := g.row i hi
    simpa [h] using is_fault_other pb po (a i) (a k) c1 c2 t1 t2 w hp (g.apart k i hk hi (Ne.symm h)) h1 h2

def tenCells (a : Nat → Addr) : Obj := .cells #[.iface 66 (.pointer (some (a 0))), .iface 66 (.pointer (some (a 1))), .iface 66 (.pointer (some (a 2))), .iface 66 (.pointer (some (a 3))), .iface 66 (.pointer (some (a 4))), .iface 66 (.pointer (some (a 5))), .iface 66 (.pointer (some (a 6))), .iface 66 (.pointer (some (a 7))), .iface 66 (.pointer (some (a 8))), .iface 66 (.pointer (some (a 9)))] 26
theorem ten_cell (a : Nat → Addr) (w : World) (q : Nat) (hq : q < 10) : (w.alloc (.cells #[.iface 66 (.pointer (some (a 0))), .iface 66 (.pointer (some (a 1))), .iface 66 (.pointer (some (a 2))), .iface 66 (.pointer (some (a 3))), .iface 66 (.pointer (some (a 4))), .iface 66 (.pointer (some (a 5))), .iface 66 (.pointer (some (a 6))), .iface 66 (.pointer (some (a 7))), .iface 66 (.pointer (some (a 8))), .iface 66 (.pointer (some (a 9)))] 26)).cell? ⟨w.heap.size, q, none⟩ = some (.iface 66 (.pointer (some (a q)))) := by
  have h : q = 0 ∨ q = 1 ∨ q = 2 ∨ q = 3 ∨ q = 4 ∨ q = 5 ∨ q = 6 ∨ q = 7 ∨ q = 8 ∨ q = 9 := by omega
  rcases h with h | h | h | h | h | h | h | h | h | h <;> (subst h; simp)
end Go.Proofs.YtjoffpobjjmniaaDoor
