import Derived.Test.YtmebjfclpalmaaaGreatDoorV
import Derived.Test.YtmebjfclpalmaaaGreatDoorRows
import Derived.JoinedOf
set_option maxRecDepth 100000
set_option maxHeartbeats 8000000
set_option linter.unusedSimpArgs false
open Go.Proofs Go.RowKit Go.W Tryz Go.Proofs.YtmebjfclpalmaaaGreatDoor
namespace Go.P
set_option maxRecDepth 100000
set_option maxHeartbeats 8000000
theorem k10:(Rows.chainsRow.inPlace==prog.inPlace 3)=true:=by kernel_rfl
theorem k11:(Rows.chainsRow.unfollowed==prog.unfollowed 3)=true:=by kernel_rfl
theorem k12:(Rows.chainsRow.recurses==prog.recurses 3)=true:=by kernel_rfl
theorem k13:(Rows.chainsRow.named==prog.varsNamed 3)=true:=by kernel_rfl
theorem Zrt:joinedFacts prog 3 Tryz.f3 Rows.chainsSpec Rows.chainsRow=true:=by
 simp only[joinedFacts,Bool.and_eq_true];and_intros
 ·as_aux_lemma=>kernel_rfl
 ·as_aux_lemma=>kernel_rfl
 ·as_aux_lemma=>kernel_rfl
 ·as_aux_lemma=>kernel_rfl
 ·as_aux_lemma=>kernel_rfl
 ·as_aux_lemma=>kernel_rfl
 ·as_aux_lemma=>kernel_rfl
 ·as_aux_lemma=>kernel_rfl
 ·as_aux_lemma=>kernel_rfl
 ·exact k10
 ·exact k11
 ·exact k12
 ·exact k13
 ·as_aux_lemma=>kernel_rfl
 ·as_aux_lemma=>kernel_rfl
 ·as_aux_lemma=>kernel_rfl
 ·as_aux_lemma=>kernel_rfl
 ·as_aux_lemma=>kernel_rfl
 ·as_aux_lemma=>kernel_rfl
 ·as_aux_lemma=>kernel_rfl
 ·as_aux_lemma=>kernel_rfl
 ·as_aux_lemma=>kernel_rfl
 ·as_aux_lemma=>kernel_rfl
 ·as_aux_lemma=>kernel_rfl
 ·as_aux_lemma=>kernel_rfl
 ·as_aux_lemma=>kernel_rfl
 ·as_aux_lemma=>kernel_rfl
 ·as_aux_lemma=>kernel_rfl
 ·as_aux_lemma=>kernel_rfl
 ·as_aux_lemma=>kernel_rfl
 ·as_aux_lemma=>kernel_rfl
 ·as_aux_lemma=>kernel_rfl
end Go.P
