/- slices.Sort over a row of integers of one's own, of twelve at most: what rises, with the same members. No condition beyond those typed. -/
import Derived.Test.YtomekmhonfofkaaGreatIs11
import Derived.Test.YtomekmhonfofkaaGreatLn11
namespace Go.Proofs.YtomekmhonfofkaaGreat
open Go.RowKit
set_option linter.unusedVariables false
set_option maxRecDepth 100000
set_option linter.unusedSimpArgs false

set_option maxHeartbeats 4000000 in
theorem pdqI11 (B g n c : Nat) (L : List Int) (k : Int) (w : World) (h : RwI B w (.slice (some ⟨g, 0, none⟩) n c) L) (hl : n ≤ 12) :
    Calls Tryz.prog 86 #[.slice (some ⟨g, 0, none⟩) n c, .int .i64 0, .int .i64 n, .int .i64 k] w fun e w' => (∃ r, e = .returned r) ∧ (∃ L', RwI B w' (.slice (some ⟨g, 0, none⟩) n c) L' ∧ L'.Perm L ∧ Srt L' n) ∧ w.grownBy w' (some g) := by
  have C := hide (insI11 B g n c L w h (by omega))
  have e0 : IntKind.i64.wrap ((n : Int) - 0) = (n : Int) := by rw [IntKind.wrap_i64]; omega
  have l12 : (n : Int) ≤ 12 := by omega
  clear h
  go_enter Tryz.func86, Tryz.ntmps86
  go_wp2
  refine wp_loop_rounds 1 ?_
  rw [rounds_succ]
  go_wp2_with fail
  refine (unhide C).mono ?_
  rintro e w1 ⟨⟨r, rfl⟩, h2, h3⟩
  have H2 := hide h2
  have H3 := hide h3
  clear h2 h3 C
  go_wp2
  (try simp only [Exit.inBlock, Exit.then]); refine bodyPost_ret (results_none rfl _ _ _) rfl ?_
  exact ⟨⟨_, rfl⟩, unhide H2, unhide H3⟩
set_option maxHeartbeats 4000000 in
theorem sortI11 (B g n c : Nat) (L : List Int) (w : World) (h : RwI B w (.slice (some ⟨g, 0, none⟩) n c) L) (h1 : 1 ≤ n) (hl : n ≤ 12) :
    Calls Tryz.prog 74 #[.slice (some ⟨g, 0, none⟩) n c] w fun e w' => (∃ r, e = .returned r) ∧ (∃ L', RwI B w' (.slice (some ⟨g, 0, none⟩) n c) L' ∧ L'.Perm L ∧ Srt L' n) ∧ w.grownBy w' (some g) := by
  have C := hide (fun k => pdqI11 B g n c L k w h hl)
  have n1 : (1 : Int) ≤ (n : Int) := by omega
  have n2 : (n : Int) ≤ 65535 := by omega
  have wu : IntKind.u64.wrap (n : Int) = (n : Int) := by rw [IntKind.wrap_u64]; omega
  clear h
  go_enter Tryz.func74, Tryz.ntmps74
  go_wp2_with fail
  refine (len_any11 (n : Int) _ n1 n2).mono ?_
  rintro e w1 ⟨m, rfl, rfl, _, _, _⟩
  go_wp2_with fail
  refine (unhide C _).mono ?_
  rintro e w2 ⟨⟨r, rfl⟩, h2, h3⟩
  have H2 := hide h2
  have H3 := hide h3
  clear h2 h3 C
  go_wp2
  go_end0
  exact ⟨⟨_, rfl⟩, unhide H2, unhide H3⟩
end Go.Proofs.YtomekmhonfofkaaGreat
