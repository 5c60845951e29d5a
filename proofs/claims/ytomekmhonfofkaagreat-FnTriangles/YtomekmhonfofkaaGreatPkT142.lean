/- An argument that is a slice of bytes, as it came in. No condition. -/
import Derived.Test.YtomekmhonfofkaaGreatPkT141
import Derived.Test.YtomekmhonfofkaaGreatPkT140
import Derived.Test.YtomekmhonfofkaaGreatDr11
import Derived.Test.YtomekmhonfofkaaGreatRt11
import Derived.Test.YtomekmhonfofkaaGreatSeg8
import Derived.Test.YtomekmhonfofkaaGreatEq
import Derived.ShutString
import Derived.ChangeOld
import Derived.Lib.SmallJoins
import Derived.Test.YtomekmhonfofkaaGreatCurY
namespace Go.Proofs.YtomekmhonfofkaaGreat
open Go.RowKit
set_option linter.unusedVariables false
set_option maxRecDepth 100000
set_option linter.unusedSimpArgs false

/-- A slice of triangles as it reads. -/
structure SlA (w : World) (a : Option Addr) (n : Nat) (l : List (Int × Int × Int)) : Prop where
  sl : SlT w a l
  len : l.length = n
theorem SlA.later {w w' : World} {a : Option Addr} {n : Nat} {l : List (Int × Int × Int)} (h : SlA w a n l) (hb : Below w.heap.size w w') : SlA w' a n l := ⟨h.sl.later hb, h.len⟩
set_option maxHeartbeats 8000000 in
theorem IsTriangulationS2 (a : Option Addr) (n c : Nat) (l : List (Int × Int)) (b : Option Addr) (m d : Nat) (T : List (Int × Int × Int)) (w : World) (h : ArP w a n c l) (h' : SlA w b m T) (h1 : n ≤ 1048576) (h2 : m ≤ 1048576) :
    Calls Tryz.prog 16 #[.slice a n c, .slice b m d] w fun e w' => e = .returned (.tuple #[.bool (itgV l T), .bool (ipB l)]) ∧ Below w.heap.size w w' := by
  have hn := h.len
  have hm := h'.len
  have CG := hide (fun w (k : SlP w a l) => gswS a n c l w k hn h1)
  have HS := hide h.sl
  cases hp : ipB l
  · rw [hp] at CG
    have EV : itgV l T = false := by unfold itgV; rw [hp]; rfl
    rw [EV]
    clear hp h h' hn hm EV
    go_enter Tryz.func16, Tryz.ntmps16
    go_wp2_with fail
    refine (unhide CG _ (unhide HS)).mono ?_
    rintro e w1 ⟨rfl, hb⟩
    go_wp2_with fail
    go_ret2
    exact ⟨rfl, hb⟩
  · rw [hp] at CG
    have wp := ipB_way hp
    have n12 : n ≤ 12 := by omega
    have n3 : 3 ≤ n := by omega
    have ws : IntKind.i64.wrap ((n : Int) - 2) = (n : Int) - 2 := by rw [IntKind.wrap_i64]; omega
    by_cases hk : m + 2 = n
    rotate_left
    · have EV : itgV l T = false := by unfold itgV; rw [hp, hm, hn, decide_eq_false hk]; rfl
      rw [EV]
      have dd : ((m : Int) != (n : Int) - 2) = true := by simp; omega
      clear hp h h' hn hm EV wp hk n12 n3
      go_enter Tryz.func16, Tryz.ntmps16
      go_wp2_with fail
      refine (unhide CG _ (unhide HS)).mono ?_
      rintro e w1 ⟨rfl, hb⟩
      go_wp2_with fail
      go_ret2
      exact ⟨rfl, hb⟩
    · have EV : Hid (itgV l T = (T.all (tgB l) && (tsum l T == arS l l.length))) := hide (by unfold itgV; rw [hp, hm, hn, decide_eq_true hk]; rfl)
      have dd : ((m : Int) != (n : Int) - 2) = false := by simp; omega
      have CA := hide (fun w (k : SlP w a l) => areaS a n c l w k hn n12 wp.2)
      have SL := h.sl
      rcases SL with e | ⟨q, off, rfl, hq, hc⟩
      · subst e; simp at hn; omega
      have HC : Hid (∀ k, k < n → w.cell? ⟨q, off + k * 2, none⟩ = some (.int .i64 (l.getD k (0, 0)).1) ∧ w.cell? ⟨q, off + k * 2 + 1, none⟩ = some (.int .i64 (l.getD k (0, 0)).2)) := hide (fun k hk => by
        have := hc k (by omega)
        rw [List.getD_eq_getElem?_getD, List.getElem?_eq_getElem (by omega)]
        exact this)
      have ST := h'.sl
      rcases ST with e | ⟨r, of2, rfl, hr, hd⟩
      · subst e; simp at hm; omega
      have HD : Hid (∀ k (hk : k < T.length), w.cell? ⟨r, of2 + k * 3, none⟩ = some (.int .i64 T[k].1) ∧ w.cell? ⟨r, of2 + k * 3 + 1, none⟩ = some (.int .i64 T[k].2.1) ∧ w.cell? ⟨r, of2 + k * 3 + 2, none⟩ = some (.int .i64 T[k].2.2)) := hide hd
      have HG := hide wp.2
      have HN := hide hn
      have HM := hide hm
      have HK := hide hk
      have m10 : m ≤ 10 := by omega
      have C0 := hide (fun w x => triOfS (some ⟨q, off, none⟩) n c x w)
      have CO := hide (fun (x y z : Int × Int) w (hx : Near x) (hy : Near y) (hz : Near z) => orientS8 x y z w hx hy hz)
      have CX := hide (fun (x y z : Int × Int) w (hx : Near x) (hy : Near y) (hz : Near z) => crossS x y z w hx hy hz)
      have TB := hide (fun x => (by unfold tgB; rw [hn] : tgB l x = (trB n x && (sgZ (tcr l x) == sgZ (arS l l.length)))))
      have NO := hide (fun (x : Int × Int × Int) (hx : x ∈ T) (k : tgB l x = false) => (by rw [unhide EV]; rw [show T.all (tgB l) = false from List.all_eq_false.2 ⟨x, hx, by rw [k]; decide⟩]; rfl : itgV l T = false))
      have YES := hide (fun (k : ∀ x ∈ T, tgB l x = true) => (by rw [unhide EV, List.all_eq_true.2 k]; rfl : itgV l T = (tsum l T == arS l l.length)))
      clear hp h h' hn hm wp hk hc hd EV h1 h2
      generalize arS l l.length = A at *
      generalize itgV l T = V at *
      go_enter Tryz.func16, Tryz.ntmps16
      go_wp2_with fail
      refine (unhide CG _ (unhide HS)).mono ?_
      rintro e w1 ⟨rfl, hb⟩
      have HB := hide hb
      clear hb CG
      go_wp2_with fail
      go_loopw [6, 20] (fun sv iv wr => ∃ i : Nat, i ≤ m ∧ iv = .int .i64 i ∧ sv = .int .i64 (tsum l (T.take i)) ∧ Hid (∀ x ∈ T.take i, tgB l x = true) ∧ Hid (Below w.heap.size w wr)) (fun _ iv _ => m - (intOf iv).toNat)
      case atStart => exact ⟨0, Nat.zero_le _, rfl, rfl, hide (by simp), HB⟩
      case round =>
        clear HB
        obtain ⟨i, hi, rfl, rfl, HT, HB⟩ := hrel
        by_cases hlt : i < m
        · have hlt' : (i : Int) < (m : Int) := by omega
          have iT : i < T.length := by rw [unhide HM]; exact hlt
          have hx := unhide HD i iT
          have bs := tsum_bd (unhide HG) _ (unhide HT)
          have bl : (T.take i).length ≤ 10 := by rw [List.length_take]; have := unhide HK; omega
          have NOi := hide (unhide NO T[i] (List.getElem_mem iT))
          have TBi := hide (unhide TB T[i])
          have ES := hide (by rw [takeT iT, tsum_app]; simp [tsum] : tsum l (T.take (i + 1)) = tsum l (T.take i) + tcr l T[i])
          have HTn : Hid (tgB l T[i] = true → ∀ x ∈ T.take (i + 1), tgB l x = true) := hide (fun k x hx => by
            rw [takeT iT, List.mem_append] at hx
            rcases hx with hx | hx
            · exact unhide HT x hx
            · simp at hx; subst hx; exact k)
          generalize tsum l (T.take i) = s0 at *
          generalize (T.take i).length = bi at *
          generalize T[i] = x at *
          have D0 : wr.cell? ⟨r, of2 + i * 3, none⟩ = some (.int .i64 x.1) := ((unhide HB).cell (p := ⟨r, of2 + i * 3, none⟩) hr).trans hx.1
          have D1 : wr.cell? ⟨r, of2 + i * 3 + 1, none⟩ = some (.int .i64 x.2.1) := ((unhide HB).cell (p := ⟨r, of2 + i * 3 + 1, none⟩) hr).trans hx.2.1
          have D2 : wr.cell? ⟨r, of2 + i * 3 + 2, none⟩ = some (.int .i64 x.2.2) := ((unhide HB).cell (p := ⟨r, of2 + i * 3 + 2, none⟩) hr).trans hx.2.2
          clear hx HT NO YES TB HD
          cases ht : trB n x
          · have NV := unhide NOi (by rw [unhide TBi, ht]; rfl)
            subst NV
            have C0x := hide (fun w => unhide C0 w x)
            rw [ht] at C0x
            clear NOi TBi ES HTn bs bl HC HG C0 CO CX CA
            have bx := (Below.refl wr.heap.size wr).alloc (Nat.le_refl _) (.cells #[.int .i64 x.1, .int .i64 x.2.1, .int .i64 x.2.2] 40)
            replace HB := hide (below_on (unhide HB) bx)
            have X0 : (wr.alloc (.cells #[.int .i64 x.1, .int .i64 x.2.1, .int .i64 x.2.2] 40)).cell? ⟨wr.heap.size, 0, none⟩ = some (.int .i64 x.1) := by simp [go_sem]
            have X1 : (wr.alloc (.cells #[.int .i64 x.1, .int .i64 x.2.1, .int .i64 x.2.2] 40)).cell? ⟨wr.heap.size, 1, none⟩ = some (.int .i64 x.2.1) := by simp [go_sem]
            have X2 : (wr.alloc (.cells #[.int .i64 x.1, .int .i64 x.2.1, .int .i64 x.2.2] 40)).cell? ⟨wr.heap.size, 2, none⟩ = some (.int .i64 x.2.2) := by simp [go_sem]
            go_upto_region 9 with fail
            generalize wr.alloc (.cells #[.int .i64 x.1, .int .i64 x.2.1, .int .i64 x.2.2] 40) = wb at *
            clear D0 D1 D2 bx
            generalize wr.heap.size = PX at *
            refine wp_region_held_drew (S := fun w' => w'.cell? ⟨PX, 0, none⟩ = some (.int .i64 x.1) ∧ w'.cell? ⟨PX, 1, none⟩ = some (.int .i64 x.2.1) ∧ w'.cell? ⟨PX, 2, none⟩ = some (.int .i64 x.2.2)) (by kernel_rfl) ⟨X0, X1, X2⟩ (fun hHeld => ?_)
            simp only [List.size_toArray, List.length_cons, List.length_nil, Nat.reduceAdd, Array.replicate_succ, Array.replicate_zero, List.push_toArray, List.nil_append, List.cons_append]
            refine wpAnyH_take (i := 0) (v := .slice (some ⟨q, off, none⟩) n c) rfl (by kernel_rfl) (by kernel_rfl) (by kernel_rfl) (fun _ _ _ h => h) (Or.inl ⟨by rfl, by intro w hSw; (try dsimp only at hSw); go_simp⟩) hHeld ?_
            simp only [List.getElem_toArray, List.getElem_cons_zero, List.getElem_cons_succ, Act.put, List.setIfInBounds_toArray, List.set_cons_zero, List.set_cons_succ]
            refine wpAnyH_take (i := 1) (v := .agg #[.int .i64 x.1, .int .i64 x.2.1, .int .i64 x.2.2]) rfl (by kernel_rfl) (by kernel_rfl) (by kernel_rfl) (fun _ _ _ h => h) (Or.inl ⟨by rfl, by intro w hSw; (try dsimp only at hSw); go_simp⟩) hHeld ?_
            simp only [List.getElem_toArray, List.getElem_cons_zero, List.getElem_cons_succ, Act.put, List.setIfInBounds_toArray, List.set_cons_zero, List.set_cons_succ]
            refine wpAnyH_ready (rs := [2]) (by kernel_rfl) (by simp) (AllReadyH.cons rfl (fun K hK => ?_) AllReadyH.nil)
            go_simp
            refine (unhide C0x _).mono ?_
            rintro e w2 ⟨rfl, hb1⟩
            have hbx := below_of_drew hb1
            replace X0 := cell_later hbx X0
            replace X1 := cell_later hbx X1
            replace X2 := cell_later hbx X2
            replace HB := hide (below_on (unhide HB) hbx)
            refine hK.out _ _ ⟨X0, X1, X2⟩ (fun hHeld2 => ?_)
            clear hK K hb1 hbx hHeld
            have hHeld := hHeld2
            clear hHeld2
            simp only [Act.put, List.setIfInBounds_toArray, List.set_cons_zero, List.set_cons_succ]
            refine wpAnyH_take (i := 3) (v := .bool true) rfl (by kernel_rfl) (by kernel_rfl) (by kernel_rfl) (fun _ _ _ h => h) (Or.inl ⟨by rfl, by intro w hSw; (try dsimp only at hSw); go_simp⟩) hHeld ?_
            simp only [List.getElem_toArray, List.getElem_cons_zero, List.getElem_cons_succ, Act.put, List.setIfInBounds_toArray, List.set_cons_zero, List.set_cons_succ]
            refine wpAnyH_take (i := 4) (v := .bool true) rfl (by kernel_rfl) (by kernel_rfl) (by kernel_rfl) (fun _ _ _ h => h) (Or.inl ⟨by rfl, by intro w hSw; (try dsimp only at hSw); go_simp⟩) hHeld ?_
            simp only [List.getElem_toArray, List.getElem_cons_zero, List.getElem_cons_succ, Act.put, List.setIfInBounds_toArray, List.set_cons_zero, List.set_cons_succ]
            refine wpAnyH_take (i := 5) (v := undef) rfl (by kernel_rfl) (by kernel_rfl) (by kernel_rfl) (fun _ _ _ h => h) (Or.inr ⟨by kernel_rfl, rfl⟩) hHeld ?_
            simp only [List.getElem_toArray, List.getElem_cons_zero, List.getElem_cons_succ, Act.put, List.setIfInBounds_toArray, List.set_cons_zero, List.set_cons_succ]
            refine wpAnyH_take (i := 6) (v := undef) rfl (by kernel_rfl) (by kernel_rfl) (by kernel_rfl) (fun _ _ _ h => h) (Or.inr ⟨by kernel_rfl, rfl⟩) hHeld ?_
            simp only [List.getElem_toArray, List.getElem_cons_zero, List.getElem_cons_succ, Act.put, List.setIfInBounds_toArray, List.set_cons_zero, List.set_cons_succ]
            refine wpAnyH_take (i := 7) (v := undef) rfl (by kernel_rfl) (by kernel_rfl) (by kernel_rfl) (fun _ _ _ h => h) (Or.inr ⟨by kernel_rfl, rfl⟩) hHeld ?_
            simp only [List.getElem_toArray, List.getElem_cons_zero, List.getElem_cons_succ, Act.put, List.setIfInBounds_toArray, List.set_cons_zero, List.set_cons_succ]
            refine wpAnyH_take (i := 8) (v := undef) rfl (by kernel_rfl) (by kernel_rfl) (by kernel_rfl) (fun _ _ _ h => h) (Or.inr ⟨by kernel_rfl, rfl⟩) hHeld ?_
            simp only [List.getElem_toArray, List.getElem_cons_zero, List.getElem_cons_succ, Act.put, List.setIfInBounds_toArray, List.set_cons_zero, List.set_cons_succ]
            refine wpAnyH_take (i := 9) (v := undef) rfl (by kernel_rfl) (by kernel_rfl) (by kernel_rfl) (fun _ _ _ h => h) (Or.inr ⟨by kernel_rfl, rfl⟩) hHeld ?_
            simp only [List.getElem_toArray, List.getElem_cons_zero, List.getElem_cons_succ, Act.put, List.setIfInBounds_toArray, List.set_cons_zero, List.set_cons_succ]
            refine wpAnyH_take (i := 10) (v := undef) rfl (by kernel_rfl) (by kernel_rfl) (by kernel_rfl) (fun _ _ _ h => h) (Or.inr ⟨by kernel_rfl, rfl⟩) hHeld ?_
            simp only [List.getElem_toArray, List.getElem_cons_zero, List.getElem_cons_succ, Act.put, List.setIfInBounds_toArray, List.set_cons_zero, List.set_cons_succ]
            refine wpAnyH_take (i := 11) (v := undef) rfl (by kernel_rfl) (by kernel_rfl) (by kernel_rfl) (fun _ _ _ h => h) (Or.inr ⟨by kernel_rfl, rfl⟩) hHeld ?_
            simp only [List.getElem_toArray, List.getElem_cons_zero, List.getElem_cons_succ, Act.put, List.setIfInBounds_toArray, List.set_cons_zero, List.set_cons_succ]
            refine wpAnyH_take (i := 12) (v := undef) rfl (by kernel_rfl) (by kernel_rfl) (by kernel_rfl) (fun _ _ _ h => h) (Or.inr ⟨by kernel_rfl, rfl⟩) hHeld ?_
            simp only [List.getElem_toArray, List.getElem_cons_zero, List.getElem_cons_succ, Act.put, List.setIfInBounds_toArray, List.set_cons_zero, List.set_cons_succ]
            refine wpAnyH_take (i := 13) (v := undef) rfl (by kernel_rfl) (by kernel_rfl) (by kernel_rfl) (fun _ _ _ h => h) (Or.inr ⟨by kernel_rfl, rfl⟩) hHeld ?_
            simp only [List.getElem_toArray, List.getElem_cons_zero, List.getElem_cons_succ, Act.put, List.setIfInBounds_toArray, List.set_cons_zero, List.set_cons_succ]
            refine wpAnyH_take (i := 14) (v := undef) rfl (by kernel_rfl) (by kernel_rfl) (by kernel_rfl) (fun _ _ _ h => h) (Or.inr ⟨by kernel_rfl, rfl⟩) hHeld ?_
            simp only [List.getElem_toArray, List.getElem_cons_zero, List.getElem_cons_succ, Act.put, List.setIfInBounds_toArray, List.set_cons_zero, List.set_cons_succ]
            refine wpAnyH_take (i := 15) (v := undef) rfl (by kernel_rfl) (by kernel_rfl) (by kernel_rfl) (fun _ _ _ h => h) (Or.inr ⟨by kernel_rfl, rfl⟩) hHeld ?_
            simp only [List.getElem_toArray, List.getElem_cons_zero, List.getElem_cons_succ, Act.put, List.setIfInBounds_toArray, List.set_cons_zero, List.set_cons_succ]
            refine wpAnyH_take (i := 16) (v := undef) rfl (by kernel_rfl) (by kernel_rfl) (by kernel_rfl) (fun _ _ _ h => h) (Or.inr ⟨by kernel_rfl, rfl⟩) hHeld ?_
            simp only [List.getElem_toArray, List.getElem_cons_zero, List.getElem_cons_succ, Act.put, List.setIfInBounds_toArray, List.set_cons_zero, List.set_cons_succ]
            refine wpAnyH_take (i := 17) (v := undef) rfl (by kernel_rfl) (by kernel_rfl) (by kernel_rfl) (fun _ _ _ h => h) (Or.inr ⟨by kernel_rfl, rfl⟩) hHeld ?_
            simp only [List.getElem_toArray, List.getElem_cons_zero, List.getElem_cons_succ, Act.put, List.setIfInBounds_toArray, List.set_cons_zero, List.set_cons_succ]
            refine wpAnyH_take (i := 18) (v := undef) rfl (by kernel_rfl) (by kernel_rfl) (by kernel_rfl) (fun _ _ _ h => h) (Or.inr ⟨by kernel_rfl, rfl⟩) hHeld ?_
            simp only [List.getElem_toArray, List.getElem_cons_zero, List.getElem_cons_succ, Act.put, List.setIfInBounds_toArray, List.set_cons_zero, List.set_cons_succ]
            refine wpAnyH_take (i := 19) (v := undef) rfl (by kernel_rfl) (by kernel_rfl) (by kernel_rfl) (fun _ _ _ h => h) (Or.inr ⟨by kernel_rfl, rfl⟩) hHeld ?_
            simp only [List.getElem_toArray, List.getElem_cons_zero, List.getElem_cons_succ, Act.put, List.setIfInBounds_toArray, List.set_cons_zero, List.set_cons_succ]
            refine wpAnyH_take (i := 20) (v := undef) rfl (by kernel_rfl) (by kernel_rfl) (by kernel_rfl) (fun _ _ _ h => h) (Or.inr ⟨by kernel_rfl, rfl⟩) hHeld ?_
            simp only [List.getElem_toArray, List.getElem_cons_zero, List.getElem_cons_succ, Act.put, List.setIfInBounds_toArray, List.set_cons_zero, List.set_cons_succ]
            refine wpAnyH_take (i := 21) (v := undef) rfl (by kernel_rfl) (by kernel_rfl) (by kernel_rfl) (fun _ _ _ h => h) (Or.inr ⟨by kernel_rfl, rfl⟩) hHeld ?_
            simp only [List.getElem_toArray, List.getElem_cons_zero, List.getElem_cons_succ, Act.put, List.setIfInBounds_toArray, List.set_cons_zero, List.set_cons_succ]
            refine wpAnyH_take (i := 22) (v := undef) rfl (by kernel_rfl) (by kernel_rfl) (by kernel_rfl) (fun _ _ _ h => h) (Or.inr ⟨by kernel_rfl, rfl⟩) hHeld ?_
            simp only [List.getElem_toArray, List.getElem_cons_zero, List.getElem_cons_succ, Act.put, List.setIfInBounds_toArray, List.set_cons_zero, List.set_cons_succ]
            refine wpAnyH_take (i := 23) (v := undef) rfl (by kernel_rfl) (by kernel_rfl) (by kernel_rfl) (fun _ _ _ h => h) (Or.inr ⟨by kernel_rfl, rfl⟩) hHeld ?_
            simp only [List.getElem_toArray, List.getElem_cons_zero, List.getElem_cons_succ, Act.put, List.setIfInBounds_toArray, List.set_cons_zero, List.set_cons_succ]
            refine wpAnyH_take (i := 24) (v := undef) rfl (by kernel_rfl) (by kernel_rfl) (by kernel_rfl) (fun _ _ _ h => h) (Or.inr ⟨by kernel_rfl, rfl⟩) hHeld ?_
            simp only [List.getElem_toArray, List.getElem_cons_zero, List.getElem_cons_succ, Act.put, List.setIfInBounds_toArray, List.set_cons_zero, List.set_cons_succ]
            refine wpAnyH_take (i := 25) (v := .bool true) rfl (by kernel_rfl) (by kernel_rfl) (by kernel_rfl) (fun _ _ _ h => h) (Or.inl ⟨by rfl, by intro w hSw; (try dsimp only at hSw); go_simp⟩) hHeld ?_
            simp only [List.getElem_toArray, List.getElem_cons_zero, List.getElem_cons_succ, Act.put, List.setIfInBounds_toArray, List.set_cons_zero, List.set_cons_succ]
            refine wpAnyH_done (by kernel_rfl) ?_ _
            clear hHeld
            go_wp2_with fail
            go_ret2
            exact ⟨rfl, unhide HB⟩
          · obtain ⟨ka, kb, kc, rfl, ja, jb, jc⟩ := tr_nat ht
            have NA := near_at (unhide HG) (show ka < l.length by rw [unhide HN]; exact ja)
            have NB := near_at (unhide HG) (show kb < l.length by rw [unhide HN]; exact jb)
            have NC := near_at (unhide HG) (show kc < l.length by rw [unhide HN]; exact jc)
            have cb := crs_bd NA NB NC
            have A_ := unhide HC _ ja
            have B_ := unhide HC _ jb
            have C_ := unhide HC _ jc
            have C0x : Hid (∀ w, Calls Tryz.prog 41 #[.slice (some ⟨q, off, none⟩) n c, .agg #[.int .i64 (ka : Int), .int .i64 (kb : Int), .int .i64 (kc : Int)]] w fun e w' => e = .returned (.bool true) ∧ Below w.heap.size w w') := hide (fun w => by have := unhide C0 w ((ka : Int), (kb : Int), (kc : Int)); rw [ht] at this; exact this)
            have COx := hide (fun w => unhide CO _ _ _ w NA NB NC)
            have CXx := hide (fun w => unhide CX _ _ _ w NA NB NC)
            replace TBi : Hid (tgB l ((ka : Int), (kb : Int), (kc : Int)) = (sgZ (crs (l.getD ka (0, 0)) (l.getD kb (0, 0)) (l.getD kc (0, 0))) == sgZ A)) := hide (by rw [unhide TBi, ht, tcr_nat]; rfl)
            rw [tcr_nat] at ES
            replace ES := hide ES
            generalize l.getD ka (0, 0) = pa at *
            generalize l.getD kb (0, 0) = pb at *
            generalize l.getD kc (0, 0) = pc at *
            generalize sgZ (crs pa pb pc) = s at *
            generalize crs pa pb pc = C at *
            have iw : IntKind.i64.wrap (s0 + C) = s0 + C := by rw [IntKind.wrap_i64]; omega
            dsimp only at D0 D1 D2
            have ja' : (ka : Int) < (n : Int) := by omega
            have jb' : (kb : Int) < (n : Int) := by omega
            have jc' : (kc : Int) < (n : Int) := by omega
            clear cb bs NA NB NC C0 CO CX HG ht
            have A0 : wr.cell? ⟨q, off + ka * 2, none⟩ = some (.int .i64 pa.1) := ((unhide HB).cell (p := ⟨q, off + ka * 2, none⟩) hq).trans A_.1
            have A1 : wr.cell? ⟨q, off + ka * 2 + 1, none⟩ = some (.int .i64 pa.2) := ((unhide HB).cell (p := ⟨q, off + ka * 2 + 1, none⟩) hq).trans A_.2
            have B0 : wr.cell? ⟨q, off + kb * 2, none⟩ = some (.int .i64 pb.1) := ((unhide HB).cell (p := ⟨q, off + kb * 2, none⟩) hq).trans B_.1
            have B1 : wr.cell? ⟨q, off + kb * 2 + 1, none⟩ = some (.int .i64 pb.2) := ((unhide HB).cell (p := ⟨q, off + kb * 2 + 1, none⟩) hq).trans B_.2
            have C0 : wr.cell? ⟨q, off + kc * 2, none⟩ = some (.int .i64 pc.1) := ((unhide HB).cell (p := ⟨q, off + kc * 2, none⟩) hq).trans C_.1
            have C1 : wr.cell? ⟨q, off + kc * 2 + 1, none⟩ = some (.int .i64 pc.2) := ((unhide HB).cell (p := ⟨q, off + kc * 2 + 1, none⟩) hq).trans C_.2
            have HSr := hide ((unhide HS).later (unhide HB))
            clear A_ B_ C_ HC
            have bx := (Below.refl wr.heap.size wr).alloc (Nat.le_refl _) (.cells #[.int .i64 (ka : Int), .int .i64 (kb : Int), .int .i64 (kc : Int)] 40)
            replace HB := hide (below_on (unhide HB) bx)
            have X0 : (wr.alloc (.cells #[.int .i64 (ka : Int), .int .i64 (kb : Int), .int .i64 (kc : Int)] 40)).cell? ⟨wr.heap.size, 0, none⟩ = some (.int .i64 (ka : Int)) := by simp [go_sem]
            have X1 : (wr.alloc (.cells #[.int .i64 (ka : Int), .int .i64 (kb : Int), .int .i64 (kc : Int)] 40)).cell? ⟨wr.heap.size, 1, none⟩ = some (.int .i64 (kb : Int)) := by simp [go_sem]
            have X2 : (wr.alloc (.cells #[.int .i64 (ka : Int), .int .i64 (kb : Int), .int .i64 (kc : Int)] 40)).cell? ⟨wr.heap.size, 2, none⟩ = some (.int .i64 (kc : Int)) := by simp [go_sem]
            replace HSr := hide ((unhide HSr).later bx)
            replace A0 := cell_later bx A0
            replace A1 := cell_later bx A1
            replace B0 := cell_later bx B0
            replace B1 := cell_later bx B1
            replace C0 := cell_later bx C0
            replace C1 := cell_later bx C1
            go_upto_region 9 with fail
            generalize wr.alloc (.cells #[.int .i64 (ka : Int), .int .i64 (kb : Int), .int .i64 (kc : Int)] 40) = wb at *
            clear D0 D1 D2 bx
            generalize wr.heap.size = PX at *
            have HX0 : Hid True := hide trivial
            go_region_held3 (fun w' => w'.cell? ⟨PX, 0, none⟩ = some (.int .i64 (ka : Int)) ∧ w'.cell? ⟨PX, 1, none⟩ = some (.int .i64 (kb : Int)) ∧ w'.cell? ⟨PX, 2, none⟩ = some (.int .i64 (kc : Int)) ∧ w'.cell? ⟨q, off + ka * 2, none⟩ = some (.int .i64 pa.1) ∧ w'.cell? ⟨q, off + ka * 2 + 1, none⟩ = some (.int .i64 pa.2) ∧ w'.cell? ⟨q, off + kb * 2, none⟩ = some (.int .i64 pb.1) ∧ w'.cell? ⟨q, off + kb * 2 + 1, none⟩ = some (.int .i64 pb.2) ∧ w'.cell? ⟨q, off + kc * 2, none⟩ = some (.int .i64 pc.1) ∧ w'.cell? ⟨q, off + kc * 2 + 1, none⟩ = some (.int .i64 pc.2))
              (with_reducible (first | exact ⟨X0, X1, X2, A0, A1, B0, B1, C0, C1⟩ | exact ⟨cdP X0, cdP X1, cdP X2, cdP A0, cdP A1, cdP B0, cdP B1, cdP C0, cdP C1⟩ | fail))
              (first
              | (have chk := HX0; go_at_call 41; refine (unhide C0x _).mono ?_; rintro e w2 ⟨rfl, hb1⟩; have hbx := below_of_drew hb1; replace X0 := cell_later hbx X0; replace X1 := cell_later hbx X1; replace X2 := cell_later hbx X2; replace A0 := cell_later hbx A0; replace A1 := cell_later hbx A1; replace B0 := cell_later hbx B0; replace B1 := cell_later hbx B1; replace C0 := cell_later hbx C0; replace C1 := cell_later hbx C1; replace HSr := hide ((unhide HSr).later hbx); replace HB := hide (below_on (unhide HB) hbx); clear hb1 hbx; clear HX0 chk; have HX1 : Hid True := hide trivial)
              | (have chk := HX1; go_at_call 42; refine (unhide COx _).mono ?_; rintro e w3 ⟨rfl, hb1⟩; have hbx := hb1; replace X0 := cell_later hbx X0; replace X1 := cell_later hbx X1; replace X2 := cell_later hbx X2; replace A0 := cell_later hbx A0; replace A1 := cell_later hbx A1; replace B0 := cell_later hbx B0; replace B1 := cell_later hbx B1; replace C0 := cell_later hbx C0; replace C1 := cell_later hbx C1; replace HSr := hide ((unhide HSr).later hbx); replace HB := hide (below_on (unhide HB) hbx); clear hb1 hbx; clear HX1 chk; have HX2 : Hid True := hide trivial)
              | (have chk := HX2; go_at_call 30; refine (unhide CA _ (unhide HSr)).mono ?_; rintro e w4 ⟨rfl, hb1⟩; have hbx := hb1; replace X0 := cell_later hbx X0; replace X1 := cell_later hbx X1; replace X2 := cell_later hbx X2; replace A0 := cell_later hbx A0; replace A1 := cell_later hbx A1; replace B0 := cell_later hbx B0; replace B1 := cell_later hbx B1; replace C0 := cell_later hbx C0; replace C1 := cell_later hbx C1; replace HSr := hide ((unhide HSr).later hbx); replace HB := hide (below_on (unhide HB) hbx); clear hb1 hbx; clear HX2 chk; have HX3 : Hid True := hide trivial)
              | (have chk := HX3; go_at_call 29; refine (signS8 A _).mono ?_; rintro e w5 ⟨rfl, rfl⟩; clear HX3 chk)
              | fail)
            by_cases hs : s = sgZ A
            · have ds : (s != sgZ A) = false := by simp [hs]
              have HT1 := hide (unhide HTn (by rw [unhide TBi]; simp [hs]))
              clear hs HTn TBi NOi COx C0x
              rw [ds]
              clear ds
              go_upto_region 11 with fail
              have HX0 : Hid True := hide trivial
              go_region_held3 (fun w' => w'.cell? ⟨PX, 0, none⟩ = some (.int .i64 (ka : Int)) ∧ w'.cell? ⟨PX, 1, none⟩ = some (.int .i64 (kb : Int)) ∧ w'.cell? ⟨PX, 2, none⟩ = some (.int .i64 (kc : Int)) ∧ w'.cell? ⟨q, off + ka * 2, none⟩ = some (.int .i64 pa.1) ∧ w'.cell? ⟨q, off + ka * 2 + 1, none⟩ = some (.int .i64 pa.2) ∧ w'.cell? ⟨q, off + kb * 2, none⟩ = some (.int .i64 pb.1) ∧ w'.cell? ⟨q, off + kb * 2 + 1, none⟩ = some (.int .i64 pb.2) ∧ w'.cell? ⟨q, off + kc * 2, none⟩ = some (.int .i64 pc.1) ∧ w'.cell? ⟨q, off + kc * 2 + 1, none⟩ = some (.int .i64 pc.2))
                (with_reducible (first | exact ⟨X0, X1, X2, A0, A1, B0, B1, C0, C1⟩ | exact ⟨cdP X0, cdP X1, cdP X2, cdP A0, cdP A1, cdP B0, cdP B1, cdP C0, cdP C1⟩ | fail))
                (first
                | (have chk := HX0; go_at_call 43; refine (unhide CXx _).mono ?_; rintro e w6 ⟨rfl, hb1⟩; have hbx := below_of_drew hb1; replace X0 := cell_later hbx X0; replace X1 := cell_later hbx X1; replace X2 := cell_later hbx X2; replace A0 := cell_later hbx A0; replace A1 := cell_later hbx A1; replace B0 := cell_later hbx B0; replace B1 := cell_later hbx B1; replace C0 := cell_later hbx C0; replace C1 := cell_later hbx C1; replace HSr := hide ((unhide HSr).later hbx); replace HB := hide (below_on (unhide HB) hbx); clear hb1 hbx; clear HX0 chk)
                | fail)
              go_wp2_with fail
              go_roundw
              case rel => exact ⟨i + 1, by omega, by go_num, by rw [unhide ES], HT1, HB⟩
              case measure => simp [intOf]; omega
            · have ds : (s != sgZ A) = true := by simp [hs]
              have NV := unhide NOi (by rw [unhide TBi]; simp [hs])
              subst NV
              rw [ds]
              clear ds hs HTn TBi NOi
              go_wp2_with fail
              go_ret2
              exact ⟨rfl, unhide HB⟩
        · obtain rfl : i = m := by omega
          have ta : T.take i = T := List.take_of_length_le (by rw [unhide HM]; omega)
          rw [ta] at HT
          have VY := unhide YES (unhide HT)
          rw [ta]
          generalize tsum l T = s0 at *
          have HSr := hide ((unhide HS).later (unhide HB))
          clear HT ta NO YES TB HD
          go_wp2_with fail
          refine (unhide CA _ (unhide HSr)).mono ?_
          rintro e w9 ⟨rfl, hb⟩
          replace HB := hide (below_on (unhide HB) hb)
          clear hb
          go_wp2_with fail
          go_ret2
          exact ⟨by rw [VY]; first | rfl | simp | (cases hz : (s0 == A) <;> simp_all), unhide HB⟩
set_option maxHeartbeats 8000000 in
theorem itI2 (a : Option Addr) (n c : Nat) (l : List (Int × Int)) (b : Option Addr) (m d : Nat) (T : List (Int × Int × Int)) (w : World) (h : ArP w a n c l) (h' : SlA w b m T) (hp : ipB l = true) :
    Calls Tryz.prog 31 #[.slice a n c, .slice b m d] w fun e w' => e = .returned (.bool (itgV l T)) ∧ Below w.heap.size w w' := by
  have hn := h.len
  have hm := h'.len
  have HS := hide h.sl
  have wp := ipB_way hp
  have tn := ip_turn hp
  have n12 : n ≤ 12 := by omega
  have n3 : 3 ≤ n := by omega
  have ws : IntKind.i64.wrap ((n : Int) - 2) = (n : Int) - 2 := by rw [IntKind.wrap_i64]; omega
  have CG := hide (fun w (k : SlP w a l) => turnWI a n c l w k hn (by omega) n12 wp.2 tn.1)
  by_cases hk : m + 2 = n
  rotate_left
  · have EV : itgV l T = false := by unfold itgV; rw [hp, hm, hn, decide_eq_false hk]; rfl
    rw [EV]
    have dd : ((m : Int) != (n : Int) - 2) = true := by simp; omega
    clear hp h h' hn hm EV wp hk n12 n3 tn
    go_enter Tryz.func31, Tryz.ntmps31
    go_wp2_with fail
    go_ret
    exact ⟨rfl, Below.refl _ _⟩
  · have EV : Hid (itgV l T = (T.all (tgB l) && (tsum l T == arS l l.length))) := hide (by unfold itgV; rw [hp, hm, hn, decide_eq_true hk]; rfl)
    have dd : ((m : Int) != (n : Int) - 2) = false := by simp; omega
    have CA := hide (fun w (k : SlP w a l) => areaI a n c l w k hn (by omega) n12 wp.2)
    have SL := h.sl
    rcases SL with e | ⟨q, off, rfl, hq, hc⟩
    · subst e; simp at hn; omega
    have HC : Hid (∀ k, k < n → w.cell? ⟨q, off + k * 2, none⟩ = some (.int .i64 (l.getD k (0, 0)).1) ∧ w.cell? ⟨q, off + k * 2 + 1, none⟩ = some (.int .i64 (l.getD k (0, 0)).2)) := hide (fun k hk => by
      have := hc k (by omega)
      rw [List.getD_eq_getElem?_getD, List.getElem?_eq_getElem (by omega)]
      exact this)
    have ST := h'.sl
    rcases ST with e | ⟨r, of2, rfl, hr, hd⟩
    · subst e; simp at hm; omega
    have HD : Hid (∀ k (hk : k < T.length), w.cell? ⟨r, of2 + k * 3, none⟩ = some (.int .i64 T[k].1) ∧ w.cell? ⟨r, of2 + k * 3 + 1, none⟩ = some (.int .i64 T[k].2.1) ∧ w.cell? ⟨r, of2 + k * 3 + 2, none⟩ = some (.int .i64 T[k].2.2)) := hide hd
    have HG := hide wp.2
    have HN := hide hn
    have HM := hide hm
    have HK := hide hk
    have m10 : m ≤ 10 := by omega
    have C0 := hide (fun w x => triOfI (some ⟨q, off, none⟩) n c x w)
    have CO := hide (fun (x y z : Int × Int) w (hx : Near x) (hy : Near y) (hz : Near z) => turnI x y z w hx hy hz)
    have CX := hide (fun (x y z : Int × Int) w (hx : Near x) (hy : Near y) (hz : Near z) => area3 x y z w hx hy hz)
    have TB := hide (fun x => (by unfold tgB; rw [hn] : tgB l x = (trB n x && (sgZ (tcr l x) == sgZ (arS l l.length)))))
    have NO := hide (fun (x : Int × Int × Int) (hx : x ∈ T) (k : tgB l x = false) => (by rw [unhide EV]; rw [show T.all (tgB l) = false from List.all_eq_false.2 ⟨x, hx, by rw [k]; decide⟩]; rfl : itgV l T = false))
    have YES := hide (fun (k : ∀ x ∈ T, tgB l x = true) => (by rw [unhide EV, List.all_eq_true.2 k]; rfl : itgV l T = (tsum l T == arS l l.length)))
    clear hp h h' hn hm wp hk hc hd EV tn
    generalize arS l l.length = A at *
    generalize itgV l T = V at *
    go_enter Tryz.func31, Tryz.ntmps31
    go_wp2_with fail
    refine (unhide CG _ (unhide HS)).mono ?_
    rintro e w1 ⟨rfl, hb⟩
    have HB := hide hb
    clear hb CG
    go_wp2_with fail
    go_loopw [6, 19] (fun sv iv wr => ∃ i : Nat, i ≤ m ∧ iv = .int .i64 i ∧ sv = .int .i64 (tsum l (T.take i)) ∧ Hid (∀ x ∈ T.take i, tgB l x = true) ∧ Hid (Below w.heap.size w wr)) (fun _ iv _ => m - (intOf iv).toNat)
    case atStart => exact ⟨0, Nat.zero_le _, rfl, rfl, hide (by simp), HB⟩
    case round =>
      clear HB
      obtain ⟨i, hi, rfl, rfl, HT, HB⟩ := hrel
      by_cases hlt : i < m
      · have hlt' : (i : Int) < (m : Int) := by omega
        have iT : i < T.length := by rw [unhide HM]; exact hlt
        have hx := unhide HD i iT
        have bs := tsum_bd (unhide HG) _ (unhide HT)
        have bl : (T.take i).length ≤ 10 := by rw [List.length_take]; have := unhide HK; omega
        have NOi := hide (unhide NO T[i] (List.getElem_mem iT))
        have TBi := hide (unhide TB T[i])
        have ES := hide (by rw [takeT iT, tsum_app]; simp [tsum] : tsum l (T.take (i + 1)) = tsum l (T.take i) + tcr l T[i])
        have HTn : Hid (tgB l T[i] = true → ∀ x ∈ T.take (i + 1), tgB l x = true) := hide (fun k x hx => by
          rw [takeT iT, List.mem_append] at hx
          rcases hx with hx | hx
          · exact unhide HT x hx
          · simp at hx; subst hx; exact k)
        generalize tsum l (T.take i) = s0 at *
        generalize (T.take i).length = bi at *
        generalize T[i] = x at *
        have D0 : wr.cell? ⟨r, of2 + i * 3, none⟩ = some (.int .i64 x.1) := ((unhide HB).cell (p := ⟨r, of2 + i * 3, none⟩) hr).trans hx.1
        have D1 : wr.cell? ⟨r, of2 + i * 3 + 1, none⟩ = some (.int .i64 x.2.1) := ((unhide HB).cell (p := ⟨r, of2 + i * 3 + 1, none⟩) hr).trans hx.2.1
        have D2 : wr.cell? ⟨r, of2 + i * 3 + 2, none⟩ = some (.int .i64 x.2.2) := ((unhide HB).cell (p := ⟨r, of2 + i * 3 + 2, none⟩) hr).trans hx.2.2
        clear hx HT NO YES TB HD
        cases ht : trB n x
        · have NV := unhide NOi (by rw [unhide TBi, ht]; rfl)
          subst NV
          have C0x := hide (fun w => unhide C0 w x)
          rw [ht] at C0x
          clear NOi TBi ES HTn bs bl HC HG C0 CO CX CA
          have bx := (Below.refl wr.heap.size wr).alloc (Nat.le_refl _) (.cells #[.int .i64 x.1, .int .i64 x.2.1, .int .i64 x.2.2] 40)
          replace HB := hide (below_on (unhide HB) bx)
          have X0 : (wr.alloc (.cells #[.int .i64 x.1, .int .i64 x.2.1, .int .i64 x.2.2] 40)).cell? ⟨wr.heap.size, 0, none⟩ = some (.int .i64 x.1) := by simp [go_sem]
          have X1 : (wr.alloc (.cells #[.int .i64 x.1, .int .i64 x.2.1, .int .i64 x.2.2] 40)).cell? ⟨wr.heap.size, 1, none⟩ = some (.int .i64 x.2.1) := by simp [go_sem]
          have X2 : (wr.alloc (.cells #[.int .i64 x.1, .int .i64 x.2.1, .int .i64 x.2.2] 40)).cell? ⟨wr.heap.size, 2, none⟩ = some (.int .i64 x.2.2) := by simp [go_sem]
          go_upto_region 7 with fail
          generalize wr.alloc (.cells #[.int .i64 x.1, .int .i64 x.2.1, .int .i64 x.2.2] 40) = wb at *
          clear D0 D1 D2 bx
          generalize wr.heap.size = PX at *
          refine wp_region_held_drew (S := fun w' => w'.cell? ⟨PX, 0, none⟩ = some (.int .i64 x.1) ∧ w'.cell? ⟨PX, 1, none⟩ = some (.int .i64 x.2.1) ∧ w'.cell? ⟨PX, 2, none⟩ = some (.int .i64 x.2.2)) (by kernel_rfl) ⟨X0, X1, X2⟩ (fun hHeld => ?_)
          simp only [List.size_toArray, List.length_cons, List.length_nil, Nat.reduceAdd, Array.replicate_succ, Array.replicate_zero, List.push_toArray, List.nil_append, List.cons_append]
          refine wpAnyH_take (i := 0) (v := .agg #[.int .i64 x.1, .int .i64 x.2.1, .int .i64 x.2.2]) rfl (by kernel_rfl) (by kernel_rfl) (by kernel_rfl) (fun _ _ _ h => h) (Or.inl ⟨by rfl, by intro w hSw; (try dsimp only at hSw); go_simp⟩) hHeld ?_
          simp only [List.getElem_toArray, List.getElem_cons_zero, List.getElem_cons_succ, Act.put, List.setIfInBounds_toArray, List.set_cons_zero, List.set_cons_succ]
          refine wpAnyH_take (i := 1) (v := .slice (some ⟨q, off, none⟩) n c) rfl (by kernel_rfl) (by kernel_rfl) (by kernel_rfl) (fun _ _ _ h => h) (Or.inl ⟨by rfl, by intro w hSw; (try dsimp only at hSw); go_simp⟩) hHeld ?_
          simp only [List.getElem_toArray, List.getElem_cons_zero, List.getElem_cons_succ, Act.put, List.setIfInBounds_toArray, List.set_cons_zero, List.set_cons_succ]
          refine wpAnyH_ready (rs := [2]) (by kernel_rfl) (by simp) (AllReadyH.cons rfl (fun K hK => ?_) AllReadyH.nil)
          go_simp
          refine (unhide C0x _).mono ?_
          rintro e w2 ⟨rfl, hb1⟩
          have hbx := below_of_drew hb1
          replace X0 := cell_later hbx X0
          replace X1 := cell_later hbx X1
          replace X2 := cell_later hbx X2
          replace HB := hide (below_on (unhide HB) hbx)
          refine hK.out _ _ ⟨X0, X1, X2⟩ (fun hHeld2 => ?_)
          clear hK K hb1 hbx hHeld
          have hHeld := hHeld2
          clear hHeld2
          simp only [Act.put, List.setIfInBounds_toArray, List.set_cons_zero, List.set_cons_succ]
          refine wpAnyH_take (i := 3) (v := .bool true) rfl (by kernel_rfl) (by kernel_rfl) (by kernel_rfl) (fun _ _ _ h => h) (Or.inl ⟨by rfl, by intro w hSw; (try dsimp only at hSw); go_simp⟩) hHeld ?_
          simp only [List.getElem_toArray, List.getElem_cons_zero, List.getElem_cons_succ, Act.put, List.setIfInBounds_toArray, List.set_cons_zero, List.set_cons_succ]
          refine wpAnyH_take (i := 4) (v := .bool true) rfl (by kernel_rfl) (by kernel_rfl) (by kernel_rfl) (fun _ _ _ h => h) (Or.inl ⟨by rfl, by intro w hSw; (try dsimp only at hSw); go_simp⟩) hHeld ?_
          simp only [List.getElem_toArray, List.getElem_cons_zero, List.getElem_cons_succ, Act.put, List.setIfInBounds_toArray, List.set_cons_zero, List.set_cons_succ]
          refine wpAnyH_take (i := 5) (v := undef) rfl (by kernel_rfl) (by kernel_rfl) (by kernel_rfl) (fun _ _ _ h => h) (Or.inr ⟨by kernel_rfl, rfl⟩) hHeld ?_
          simp only [List.getElem_toArray, List.getElem_cons_zero, List.getElem_cons_succ, Act.put, List.setIfInBounds_toArray, List.set_cons_zero, List.set_cons_succ]
          refine wpAnyH_take (i := 6) (v := undef) rfl (by kernel_rfl) (by kernel_rfl) (by kernel_rfl) (fun _ _ _ h => h) (Or.inr ⟨by kernel_rfl, rfl⟩) hHeld ?_
          simp only [List.getElem_toArray, List.getElem_cons_zero, List.getElem_cons_succ, Act.put, List.setIfInBounds_toArray, List.set_cons_zero, List.set_cons_succ]
          refine wpAnyH_take (i := 7) (v := undef) rfl (by kernel_rfl) (by kernel_rfl) (by kernel_rfl) (fun _ _ _ h => h) (Or.inr ⟨by kernel_rfl, rfl⟩) hHeld ?_
          simp only [List.getElem_toArray, List.getElem_cons_zero, List.getElem_cons_succ, Act.put, List.setIfInBounds_toArray, List.set_cons_zero, List.set_cons_succ]
          refine wpAnyH_take (i := 8) (v := undef) rfl (by kernel_rfl) (by kernel_rfl) (by kernel_rfl) (fun _ _ _ h => h) (Or.inr ⟨by kernel_rfl, rfl⟩) hHeld ?_
          simp only [List.getElem_toArray, List.getElem_cons_zero, List.getElem_cons_succ, Act.put, List.setIfInBounds_toArray, List.set_cons_zero, List.set_cons_succ]
          refine wpAnyH_take (i := 9) (v := undef) rfl (by kernel_rfl) (by kernel_rfl) (by kernel_rfl) (fun _ _ _ h => h) (Or.inr ⟨by kernel_rfl, rfl⟩) hHeld ?_
          simp only [List.getElem_toArray, List.getElem_cons_zero, List.getElem_cons_succ, Act.put, List.setIfInBounds_toArray, List.set_cons_zero, List.set_cons_succ]
          refine wpAnyH_take (i := 10) (v := undef) rfl (by kernel_rfl) (by kernel_rfl) (by kernel_rfl) (fun _ _ _ h => h) (Or.inr ⟨by kernel_rfl, rfl⟩) hHeld ?_
          simp only [List.getElem_toArray, List.getElem_cons_zero, List.getElem_cons_succ, Act.put, List.setIfInBounds_toArray, List.set_cons_zero, List.set_cons_succ]
          refine wpAnyH_take (i := 11) (v := undef) rfl (by kernel_rfl) (by kernel_rfl) (by kernel_rfl) (fun _ _ _ h => h) (Or.inr ⟨by kernel_rfl, rfl⟩) hHeld ?_
          simp only [List.getElem_toArray, List.getElem_cons_zero, List.getElem_cons_succ, Act.put, List.setIfInBounds_toArray, List.set_cons_zero, List.set_cons_succ]
          refine wpAnyH_take (i := 12) (v := undef) rfl (by kernel_rfl) (by kernel_rfl) (by kernel_rfl) (fun _ _ _ h => h) (Or.inr ⟨by kernel_rfl, rfl⟩) hHeld ?_
          simp only [List.getElem_toArray, List.getElem_cons_zero, List.getElem_cons_succ, Act.put, List.setIfInBounds_toArray, List.set_cons_zero, List.set_cons_succ]
          refine wpAnyH_take (i := 13) (v := undef) rfl (by kernel_rfl) (by kernel_rfl) (by kernel_rfl) (fun _ _ _ h => h) (Or.inr ⟨by kernel_rfl, rfl⟩) hHeld ?_
          simp only [List.getElem_toArray, List.getElem_cons_zero, List.getElem_cons_succ, Act.put, List.setIfInBounds_toArray, List.set_cons_zero, List.set_cons_succ]
          refine wpAnyH_take (i := 14) (v := undef) rfl (by kernel_rfl) (by kernel_rfl) (by kernel_rfl) (fun _ _ _ h => h) (Or.inr ⟨by kernel_rfl, rfl⟩) hHeld ?_
          simp only [List.getElem_toArray, List.getElem_cons_zero, List.getElem_cons_succ, Act.put, List.setIfInBounds_toArray, List.set_cons_zero, List.set_cons_succ]
          refine wpAnyH_take (i := 15) (v := undef) rfl (by kernel_rfl) (by kernel_rfl) (by kernel_rfl) (fun _ _ _ h => h) (Or.inr ⟨by kernel_rfl, rfl⟩) hHeld ?_
          simp only [List.getElem_toArray, List.getElem_cons_zero, List.getElem_cons_succ, Act.put, List.setIfInBounds_toArray, List.set_cons_zero, List.set_cons_succ]
          refine wpAnyH_take (i := 16) (v := undef) rfl (by kernel_rfl) (by kernel_rfl) (by kernel_rfl) (fun _ _ _ h => h) (Or.inr ⟨by kernel_rfl, rfl⟩) hHeld ?_
          simp only [List.getElem_toArray, List.getElem_cons_zero, List.getElem_cons_succ, Act.put, List.setIfInBounds_toArray, List.set_cons_zero, List.set_cons_succ]
          refine wpAnyH_take (i := 17) (v := undef) rfl (by kernel_rfl) (by kernel_rfl) (by kernel_rfl) (fun _ _ _ h => h) (Or.inr ⟨by kernel_rfl, rfl⟩) hHeld ?_
          simp only [List.getElem_toArray, List.getElem_cons_zero, List.getElem_cons_succ, Act.put, List.setIfInBounds_toArray, List.set_cons_zero, List.set_cons_succ]
          refine wpAnyH_take (i := 18) (v := undef) rfl (by kernel_rfl) (by kernel_rfl) (by kernel_rfl) (fun _ _ _ h => h) (Or.inr ⟨by kernel_rfl, rfl⟩) hHeld ?_
          simp only [List.getElem_toArray, List.getElem_cons_zero, List.getElem_cons_succ, Act.put, List.setIfInBounds_toArray, List.set_cons_zero, List.set_cons_succ]
          refine wpAnyH_take (i := 19) (v := undef) rfl (by kernel_rfl) (by kernel_rfl) (by kernel_rfl) (fun _ _ _ h => h) (Or.inr ⟨by kernel_rfl, rfl⟩) hHeld ?_
          simp only [List.getElem_toArray, List.getElem_cons_zero, List.getElem_cons_succ, Act.put, List.setIfInBounds_toArray, List.set_cons_zero, List.set_cons_succ]
          refine wpAnyH_take (i := 20) (v := undef) rfl (by kernel_rfl) (by kernel_rfl) (by kernel_rfl) (fun _ _ _ h => h) (Or.inr ⟨by kernel_rfl, rfl⟩) hHeld ?_
          simp only [List.getElem_toArray, List.getElem_cons_zero, List.getElem_cons_succ, Act.put, List.setIfInBounds_toArray, List.set_cons_zero, List.set_cons_succ]
          refine wpAnyH_take (i := 21) (v := undef) rfl (by kernel_rfl) (by kernel_rfl) (by kernel_rfl) (fun _ _ _ h => h) (Or.inr ⟨by kernel_rfl, rfl⟩) hHeld ?_
          simp only [List.getElem_toArray, List.getElem_cons_zero, List.getElem_cons_succ, Act.put, List.setIfInBounds_toArray, List.set_cons_zero, List.set_cons_succ]
          refine wpAnyH_take (i := 22) (v := undef) rfl (by kernel_rfl) (by kernel_rfl) (by kernel_rfl) (fun _ _ _ h => h) (Or.inr ⟨by kernel_rfl, rfl⟩) hHeld ?_
          simp only [List.getElem_toArray, List.getElem_cons_zero, List.getElem_cons_succ, Act.put, List.setIfInBounds_toArray, List.set_cons_zero, List.set_cons_succ]
          refine wpAnyH_take (i := 23) (v := .bool true) rfl (by kernel_rfl) (by kernel_rfl) (by kernel_rfl) (fun _ _ _ h => h) (Or.inl ⟨by rfl, by intro w hSw; (try dsimp only at hSw); go_simp⟩) hHeld ?_
          simp only [List.getElem_toArray, List.getElem_cons_zero, List.getElem_cons_succ, Act.put, List.setIfInBounds_toArray, List.set_cons_zero, List.set_cons_succ]
          refine wpAnyH_done (by kernel_rfl) ?_ _
          clear hHeld
          go_wp2_with fail
          go_ret
          exact ⟨rfl, unhide HB⟩
        · obtain ⟨ka, kb, kc, rfl, ja, jb, jc⟩ := tr_nat ht
          have NA := near_at (unhide HG) (show ka < l.length by rw [unhide HN]; exact ja)
          have NB := near_at (unhide HG) (show kb < l.length by rw [unhide HN]; exact jb)
          have NC := near_at (unhide HG) (show kc < l.length by rw [unhide HN]; exact jc)
          have cb := crs_bd NA NB NC
          have A_ := unhide HC _ ja
          have B_ := unhide HC _ jb
          have C_ := unhide HC _ jc
          have C0x : Hid (∀ w, Calls Tryz.prog 57 #[.agg #[.int .i64 (ka : Int), .int .i64 (kb : Int), .int .i64 (kc : Int)], .slice (some ⟨q, off, none⟩) n c] w fun e w' => e = .returned (.bool true) ∧ Below w.heap.size w w') := hide (fun w => by have := unhide C0 w ((ka : Int), (kb : Int), (kc : Int)); rw [ht] at this; exact this)
          have COx := hide (fun w => unhide CO _ _ _ w NA NB NC)
          have CXx := hide (fun w => unhide CX _ _ _ w NA NB NC)
          replace TBi : Hid (tgB l ((ka : Int), (kb : Int), (kc : Int)) = (sgZ (crs (l.getD ka (0, 0)) (l.getD kb (0, 0)) (l.getD kc (0, 0))) == sgZ A)) := hide (by rw [unhide TBi, ht, tcr_nat]; rfl)
          rw [tcr_nat] at ES
          replace ES := hide ES
          generalize l.getD ka (0, 0) = pa at *
          generalize l.getD kb (0, 0) = pb at *
          generalize l.getD kc (0, 0) = pc at *
          generalize sgZ (crs pa pb pc) = s at *
          generalize crs pa pb pc = C at *
          have iw : IntKind.i64.wrap (s0 + C) = s0 + C := by rw [IntKind.wrap_i64]; omega
          dsimp only at D0 D1 D2
          have ja' : (ka : Int) < (n : Int) := by omega
          have jb' : (kb : Int) < (n : Int) := by omega
          have jc' : (kc : Int) < (n : Int) := by omega
          clear cb bs NA NB NC C0 CO CX HG ht
          have A0 : wr.cell? ⟨q, off + ka * 2, none⟩ = some (.int .i64 pa.1) := ((unhide HB).cell (p := ⟨q, off + ka * 2, none⟩) hq).trans A_.1
          have A1 : wr.cell? ⟨q, off + ka * 2 + 1, none⟩ = some (.int .i64 pa.2) := ((unhide HB).cell (p := ⟨q, off + ka * 2 + 1, none⟩) hq).trans A_.2
          have B0 : wr.cell? ⟨q, off + kb * 2, none⟩ = some (.int .i64 pb.1) := ((unhide HB).cell (p := ⟨q, off + kb * 2, none⟩) hq).trans B_.1
          have B1 : wr.cell? ⟨q, off + kb * 2 + 1, none⟩ = some (.int .i64 pb.2) := ((unhide HB).cell (p := ⟨q, off + kb * 2 + 1, none⟩) hq).trans B_.2
          have C0 : wr.cell? ⟨q, off + kc * 2, none⟩ = some (.int .i64 pc.1) := ((unhide HB).cell (p := ⟨q, off + kc * 2, none⟩) hq).trans C_.1
          have C1 : wr.cell? ⟨q, off + kc * 2 + 1, none⟩ = some (.int .i64 pc.2) := ((unhide HB).cell (p := ⟨q, off + kc * 2 + 1, none⟩) hq).trans C_.2
          have HSr := hide ((unhide HS).later (unhide HB))
          clear A_ B_ C_ HC
          have bx := (Below.refl wr.heap.size wr).alloc (Nat.le_refl _) (.cells #[.int .i64 (ka : Int), .int .i64 (kb : Int), .int .i64 (kc : Int)] 40)
          replace HB := hide (below_on (unhide HB) bx)
          have X0 : (wr.alloc (.cells #[.int .i64 (ka : Int), .int .i64 (kb : Int), .int .i64 (kc : Int)] 40)).cell? ⟨wr.heap.size, 0, none⟩ = some (.int .i64 (ka : Int)) := by simp [go_sem]
          have X1 : (wr.alloc (.cells #[.int .i64 (ka : Int), .int .i64 (kb : Int), .int .i64 (kc : Int)] 40)).cell? ⟨wr.heap.size, 1, none⟩ = some (.int .i64 (kb : Int)) := by simp [go_sem]
          have X2 : (wr.alloc (.cells #[.int .i64 (ka : Int), .int .i64 (kb : Int), .int .i64 (kc : Int)] 40)).cell? ⟨wr.heap.size, 2, none⟩ = some (.int .i64 (kc : Int)) := by simp [go_sem]
          replace HSr := hide ((unhide HSr).later bx)
          replace A0 := cell_later bx A0
          replace A1 := cell_later bx A1
          replace B0 := cell_later bx B0
          replace B1 := cell_later bx B1
          replace C0 := cell_later bx C0
          replace C1 := cell_later bx C1
          go_upto_region 7 with fail
          generalize wr.alloc (.cells #[.int .i64 (ka : Int), .int .i64 (kb : Int), .int .i64 (kc : Int)] 40) = wb at *
          clear D0 D1 D2 bx
          generalize wr.heap.size = PX at *
          have HX0 : Hid True := hide trivial
          go_region_held3 (fun w' => w'.cell? ⟨PX, 0, none⟩ = some (.int .i64 (ka : Int)) ∧ w'.cell? ⟨PX, 1, none⟩ = some (.int .i64 (kb : Int)) ∧ w'.cell? ⟨PX, 2, none⟩ = some (.int .i64 (kc : Int)) ∧ w'.cell? ⟨q, off + ka * 2, none⟩ = some (.int .i64 pa.1) ∧ w'.cell? ⟨q, off + ka * 2 + 1, none⟩ = some (.int .i64 pa.2) ∧ w'.cell? ⟨q, off + kb * 2, none⟩ = some (.int .i64 pb.1) ∧ w'.cell? ⟨q, off + kb * 2 + 1, none⟩ = some (.int .i64 pb.2) ∧ w'.cell? ⟨q, off + kc * 2, none⟩ = some (.int .i64 pc.1) ∧ w'.cell? ⟨q, off + kc * 2 + 1, none⟩ = some (.int .i64 pc.2))
            (with_reducible (first | exact ⟨X0, X1, X2, A0, A1, B0, B1, C0, C1⟩ | exact ⟨cdP X0, cdP X1, cdP X2, cdP A0, cdP A1, cdP B0, cdP B1, cdP C0, cdP C1⟩ | fail))
            (first
            | (have chk := HX0; go_at_call 57; refine (unhide C0x _).mono ?_; rintro e w2 ⟨rfl, hb1⟩; have hbx := below_of_drew hb1; replace X0 := cell_later hbx X0; replace X1 := cell_later hbx X1; replace X2 := cell_later hbx X2; replace A0 := cell_later hbx A0; replace A1 := cell_later hbx A1; replace B0 := cell_later hbx B0; replace B1 := cell_later hbx B1; replace C0 := cell_later hbx C0; replace C1 := cell_later hbx C1; replace HSr := hide ((unhide HSr).later hbx); replace HB := hide (below_on (unhide HB) hbx); clear hb1 hbx; clear HX0 chk; have HX1 : Hid True := hide trivial)
            | (have chk := HX1; go_at_call 36; refine (unhide COx _).mono ?_; rintro e w3 ⟨rfl, hb1⟩; have hbx := hb1; replace X0 := cell_later hbx X0; replace X1 := cell_later hbx X1; replace X2 := cell_later hbx X2; replace A0 := cell_later hbx A0; replace A1 := cell_later hbx A1; replace B0 := cell_later hbx B0; replace B1 := cell_later hbx B1; replace C0 := cell_later hbx C0; replace C1 := cell_later hbx C1; replace HSr := hide ((unhide HSr).later hbx); replace HB := hide (below_on (unhide HB) hbx); clear hb1 hbx; clear HX1 chk)
            | fail)
          by_cases hs : s = sgZ A
          · have ds : (s != sgZ A) = false := by simp [hs]
            have HT1 := hide (unhide HTn (by rw [unhide TBi]; simp [hs]))
            clear hs HTn TBi NOi COx C0x
            rw [ds]
            clear ds
            go_upto_region 9 with fail
            go_region_held3 (fun w' => w'.cell? ⟨PX, 0, none⟩ = some (.int .i64 (ka : Int)) ∧ w'.cell? ⟨PX, 1, none⟩ = some (.int .i64 (kb : Int)) ∧ w'.cell? ⟨PX, 2, none⟩ = some (.int .i64 (kc : Int)) ∧ w'.cell? ⟨q, off + ka * 2, none⟩ = some (.int .i64 pa.1) ∧ w'.cell? ⟨q, off + ka * 2 + 1, none⟩ = some (.int .i64 pa.2) ∧ w'.cell? ⟨q, off + kb * 2, none⟩ = some (.int .i64 pb.1) ∧ w'.cell? ⟨q, off + kb * 2 + 1, none⟩ = some (.int .i64 pb.2) ∧ w'.cell? ⟨q, off + kc * 2, none⟩ = some (.int .i64 pc.1) ∧ w'.cell? ⟨q, off + kc * 2 + 1, none⟩ = some (.int .i64 pc.2))
              (with_reducible (first | exact ⟨X0, X1, X2, A0, A1, B0, B1, C0, C1⟩ | exact ⟨cdP X0, cdP X1, cdP X2, cdP A0, cdP A1, cdP B0, cdP B1, cdP C0, cdP C1⟩ | exact ⟨cdP (ca_other X0), cdP (ca_other X1), cdP (ca_other X2), cdP (ca_other A0), cdP (ca_other A1), cdP (ca_other B0), cdP (ca_other B1), cdP (ca_other C0), cdP (ca_other C1)⟩ | fail))
              (first
              | (go_at_call 55; refine (unhide CXx _).mono ?_; rintro e w6 ⟨rfl, hb1⟩; have hbx := hb1; replace X0 := cell_later hbx X0; replace X1 := cell_later hbx X1; replace X2 := cell_later hbx X2; replace A0 := cell_later hbx A0; replace A1 := cell_later hbx A1; replace B0 := cell_later hbx B0; replace B1 := cell_later hbx B1; replace C0 := cell_later hbx C0; replace C1 := cell_later hbx C1; replace HB := hide (below_on (unhide HB) hbx); clear hb1 hbx)
              | fail)
            go_wp2_with fail
            go_roundw
            case rel => exact ⟨i + 1, by omega, by go_num, by rw [unhide ES], HT1, HB⟩
            case measure => simp [intOf]; omega
          · have ds : (s != sgZ A) = true := by simp [hs]
            have NV := unhide NOi (by rw [unhide TBi]; simp [hs])
            subst NV
            rw [ds]
            clear ds hs HTn TBi NOi
            go_wp2_with fail
            go_ret
            exact ⟨rfl, unhide HB⟩
      · obtain rfl : i = m := by omega
        have ta : T.take i = T := List.take_of_length_le (by rw [unhide HM]; omega)
        rw [ta] at HT
        have VY := unhide YES (unhide HT)
        rw [ta]
        generalize tsum l T = s0 at *
        have HSr := hide ((unhide HS).later (unhide HB))
        clear HT ta NO YES TB HD
        go_wp2_with fail
        refine (unhide CA _ (unhide HSr)).mono ?_
        rintro e w9 ⟨rfl, hb⟩
        replace HB := hide (below_on (unhide HB) hb)
        clear hb
        go_wp2_with fail
        go_ret
        exact ⟨by rw [VY]; first | rfl | simp | (cases hz : (s0 == A) <;> simp_all), unhide HB⟩
set_option maxHeartbeats 2000000 in
theorem IsTriangulationI2 (a : Option Addr) (n c : Nat) (l : List (Int × Int)) (b : Option Addr) (m d : Nat) (T : List (Int × Int × Int)) (w : World) (h : ArP w a n c l) (h' : SlA w b m T) (h1 : n ≤ 1048576) (h2 : m ≤ 1048576) :
    Calls Tryz.prog 11 #[.slice a n c, .slice b m d] w fun e w' => e = .returned (.tuple #[.bool (itgV l T), .bool (ipB l)]) ∧ Below w.heap.size w w' := by
  have hn := h.len
  have CG := hide (fun w (k : SlP w a l) => gswI a n c l w k hn h1)
  have HS := hide h
  have HT := hide h'
  cases hp : ipB l
  · rw [hp] at CG
    have EV : itgV l T = false := by unfold itgV; rw [hp]; rfl
    rw [EV]
    clear hp h h' hn EV
    go_enter Tryz.func11, Tryz.ntmps11
    go_wp2_with fail
    refine (unhide CG _ (unhide HS).sl).mono ?_
    rintro e w1 ⟨rfl, hb⟩
    go_wp2_with fail
    go_ret2
    exact ⟨rfl, hb⟩
  · rw [hp] at CG
    have CT := hide (fun w (k : ArP w a n c l) (k' : SlA w b m T) => itI2 a n c l b m d T w k k' hp)
    clear hp h h' hn
    generalize itgV l T = V at *
    go_enter Tryz.func11, Tryz.ntmps11
    go_wp2_with fail
    refine (unhide CG _ (unhide HS).sl).mono ?_
    rintro e w1 ⟨rfl, hb⟩
    replace HS := hide ((unhide HS).later hb)
    replace HT := hide ((unhide HT).later hb)
    have HB := hide hb
    clear hb
    go_wp2_with fail
    refine (unhide CT _ (unhide HS) (unhide HT)).mono ?_
    rintro e w2 ⟨rfl, hb⟩
    replace HB := hide (below_on (unhide HB) hb)
    clear hb
    go_wp2_with fail
    go_ret2
    exact ⟨rfl, unhide HB⟩
end Go.Proofs.YtomekmhonfofkaaGreat
namespace Go.Proofs.YtomekmhonfofkaaGreat
open Go.RowKit Go.ChangeMaps
set_option linter.unusedVariables false
set_option maxRecDepth 100000
set_option linter.unusedSimpArgs false

/-- What is best behind the colours from m on. -/
def bstV (C : List Int) : Nat → List Nat
  | 0 => if (idxs C 0).length ≤ (if (idxs C 1).length ≤ (idxs C 2).length then idxs C 1 else idxs C 2).length then idxs C 0 else (if (idxs C 1).length ≤ (idxs C 2).length then idxs C 1 else idxs C 2)
  | 1 => if (idxs C 1).length ≤ (idxs C 2).length then idxs C 1 else idxs C 2
  | 2 => idxs C 2
  | _ => []
theorem bst_rar (C : List Int) : bstV C 0 = idxs C (rarV C) := by
  have e : ∀ c, cntU C c C.length = (idxs C c).length := fun c => rfl
  unfold bstV rarV
  simp only [e]
  by_cases h1 : (idxs C 1).length < (idxs C 0).length
  · rw [if_pos h1]
    by_cases h2 : (idxs C 2).length < (idxs C 1).length
    · rw [if_pos h2, if_neg (show ¬ (idxs C 1).length ≤ (idxs C 2).length by omega), if_neg (by omega)]
    · rw [if_neg h2, if_pos (show (idxs C 1).length ≤ (idxs C 2).length by omega), if_neg (by omega)]
  · rw [if_neg h1]
    by_cases h2 : (idxs C 2).length < (idxs C 0).length
    · rw [if_pos h2, if_neg (show ¬ (idxs C 1).length ≤ (idxs C 2).length by omega), if_neg (by omega)]
    · rw [if_neg h2]
      by_cases h3 : (idxs C 1).length ≤ (idxs C 2).length
      · rw [if_pos h3, if_pos (by omega)]
      · rw [if_neg h3, if_pos (by omega)]
theorem bst_step (C : List Int) (m : Nat) (hm : m < 3) : bstV C m = if m = 2 ∨ (idxs C (m : Int)).length ≤ (bstV C (m + 1)).length then idxs C (m : Int) else bstV C (m + 1) := by
  match m, hm with
  | 0, _ => simp [bstV]
  | 1, _ => simp [bstV]
  | 2, _ => simp [bstV]
theorem bst_len (C : List Int) : ∀ m, (bstV C m).length ≤ C.length := by
  have h : ∀ c, (idxs C c).length ≤ C.length := fun c => Nat.le_trans (List.length_filter_le _ _) (by simp)
  have h1 : bstV C 1 = idxs C 1 ∨ bstV C 1 = idxs C 2 := by
    unfold bstV
    by_cases c : (idxs C 1).length ≤ (idxs C 2).length
    · rw [if_pos c]; exact .inl rfl
    · rw [if_neg c]; exact .inr rfl
  have h0 : bstV C 0 = idxs C 0 ∨ bstV C 0 = bstV C 1 := by
    show (if (idxs C 0).length ≤ (bstV C 1).length then idxs C 0 else bstV C 1) = _ ∨ (if (idxs C 0).length ≤ (bstV C 1).length then idxs C 0 else bstV C 1) = _
    by_cases c : (idxs C 0).length ≤ (bstV C 1).length
    · rw [if_pos c]; exact .inl rfl
    · rw [if_neg c]; exact .inr rfl
  intro m
  match m with
  | 0 => rcases h0 with e | e <;> rw [e]; exact h 0; rcases h1 with e | e <;> rw [e]; exact h 1; exact h 2
  | 1 => rcases h1 with e | e <;> rw [e]; exact h 1; exact h 2
  | 2 => exact h 2
  | m + 3 => simp [bstV]
end Go.Proofs.YtomekmhonfofkaaGreat
namespace Go.Proofs.YtomekmhonfofkaaGreat
open Go.RowKit Go.ChangeMaps
set_option linter.unusedVariables false
set_option maxRecDepth 100000
set_option linter.unusedSimpArgs false

/-- The colours of a good simple way. -/
noncomputable def coV (l : List (Int × Int)) : List Int := if ipB l then clV (cutL l (sgZ (arS l l.length)) (l.length - 3) (List.range l.length)) l.length else []
end Go.Proofs.YtomekmhonfofkaaGreat
namespace Go.Proofs.YtomekmhonfofkaaGreat
open Go.RowKit
set_option linter.unusedVariables false
set_option maxRecDepth 100000
set_option linter.unusedSimpArgs false

theorem cnt_sum {C : List Int} : ∀ m, (∀ k, k < m → Is3 (C.getD k 0)) → cntU C 0 m + cntU C 1 m + cntU C 2 m = m
  | 0, _ => rfl
  | m + 1, h => by
    have k := cnt_sum m (fun j hj => h j (by omega))
    rw [cntU_succ, cntU_succ, cntU_succ]
    rcases h m (by omega) with e | e | e <;> rw [e] <;> simp <;> omega
theorem idxs_len (C : List Int) (c : Int) : (idxs C c).length = cntU C c C.length := rfl
theorem rar_third {C : List Int} (h : ∀ k, k < C.length → Is3 (C.getD k 0)) : 3 * (idxs C (rarV C)).length ≤ C.length := by
  have s := cnt_sum C.length h
  unfold rarV
  dsimp only
  by_cases h1 : cntU C 1 C.length < cntU C 0 C.length
  · rw [if_pos h1]
    by_cases h2 : cntU C 2 C.length < cntU C 1 C.length
    · rw [if_pos h2, idxs_len]; omega
    · rw [if_neg h2, idxs_len]; omega
  · rw [if_neg h1]
    by_cases h2 : cntU C 2 C.length < cntU C 0 C.length
    · rw [if_pos h2, idxs_len]; omega
    · rw [if_neg h2, idxs_len]; omega
theorem rar_is (C : List Int) : Is3 (rarV C) := by
  unfold rarV Is3
  dsimp only
  by_cases h1 : cntU C 1 C.length < cntU C 0 C.length
  · rw [if_pos h1]
    by_cases h2 : cntU C 2 C.length < cntU C 1 C.length
    · rw [if_pos h2]; simp
    · rw [if_neg h2]; simp
  · rw [if_neg h1]
    by_cases h2 : cntU C 2 C.length < cntU C 0 C.length
    · rw [if_pos h2]; simp
    · rw [if_neg h2]; simp
theorem mem_idxs {C : List Int} {c : Int} {k : Nat} (h : k < C.length) (e : C.getD k 0 = c) : k ∈ idxs C c := by
  unfold idxs
  exact List.mem_filter.2 ⟨List.mem_range.2 h, by rw [e]; exact beq_self_eq_true _⟩
/-- Of a triangle's three colours one is any given one. -/
theorem one_three {a b c r : Int} (ha : Is3 a) (hb : Is3 b) (hc : Is3 c) (hr : Is3 r) (h1 : a ≠ b) (h2 : b ≠ c) (h3 : a ≠ c) : r = a ∨ r = b ∨ r = c := by
  unfold Is3 at *
  omega
theorem col_facts {l : List (Int × Int)} (h : ipB l = true) : ∀ q ∈ trV l, ∃ x y z : Nat, q = ((x : Int), (y : Int), (z : Int)) ∧ (x < l.length ∧ y < l.length ∧ z < l.length) ∧ (guC l).getD x 0 ≠ (guC l).getD y 0 ∧ (guC l).getD y 0 ≠ (guC l).getD z 0 ∧ (guC l).getD x 0 ≠ (guC l).getD z 0 := by
  intro q hq
  unfold trV at hq
  rw [h] at hq
  have w3 := (way_parts (ip_parts h).1).1.1
  obtain ⟨x, y, z, e, hx, hy, hz, k⟩ := (col_ok (l := l) (t := sgZ (arS l l.length)) (n := l.length) (l.length - 3) (List.range l.length) (by rw [List.length_range]; omega) (fun x hx => List.mem_range.1 hx) List.pairwise_lt_range).2 q hq
  exact ⟨x, y, z, e, ⟨List.mem_range.1 hx, List.mem_range.1 hy, List.mem_range.1 hz⟩, k⟩
theorem guC_len (l : List (Int × Int)) : (guC l).length = l.length := clV_len _ _
theorem guC_is3 {l : List (Int × Int)} (h : ipB l = true) : ∀ k, k < (guC l).length → Is3 ((guC l).getD k 0) := fun k hk => by
  have w3 := (way_parts (ip_parts h).1).1.1
  exact guC_is rfl w3 _ k (by rw [guC_len] at hk; exact hk)
theorem coV_gu {l : List (Int × Int)} (h : ipB l = true) : coV l = guC l := by unfold coV guC; rw [h]; rfl
theorem gua_third {l : List (Int × Int)} (h : ipB l = true) : 3 * (guV l).length ≤ l.length := by
  unfold guV
  rw [h]
  have k := rar_third (guC_is3 h)
  rw [guC_len] at k
  simpa [cI] using k
theorem gua_range {l : List (Int × Int)} : ∀ k ∈ guV l, cnB l.length k = true := by
  intro k hk
  unfold guV at hk
  split at hk
  · unfold cI idxs at hk
    obtain ⟨j, hj, rfl⟩ := List.mem_map.1 hk
    have := List.mem_range.1 (List.mem_filter.1 hj).1
    rw [guC_len] at this
    unfold cnB
    rw [decide_eq_true (by omega), decide_eq_true (by omega)]
    rfl
  · simp at hk
theorem gua_sees {l : List (Int × Int)} (h : ipB l = true) : ∀ q ∈ trV l, trB l.length q = true ∧ ∃ k ∈ guV l, hsB k q = true := by
  intro q hq
  obtain ⟨x, y, z, rfl, ⟨hx, hy, hz⟩, h1, h2, h3⟩ := col_facts h q hq
  refine ⟨?_, ?_⟩
  · unfold trB cnB
    simp only
    rw [decide_eq_true (by omega), decide_eq_true (by omega), decide_eq_true (by omega), decide_eq_true (by omega), decide_eq_true (by omega), decide_eq_true (by omega)]
    rfl
  · have gl := guC_len l
    have i3 := guC_is3 h
    have key : ∀ j : Nat, j < l.length → (guC l).getD j 0 = rarV (guC l) → ((j : Nat) : Int) ∈ guV l := fun j hj e => by
      unfold guV
      rw [h]
      exact List.mem_map.2 ⟨j, mem_idxs (by omega) e, rfl⟩
    rcases one_three (i3 x (by omega)) (i3 y (by omega)) (i3 z (by omega)) (rar_is (guC l)) h1 h2 h3 with e | e | e
    · exact ⟨_, key x hx e.symm, by simp [hsB]⟩
    · exact ⟨_, key y hy e.symm, by simp [hsB]⟩
    · exact ⟨_, key z hz e.symm, by simp [hsB]⟩
end Go.Proofs.YtomekmhonfofkaaGreat
namespace Go.Proofs.YtomekmhonfofkaaGreat
open Go.RowKit
set_option linter.unusedVariables false
set_option maxRecDepth 100000
set_option linter.unusedSimpArgs false

theorem fst_ear {l : List (Int × Int)} {L : List Nat} {t : Int} (h : ∃ i, i < L.length ∧ earB l L i t = true) : earB l L (fstE l L t) t = true := by
  obtain ⟨i, hi, he⟩ := h
  unfold fstE
  cases hf : (List.range L.length).find? (fun i => earB l L i t) with
  | none =>
    have := List.find?_eq_none.1 hf i (List.mem_range.2 hi)
    exact absurd he this
  | some j => exact List.find?_some (p := fun i => earB l L i t) hf
theorem tcr_E (l : List (Int × Int)) (L : List Nat) (e : Nat) : tcr l (triE L e) = crs (l.getD (bef L e) (0, 0)) (l.getD (L.getD e 0) (0, 0)) (l.getD (aft L e) (0, 0)) := rfl
theorem ar_tri (a b c : Jor.Q2) : Jor.ar [a, b, c] = Jor.jc a b c := by
  have e := Jor.ar_cut b c [] a
  have r := Jor.ar_rot [a] [b, c]
  simp only [List.nil_append, List.cons_append] at e r
  rw [r, e]
  have z : Jor.ar [c, a] = 0 := by
    simp [Jor.ar, Jor.eds, Jor.pe]
    grind
  rw [z]
  grind
theorem good_ar {l : List (Int × Int)} {L : List Nat} {t : Int} (G : GoodL l L t) : (t = 1 ∧ 0 < Jor.ar (wayQ l L)) ∨ (t = -1 ∧ Jor.ar (wayQ l L) < 0) := by
  rcases G.2 with ⟨e, p⟩ | ⟨e, p⟩
  · exact .inl ⟨e, Jor.ar_pos _ _ rfl G.1 p⟩
  · refine .inr ⟨e, ?_⟩
    have k := Jor.ar_pos _ _ rfl (Jor.SimJ.rev G.1) p
    rw [Jor.ar_rv] at k
    grind
theorem cut_sum {l : List (Int × Int)} {t : Int} : ∀ (k : Nat) (L : List Nat), L.length = k + 3 → GoodL l L t → ((tsum l (cutL l t k L) : Int) : Rat) = Jor.ar (wayQ l L) ∧ ∀ q ∈ cutL l t k L, sgZ (tcr l q) = t
  | 0, L, hl, G => by
    obtain ⟨x, y, z, rfl⟩ : ∃ x y z, L = [x, y, z] := by
      match L, hl with
      | [x, y, z], _ => exact ⟨x, y, z, rfl⟩
    have ea : Jor.ar (wayQ l [x, y, z]) = ((crs (l.getD x (0, 0)) (l.getD y (0, 0)) (l.getD z (0, 0)) : Int) : Rat) := by
      show Jor.ar [_, _, _] = _
      rw [ar_tri, jc_toQ]
    have et : tcr l (((x : Nat) : Int), ((y : Nat) : Int), ((z : Nat) : Int)) = crs (l.getD x (0, 0)) (l.getD y (0, 0)) (l.getD z (0, 0)) := rfl
    have ga := good_ar G
    rw [ea] at ga ⊢
    refine ⟨?_, fun q hq => ?_⟩
    · show ((tcr l (((x : Nat) : Int), ((y : Nat) : Int), ((z : Nat) : Int)) + 0 : Int) : Rat) = _
      rw [et, Int.add_zero]
    · have e : q = (((x : Nat) : Int), ((y : Nat) : Int), ((z : Nat) : Int)) := by simpa [cutL] using hq
      rw [e, et]
      generalize crs (l.getD x (0, 0)) (l.getD y (0, 0)) (l.getD z (0, 0)) = C at *
      rcases ga with ⟨e, p⟩ | ⟨e, p⟩
      · rw [e]; exact sg_one.2 (by exact_mod_cast p)
      · rw [e]; exact sg_mone.2 (by exact_mod_cast p)
  | k + 1, L, hl, G => by
    obtain ⟨i, j, hi, hj, hij, ei, ej⟩ := ear_two G (by omega)
    have ee := fst_ear ⟨i, hi, ei⟩
    have le : fstE l L t < L.length := fstE_lt (by omega)
    have G2 := ear_cut G (by omega) le ee
    have ih := cut_sum k (L.eraseIdx (fstE l L t)) (by rw [List.length_eraseIdx_of_lt le]; omega) G2
    have ws := way_split (l := l) le
    have S := G.1
    have h1 := ed_bef (l := l) le
    have h2 := ed_aft (l := l) le
    rw [ws.1] at S h1 h2
    have ae := Jor.ar_ear S h1 h2
    rw [← ws.1, ← ws.2, jc_toQ] at ae
    have se := (ear_iff.1 ee).1
    refine ⟨?_, fun q hq => ?_⟩
    · rw [ae, ← ih.1, ← tcr_E]
      show ((tcr l (triE L (fstE l L t)) + tsum l (cutL l t k (L.eraseIdx (fstE l L t))) : Int) : Rat) = _
      generalize tcr l (triE L (fstE l L t)) = X
      generalize tsum l (cutL l t k (L.eraseIdx (fstE l L t))) = Y
      rw [Rat.intCast_add]
      grind
    · rw [cutL, List.mem_cons] at hq
      rcases hq with e | hq
      · rw [e, tcr_E]; exact se
      · exact ih.2 q hq
/-- What is told as a triangulation is one. -/
theorem tri_is {l : List (Int × Int)} (h : ipB l = true) : itgV l (trV l) = true := by
  have p := ip_parts h
  have w3 := (way_parts p.1).1.1
  have G := goodL_of w3 p.2
  have cs := cut_sum (l := l) (t := sgZ (arS l l.length)) (l.length - 3) (List.range l.length) (by rw [List.length_range]; omega) G
  have et : trV l = cutL l (sgZ (arS l l.length)) (l.length - 3) (List.range l.length) := by unfold trV; rw [h]; rfl
  rw [ar_way, ← et] at cs
  have s : tsum l (trV l) = arS l l.length := by exact_mod_cast cs.1
  have len : (trV l).length + 2 = l.length := by rw [et, cutL_len]; omega
  have al : (trV l).all (tgB l) = true := List.all_eq_true.2 (fun q hq => by
    unfold tgB
    rw [(gua_sees h q hq).1, cs.2 q hq]
    simp)
  unfold itgV
  rw [h, decide_eq_true len, al, s]
  simp
theorem two_len {p : Nat → Bool} {n i j : Nat} (hi : i < n) (hj : j < n) (hij : i ≠ j) (pi : p i = true) (pj : p j = true) : 2 ≤ ((List.range n).filter p).length := by
  have a := List.mem_filter.2 ⟨List.mem_range.2 hi, pi⟩
  have b := List.mem_filter.2 ⟨List.mem_range.2 hj, pj⟩
  generalize (List.range n).filter p = M at *
  match M, a, b with
  | [x], a, b => simp at a b; omega
  | x :: y :: r, _, _ => simp
/-- A simple way has two ears at least. -/
theorem ears_two {l : List (Int × Int)} (h : ipB l = true) : 2 ≤ (eaV l).length := by
  have p := ip_parts h
  have w3 := (way_parts p.1).1.1
  have G := goodL_of w3 p.2
  have ev : (eaV l).length = (earL l (List.range l.length) (sgZ (arS l l.length))).length := by unfold eaV; rw [h]; simp [cI]
  rw [ev]
  unfold earL
  have cs := (cut_sum (l := l) (t := sgZ (arS l l.length)) (l.length - 3) (List.range l.length) (by rw [List.length_range]; omega) G).2
  generalize sgZ (arS l l.length) = t at *
  by_cases n4 : 4 ≤ l.length
  · obtain ⟨i, j, hi, hj, hij, ei, ej⟩ := ear_two G (by rw [List.length_range]; exact n4)
    exact two_len hi hj hij ei ej
  · have e3 : l.length = 3 := by omega
    rw [e3] at cs ⊢
    have c0 := cs _ (List.mem_singleton.2 rfl)
    have c1 : sgZ (crs (l.getD 0 (0, 0)) (l.getD 1 (0, 0)) (l.getD 2 (0, 0))) = t := c0
    have e0 : crs (l.getD 2 (0, 0)) (l.getD 0 (0, 0)) (l.getD 1 (0, 0)) = crs (l.getD 0 (0, 0)) (l.getD 1 (0, 0)) (l.getD 2 (0, 0)) := by unfold crs; grind
    have k1 : earB l (List.range 3) 1 t = true := ear_iff.2 ⟨c1, fun k hk => by
      have hk3 := List.mem_range.1 hk
      rcases k with _ | _ | _ | k
      · exact .inl rfl
      · exact .inr (.inl rfl)
      · exact .inr (.inr (.inl rfl))
      · omega⟩
    have k0 : earB l (List.range 3) 0 t = true := ear_iff.2 ⟨by rw [← c1, ← e0]; rfl, fun k hk => by
      have hk3 := List.mem_range.1 hk
      rcases k with _ | _ | _ | k
      · exact .inr (.inl rfl)
      · exact .inr (.inr (.inl rfl))
      · exact .inl rfl
      · omega⟩
    exact two_len (n := (List.range 3).length) (i := 0) (j := 1) (by simp) (by simp) (by omega) k0 k1
end Go.Proofs.YtomekmhonfofkaaGreat
namespace Go.Proofs.YtomekmhonfofkaaGreat
open Go.RowKit
set_option linter.unusedVariables false
set_option maxRecDepth 100000
set_option linter.unusedSimpArgs false

open Jor in
theorem cut_off {s t : List Q2} {a b c q : Q2} (S : SimJ (s ++ b :: t)) (E : EarP (s ++ b :: t) a b c) (o : Off (s ++ b :: t) q) (i : ¬ InC a b c q) : Off (s ++ t) q := by
  have r1 := rot_app s (b :: t)
  have r2 := rot_app t s
  rw [List.cons_append] at r1
  have S1 := S.same r1
  have E1 := E.same r1
  obtain ⟨c', mid, a', e⟩ := head_form S1
  rw [e] at S1 E1 r1 r2
  obtain ⟨rfl, rfl⟩ := head_ends S1 E1.e1 E1.e2
  intro e k
  have k2 := (r2.ed e).1 k
  rw [eds_cut, List.mem_append, List.mem_singleton] at k2
  rcases k2 with k2 | rfl
  · exact o e ((r1.ed e).1 (by rw [eds_at]; simp [k2]))
  · exact fun o2 => i (on_ac E1.pos o2).1
def tin (l : List (Int × Int)) (x : Int × Int × Int) (q : Int × Int) : Bool := inT (pAt l x.1) (pAt l x.2.1) (pAt l x.2.2) q
theorem tin_E (l : List (Int × Int)) (L : List Nat) (e : Nat) (q : Int × Int) : tin l (triE L e) q = inT (l.getD (bef L e) (0, 0)) (l.getD (L.getD e 0) (0, 0)) (l.getD (aft L e) (0, 0)) q := rfl
/-- One ear's step. -/
theorem cut_in {l : List (Int × Int)} {L : List Nat} {t : Int} {i : Nat} {q : Int × Int} (G : GoodL l L t) (n4 : 4 ≤ L.length) (hi : i < L.length) (h : earB l L i t = true) (o : Jor.Off (wayQ l L) (toQ q)) :
    (Jor.wn (wayQ l L) (toQ q) = t ↔ tin l (triE L i) q = true ∨ (Jor.Off (wayQ l (L.eraseIdx i)) (toQ q) ∧ Jor.wn (wayQ l (L.eraseIdx i)) (toQ q) = t)) ∧ (tin l (triE L i) q = false → Jor.Off (wayQ l (L.eraseIdx i)) (toQ q)) := by
  obtain ⟨e1, e2⟩ := way_split (l := l) hi
  have wl := wayQ_len l L
  have se := (ear_iff.1 h).1
  rw [tin_E]
  obtain ⟨S, ⟨rfl, P⟩ | ⟨rfl, P⟩⟩ := G
  · have E := (ear_pos S hi).1 h
    have cq := inC_pos (p := q) (sg_one.1 se)
    rw [e1] at S P E wl o ⊢
    have C := (Jor.cut_pos S P E (by omega)).2.2.1 (toQ q) o
    have F := cut_off S E o
    rw [e2]
    rw [cq] at C F
    exact ⟨C, fun k => F (by rw [k]; decide)⟩
  · have E := (ear_neg S hi).1 h
    have cq := inC_neg (p := q) (sg_mone.1 se)
    have r := rv_same (wayQ l L)
    have S1 := S.rev.same r
    have P1 := P.same r
    have E1 := E.same r
    have o1 := o.rev.same r
    have wr := r.wn (toQ q)
    rw [Jor.wn_rev] at wr
    have wl1 := r.len
    rw [Jor.len_rv, wl] at wl1
    have r2 := rv_same (wayQ l (L.eraseIdx i))
    have wr2 := r2.wn (toQ q)
    rw [Jor.wn_rev] at wr2
    have oo : Jor.Off (wayQ l (L.eraseIdx i)).reverse (toQ q) ↔ Jor.Off (wayQ l (L.eraseIdx i)) (toQ q) := ⟨fun k => by have := (k.same r2.symm).rev; rw [Jor.rv_rv] at this; exact this, fun k => k.rev.same r2⟩
    have er : (wayQ l (L.eraseIdx i)).reverse = (wayQ l (L.drop (i + 1))).reverse ++ (wayQ l (L.take i)).reverse := by rw [e2, List.reverse_append]
    have e1r : (wayQ l L).reverse = (wayQ l (L.drop (i + 1))).reverse ++ toQ (l.getD (L.getD i 0) (0, 0)) :: (wayQ l (L.take i)).reverse := by rw [e1, List.reverse_append, List.reverse_cons, List.append_assoc, List.singleton_append]
    rw [e1r] at S1 P1 E1 wl1 o1 wr
    have C := (Jor.cut_pos S1 P1 E1 (by omega)).2.2.1 (toQ q) o1
    have F := cut_off S1 E1 o1
    rw [← er, oo, cq] at C
    rw [← er, oo, cq] at F
    rw [wr, wr2] at C
    refine ⟨?_, fun k => F (by rw [k]; decide)⟩
    generalize Jor.wn (wayQ l L) (toQ q) = A at *
    generalize Jor.wn (wayQ l (L.eraseIdx i)) (toQ q) = B at *
    have hA : A = -1 ↔ -A = 1 := by omega
    have hB : B = -1 ↔ -B = 1 := by omega
    rw [hA, hB]
    exact C
set_option maxHeartbeats 1000000 in
theorem tri_has0 {l : List (Int × Int)} {t : Int} {q : Int × Int} (L : List Nat) (hl : L.length = 0 + 3) (G : GoodL l L t) (o : Jor.Off (wayQ l L) (toQ q)) : (Jor.wn (wayQ l L) (toQ q) = t ↔ ∃ x ∈ cutL l t 0 L, tin l x q = true) := by
    have cs := (cut_sum 0 L hl G).2
    obtain ⟨x, y, z, rfl⟩ : ∃ x y z, L = [x, y, z] := by
      match L, hl with
      | [x, y, z], _ => exact ⟨x, y, z, rfl⟩
    have se := cs (((x : Nat) : Int), ((y : Nat) : Int), ((z : Nat) : Int)) (by simp [cutL])
    rw [tcr_nat] at se
    have o1 : ¬ Jor.OnJ (toQ (l.getD x (0, 0))) (toQ (l.getD y (0, 0))) (toQ q) := o (toQ (l.getD x (0, 0)), toQ (l.getD y (0, 0))) (ed_way.2 ⟨0, by simp, by simp [aft]⟩)
    have o2 : ¬ Jor.OnJ (toQ (l.getD y (0, 0))) (toQ (l.getD z (0, 0))) (toQ q) := o (toQ (l.getD y (0, 0)), toQ (l.getD z (0, 0))) (ed_way.2 ⟨1, by simp, by simp [aft]⟩)
    have o3 : ¬ Jor.OnJ (toQ (l.getD z (0, 0))) (toQ (l.getD x (0, 0))) (toQ q) := o (toQ (l.getD z (0, 0)), toQ (l.getD x (0, 0))) (ed_way.2 ⟨2, by simp, by simp [aft]⟩)
    have ew : wayQ l [x, y, z] = [toQ (l.getD x (0, 0)), toQ (l.getD y (0, 0)), toQ (l.getD z (0, 0))] := rfl
    have ec : (∃ x' ∈ cutL l t 0 [x, y, z], tin l x' q = true) ↔ inT (l.getD x (0, 0)) (l.getD y (0, 0)) (l.getD z (0, 0)) q = true := by
      constructor
      · rintro ⟨x', hx', k⟩
        have e : x' = (((x : Nat) : Int), ((y : Nat) : Int), ((z : Nat) : Int)) := by simpa [cutL] using hx'
        rw [e] at k
        exact k
      · exact fun k => ⟨(((x : Nat) : Int), ((y : Nat) : Int), ((z : Nat) : Int)), by simp [cutL], k⟩
    rw [ec, ew]
    have gt := G.2
    clear o cs ec ew G
    generalize l.getD x (0, 0) = a at *
    generalize l.getD y (0, 0) = b at *
    generalize l.getD z (0, 0) = c at *
    rcases gt with ⟨rfl, _⟩ | ⟨rfl, _⟩
    · have p := sg_one.1 se
      have T := Jor.tri_num (q := toQ q) (jq_pos.2 p) o1 o2 o3
      rw [inC_pos p] at T
      cases hv : inT a b c q
      · have := T.2 (by rw [hv]; decide)
        rw [this]
        simp
      · rw [T.1 hv]
        simp
    · have p := sg_mone.1 se
      have p2 : 0 < crs c b a := by
        have e : crs c b a = -crs a b c := by unfold crs; grind
        omega
      have T := Jor.tri_num (q := toQ q) (jq_pos.2 p2) (fun k => o2 (Jor.on_swap k)) (fun k => o1 (Jor.on_swap k)) (fun k => o3 (Jor.on_swap k))
      rw [inC_neg p] at T
      have wv := (rv_same [toQ a, toQ b, toQ c]).wn (toQ q)
      rw [Jor.wn_rev] at wv
      change Jor.wn [toQ c, toQ b, toQ a] (toQ q) = _ at wv
      rw [wv] at T
      cases hv : inT a b c q
      · have := T.2 (by rw [hv]; decide)
        simp
        omega
      · have := T.1 hv
        simp
        omega
theorem tri_has {l : List (Int × Int)} {t : Int} {q : Int × Int} (k : Nat) : ∀ (L : List Nat), L.length = k + 3 → GoodL l L t → Jor.Off (wayQ l L) (toQ q) → (Jor.wn (wayQ l L) (toQ q) = t ↔ ∃ x ∈ cutL l t k L, tin l x q = true) := by
  induction k with
  | zero => exact fun L hl G o => tri_has0 L hl G o
  | succ k IH =>
    intro L hl G o
    obtain ⟨i, j, hi, hj, hij, ei, ej⟩ := ear_two G (by omega)
    have ee := fst_ear ⟨i, hi, ei⟩
    have le : fstE l L t < L.length := fstE_lt (by omega)
    have G2 := ear_cut G (by omega) le ee
    obtain ⟨C, F⟩ := cut_in G (by omega) le ee o
    have ih := fun o' => IH (L.eraseIdx (fstE l L t)) (by rw [List.length_eraseIdx_of_lt le]; omega) G2 o'
    rw [C, cutL]
    constructor
    · rintro (h | ⟨o', h⟩)
      · exact ⟨_, List.mem_cons_self .., h⟩
      · obtain ⟨x, hx, hk⟩ := (ih o').1 h
        exact ⟨x, List.mem_cons_of_mem _ hx, hk⟩
    · rintro ⟨x, hx, hk⟩
      cases ht : tin l (triE L (fstE l L t)) q
      · right
        refine ⟨F ht, (ih (F ht)).2 ?_⟩
        rcases List.mem_cons.1 hx with e | hx
        · rw [e, ht] at hk; cases hk
        · exact ⟨x, hx, hk⟩
      · exact .inl rfl
end Go.Proofs.YtomekmhonfofkaaGreat
namespace Go.Proofs.YtomekmhonfofkaaGreat
open Go.RowKit
set_option linter.unusedVariables false
set_option maxRecDepth 100000
set_option linter.unusedSimpArgs false

theorem onK_any {l : List (Int × Int)} {p : Int × Int} : ∀ k, onK l p k = false → ∀ i, i < k → onV (l.getD i (0, 0)) (nxt l i) p = false
  | 0, _, i, hi => by omega
  | k + 1, h, i, hi => by
    unfold onK at h
    have h' := (Bool.or_eq_false_iff).1 h
    by_cases e : i = k
    · subst e
      first | exact h'.1 | exact h'.2
    · first | exact onK_any k h'.1 i (by omega) | exact onK_any k h'.2 i (by omega)
/-- Not at all, or once. -/
theorem wind_once {l : List (Int × Int)} {p : Int × Int} (h3 : 3 ≤ l.length) (hs : siI l = true) (hoff : onK l p l.length = false) :
    (0 < arS l l.length ∧ (wiS l p l.length = 0 ∨ wiS l p l.length = 1)) ∨ (arS l l.length < 0 ∧ (wiS l p l.length = 0 ∨ wiS l p l.length = -1)) := by
  have S := simJ_of h3 hs
  have k := Jor.pos_iff S
  rw [ar_way] at k
  obtain ⟨k1, k2, k3⟩ := k
  have off : Jor.Off (wayQ l (List.range l.length)) (toQ p) := fun e he o => by
    rw [eds_way, List.mem_map] at he
    obtain ⟨i, hi, rfl⟩ := he
    have := onK_any l.length hoff i (List.mem_range.1 hi)
    rw [on_toQ, this] at o
    cases o
  have W := wn_way l p
  rcases Int.lt_trichotomy (arS l l.length) 0 with h | h | h
  · right
    have P := k2 (Rat.intCast_lt_intCast (b := 0) |>.2 h)
    have := P.num (toQ p) off.rev
    rw [Jor.wn_rev, W] at this
    exact ⟨h, by omega⟩
  · exact absurd (by rw [h]; rfl) k3
  · left
    have P := k1 (Rat.intCast_lt_intCast (a := 0) |>.2 h)
    have := P.num (toQ p) off
    rw [W] at this
    exact ⟨h, this⟩
end Go.Proofs.YtomekmhonfofkaaGreat
namespace Go.Proofs.YtomekmhonfofkaaGreat
open Go.RowKit
set_option linter.unusedVariables false
set_option maxRecDepth 100000
set_option linter.unusedSimpArgs false

theorem off_jor {l : List (Int × Int)} {p : Int × Int} (hoff : onK l p l.length = false) : Jor.Off (wayQ l (List.range l.length)) (toQ p) := fun e he o => by
  rw [eds_way, List.mem_map] at he
  obtain ⟨i, hi, rfl⟩ := he
  have := onK_any l.length hoff i (List.mem_range.1 hi)
  rw [on_toQ, this] at o
  cases o
theorem pAt_gpt {l : List (Int × Int)} (h : wayB l = true) {i : Nat} (hi : i < l.length) : gPt (pAt l (i : Int)) = true := by
  unfold wayB at h
  simp only [Bool.and_eq_true] at h
  unfold pAt
  rw [Int.toNat_natCast, List.getD_eq_getElem?_getD, List.getElem?_eq_getElem hi]
  exact List.all_eq_true.1 h.2 _ (List.getElem_mem _)
/-- A point off a simple way is within it just if one of its triangles has it. -/
theorem tri_inside {l : List (Int × Int)} {q : Int × Int} (h : ipB l = true) (ho : offB l q = true) :
    (∀ x ∈ trV l, itB (pAt l x.1) (pAt l x.2.1) (pAt l x.2.2) q = true) ∧ (inV l q true = true ↔ ∃ x ∈ trV l, itV (pAt l x.1) (pAt l x.2.1) (pAt l x.2.2) q = true) := by
  have p := ip_parts h
  have w3 := (way_parts p.1).1.1
  have G := goodL_of w3 p.2
  have h0 := ho
  unfold offB gWP at h0
  simp only [Bool.and_eq_true, Bool.not_eq_true'] at h0
  obtain ⟨⟨hw, hq⟩, hk⟩ := h0
  have et : trV l = cutL l (sgZ (arS l l.length)) (l.length - 3) (List.range l.length) := by unfold trV; rw [h]; rfl
  have cs := cut_sum (l := l) (t := sgZ (arS l l.length)) (l.length - 3) (List.range l.length) (by rw [List.length_range]; omega) G
  have th := tri_has (l := l) (t := sgZ (arS l l.length)) (q := q) (l.length - 3) (List.range l.length) (by rw [List.length_range]; omega) G (off_jor hk)
  rw [wn_way, ← et] at th
  rw [← et] at cs
  have w1 := wind_once w3 p.2 hk
  have t0 : sgZ (arS l l.length) = 1 ∨ sgZ (arS l l.length) = -1 := by
    unfold sgZ
    rcases w1 with ⟨a, _⟩ | ⟨a, _⟩
    · left; rw [if_pos a]
    · right; rw [if_neg (by omega), if_pos a]
  have hb : ∀ x ∈ trV l, itB (pAt l x.1) (pAt l x.2.1) (pAt l x.2.2) q = true := fun x hx => by
    obtain ⟨i, j, k, e, ⟨hi, hj, hk'⟩, _⟩ := col_facts h x hx
    have c := cs.2 x hx
    unfold tcr at c
    have s : (sgZ (crs (pAt l x.1) (pAt l x.2.1) (pAt l x.2.2)) == 0) = false := by
      rw [c]
      rcases t0 with t0 | t0 <;> rw [t0] <;> rfl
    unfold itB
    rw [s, e]
    simp only [List.all_cons, List.all_nil, pAt_gpt p.1 hi, pAt_gpt p.1 hj, pAt_gpt p.1 hk', hq]
    rfl
  refine ⟨hb, ?_⟩
  have ev : ∀ x ∈ trV l, itV (pAt l x.1) (pAt l x.2.1) (pAt l x.2.2) q = tin l x q := fun x hx => by
    unfold itV tin
    rw [hb x hx, Bool.true_and]
  have r : (∃ x ∈ trV l, itV (pAt l x.1) (pAt l x.2.1) (pAt l x.2.2) q = true) ↔ wiS l q l.length = sgZ (arS l l.length) := by
    rw [th]
    constructor
    · rintro ⟨x, hx, hv⟩; exact ⟨x, hx, by rw [← ev x hx]; exact hv⟩
    · rintro ⟨x, hx, hv⟩; exact ⟨x, hx, by rw [ev x hx]; exact hv⟩
  rw [r]
  unfold inV
  rw [if_pos ho, if_pos rfl]
  obtain ⟨m, hm⟩ := cr_wi l q l.length
  rw [beq_iff_eq]
  have sg : (arS l l.length > 0 → sgZ (arS l l.length) = 1) ∧ (arS l l.length < 0 → sgZ (arS l l.length) = -1) := by
    unfold sgZ
    exact ⟨fun a => if_pos a, fun a => by rw [if_neg (by omega), if_pos a]⟩
  have cr0 : 0 ≤ crS l q l.length := by
    have : ∀ k, 0 ≤ crS l q k := fun k => by
      induction k with
      | zero => exact Int.le_refl _
      | succ k ih =>
        have t : 0 ≤ crT (l.getD k (0, 0)) (nxt l k) q := by unfold crT; split <;> omega
        show 0 ≤ crS l q k + crT (l.getD k (0, 0)) (nxt l k) q
        omega
    exact this _
  have tm : (crS l q l.length).tmod 2 = crS l q l.length % 2 := Int.tmod_eq_emod_of_nonneg cr0
  rw [tm]
  rcases w1 with ⟨a, e | e⟩ | ⟨a, e | e⟩
  · rw [sg.1 a, e]; omega
  · rw [sg.1 a, e]; omega
  · rw [sg.2 a, e]; omega
  · rw [sg.2 a, e]; omega
/-- What the law holds of a simple way. -/
theorem tri_one {l : List (Int × Int)} (h : ipB l = true) : itgV l (trV l) = true ∧ 2 ≤ (eaV l).length ∧ (trV l).length + 2 = l.length := by
  refine ⟨tri_is h, ears_two h, ?_⟩
  have p := ip_parts h
  have w3 := (way_parts p.1).1.1
  have et : trV l = cutL l (sgZ (arS l l.length)) (l.length - 3) (List.range l.length) := by unfold trV; rw [h]; rfl
  rw [et, cutL_len]
  omega
theorem tri_two {l : List (Int × Int)} (h : ipB l = true) : ∀ x ∈ trV l, ∃ i j k : Nat, x = ((i : Int), (j : Int), (k : Int)) ∧ (i < l.length ∧ j < l.length ∧ k < l.length) := fun x hx => by
  obtain ⟨i, j, k, e, hl, _⟩ := col_facts h x hx
  exact ⟨i, j, k, e, hl⟩
end Go.Proofs.YtomekmhonfofkaaGreat
namespace Go.Proofs.YtomekmhonfofkaaGreat
open Go.RowKit
set_option linter.unusedVariables false
set_option maxRecDepth 100000
set_option linter.unusedSimpArgs false

/-- What c.simple() tells: a way in memory behind the cursor's, and the cursor. -/
def SmD2 (C T : Nat) (w : World) (e : Ending) (w' : World) : Prop := ∃ (a : Option Addr) (n c : Nat) (l : List (Int × Int)), e = .returned (.slice a n c) ∧ ArP w' a n c l ∧ n ≤ 1000 ∧ But C (C + 1) w w' ∧ (∃ G, a = some ⟨G, 0, none⟩ ∧ C < G) ∧ Cur C (T + 1300) w'
set_option maxHeartbeats 8000000 in
theorem simple_v2 (C T : Nat) (w : World) (h : Cur C T w) (hT : T ≤ 100000) :
    Calls Tryz.prog 38 #[.pointer (some ⟨C, 0, none⟩)] w (SmD2 C T w) := by
  have ltC := h.lt
  have CU : Hid (Cur C (T + 300 * 0) w) := hide h
  have BT : Hid (But C (C + 1) w w) := hide (But.refl _ _ _)
  clear h
  go_enter Tryz.func38, Tryz.ntmps38
  go_wp2_with fail
  go_loopw [3] (fun tv wr => ∃ k : Nat, k ≤ 3 ∧ tv = .int .i64 k ∧ Hid (Cur C (T + 300 * k) wr) ∧ Hid (But C (C + 1) w wr)) (fun tv _ => 3 - (intOf tv).toNat)
  case atStart => exact ⟨0, by omega, rfl, CU, BT⟩
  case round =>
    clear CU BT
    obtain ⟨k, hk, rfl, CU, BT⟩ := hrel
    have ltr := (unhide CU).lt
    by_cases hlt : k < 3
    · have hlt' : (k : Int) < 3 := by omega
      go_wp2_with fail
      refine (way_v C (T + 300 * k) _ (unhide CU) (by omega)).mono ?_
      rintro e w1 ⟨a1, m1, c1', l, rfl, ar, nr, hm, at_, c1, bt⟩
      replace CU := hide c1
      replace BT := hide ((unhide BT).trans bt)
      have AR := hide ar
      have AT : Hid (∃ G, a1 = some ⟨G, 0, none⟩ ∧ C < G) := hide (by obtain ⟨G, e, h⟩ := at_; exact ⟨G, e, by omega⟩)
      have CW := hide (isV_way (l := l))
      have TS := hide (tv_some (l := l))
      have LN := hide ar.len
      have CT := hide (fun w (k : ArP w a1 m1 c1' l) => TurnAllS a1 m1 c1' l w k (by omega))
      have CS := hide (fun w (k : ArP w a1 m1 c1' l) => IsSimpleS a1 m1 c1' l w k (by omega))
      clear ar nr at_ c1 bt
      go_wp2_with fail
      refine (unhide CS _ (unhide AR)).mono ?_
      rintro e w2 ⟨rfl, hb⟩
      replace CU := hide ((unhide CU).later hb)
      replace BT := hide ((unhide BT).trans (But.of_below hb))
      replace AR := hide ((unhide AR).later hb)
      clear hb CS
      cases hi : isV l
      · go_wp2_with fail
        go_roundw
        case rel => exact ⟨k + 1, by omega, by go_num, hide ((unhide CU).mono (by omega)), BT⟩
        case measure => simp [intOf]; omega
      · have hw := unhide CW hi
        rw [hw] at CT ⊢
        have TS1 := unhide TS hw
        clear CW TS hw hi
        go_wp2_with fail
        refine (one_v C (T + 300 * k + 200) 3 _ (unhide CU) (by omega) (by omega)).mono ?_
        rintro e w3 ⟨b, rfl, c3, bt⟩
        replace BT := hide ((unhide BT).trans bt)
        have AR3 := hide (ar_but8 (unhide AR) bt (unhide AT))
        have C3 := hide c3
        clear AR bt c3 CU
        cases b
        · go_wp2_with fail
          go_ret
          exact ⟨a1, m1, c1', l, rfl, unhide AR3, by omega, unhide BT, unhide AT, (unhide C3).mono (by omega)⟩
        · go_wp2_with fail
          refine (unhide CT _ (unhide AR3)).mono ?_
          rintro e w4 ⟨a2, n2, c2, rfl, hb, rt, h2⟩
          have RL := hide rt.len
          replace BT := hide ((unhide BT).trans (But.of_below hb))
          have AR4 := hide (rt_ar rt (by rw [← rt.len]; omega))
          have AT4 : Hid (∃ G, a2 = some ⟨G, 0, none⟩ ∧ C < G) := hide (by
            have lt := (unhide C3).lt
            rcases rt.own with e0 | ⟨G, e1, e2, _⟩
            · have := rt.len; omega
            · exact ⟨G, e1, by omega⟩)
          replace C3 := hide ((unhide C3).later hb)
          clear rt hb CT
          go_wp2_with fail
          go_ret
          exact ⟨a2, n2, c2, tvV l, rfl, unhide AR4, by have := unhide RL; have := unhide LN; omega, unhide BT, unhide AT4, (unhide C3).mono (by omega)⟩
    · obtain rfl : k = 3 := by omega
      go_wp2_with fail
      refine (way_v C (T + 300 * 3) _ (unhide CU) (by omega)).mono ?_
      rintro e w1 ⟨a1, m1, c1', l, rfl, ar, nr, hm, at_, c1, bt⟩
      replace BT := hide ((unhide BT).trans bt)
      have AR := hide ar
      have C1 := hide c1
      have ltc := (unhide CU).lt
      have AT1 : Hid (∃ G, a1 = some ⟨G, 0, none⟩ ∧ C < G) := hide (by obtain ⟨G, e, h⟩ := at_; exact ⟨G, e, by omega⟩)
      clear ar nr at_ c1 bt CU
      go_wp2_with fail
      go_ret
      exact ⟨a1, m1, c1', l, rfl, unhide AR, by omega, unhide BT, unhide AT1, (unhide C1).mono (by omega)⟩
theorem drawTr (a : Option Addr) (n c : Nat) (w : World) (h : ArY w a n) :
    Calls Tryz.prog 4 #[.slice a n c] w (OutS11 w) := by
  have H := hide h
  clear h
  go_enter Tryz.func4, Tryz.ntmps4
  go_wp2_with fail
  refine (drawEO a n c _ (unhide H)).mono ?_
  rintro e w1 ⟨a1, m1, c1, l, rfl, ar, hm, hb⟩
  have AR := hide ar
  clear ar
  go_wp2_with fail
  go_ret
  exact ⟨a1, m1, c1, l, rfl, unhide AR, hm, hb⟩
set_option maxHeartbeats 4000000 in
theorem drawIT (a : Option Addr) (n c : Nat) (w : World) (h : ArY w a n) :
    Calls Tryz.prog 17 #[.slice a n c] w (OutSM w) := by
  have B0 : Below w.heap.size w ((((w.alloc (.cells #[.int .i64 0, .int .i64 0] 37)).alloc (.cells #[.int .i64 0, .int .i64 0] 37)).alloc (.cells #[.int .i64 0, .int .i64 0] 37)).alloc (.cells #[.int .i64 0, .int .i64 0] 37)) := (((((Below.refl _ _).alloc (Nat.le_refl _) _).alloc (by simp) _).alloc (by simp; omega) _).alloc (by simp; omega) _)
  have H := hide (h.later B0)
  have BW := hide B0
  have s0 : w.heap.size + 4 ≤ ((((w.alloc (.cells #[.int .i64 0, .int .i64 0] 37)).alloc (.cells #[.int .i64 0, .int .i64 0] 37)).alloc (.cells #[.int .i64 0, .int .i64 0] 37)).alloc (.cells #[.int .i64 0, .int .i64 0] 37)).heap.size := by simp
  clear h B0
  have z0 : w.heap.size = w.heap.size := by simp
  have R0 : Hid (BxP ((((w.alloc (.cells #[.int .i64 0, .int .i64 0] 37)).alloc (.cells #[.int .i64 0, .int .i64 0] 37)).alloc (.cells #[.int .i64 0, .int .i64 0] 37)).alloc (.cells #[.int .i64 0, .int .i64 0] 37)) (w.heap.size) 0 0) := hide (z0 ▸ (((BxP.new.later ((Below.refl _ _).alloc (Nat.le_refl _) _)).later ((Below.refl _ _).alloc (Nat.le_refl _) _)).later ((Below.refl _ _).alloc (Nat.le_refl _) _)))
  clear z0
  have z1 : (w.alloc (.cells #[.int .i64 0, .int .i64 0] 37)).heap.size = w.heap.size + 1 := by simp
  have R1 : Hid (BxP ((((w.alloc (.cells #[.int .i64 0, .int .i64 0] 37)).alloc (.cells #[.int .i64 0, .int .i64 0] 37)).alloc (.cells #[.int .i64 0, .int .i64 0] 37)).alloc (.cells #[.int .i64 0, .int .i64 0] 37)) (w.heap.size + 1) 0 0) := hide (z1 ▸ ((BxP.new.later ((Below.refl _ _).alloc (Nat.le_refl _) _)).later ((Below.refl _ _).alloc (Nat.le_refl _) _)))
  clear z1
  have z2 : ((w.alloc (.cells #[.int .i64 0, .int .i64 0] 37)).alloc (.cells #[.int .i64 0, .int .i64 0] 37)).heap.size = w.heap.size + 1 + 1 := by simp
  have R2 : Hid (BxP ((((w.alloc (.cells #[.int .i64 0, .int .i64 0] 37)).alloc (.cells #[.int .i64 0, .int .i64 0] 37)).alloc (.cells #[.int .i64 0, .int .i64 0] 37)).alloc (.cells #[.int .i64 0, .int .i64 0] 37)) (w.heap.size + 1 + 1) 0 0) := hide (z2 ▸ (BxP.new.later ((Below.refl _ _).alloc (Nat.le_refl _) _)))
  clear z2
  have z3 : (((w.alloc (.cells #[.int .i64 0, .int .i64 0] 37)).alloc (.cells #[.int .i64 0, .int .i64 0] 37)).alloc (.cells #[.int .i64 0, .int .i64 0] 37)).heap.size = w.heap.size + 1 + 1 + 1 := by simp
  have R3 : Hid (BxP ((((w.alloc (.cells #[.int .i64 0, .int .i64 0] 37)).alloc (.cells #[.int .i64 0, .int .i64 0] 37)).alloc (.cells #[.int .i64 0, .int .i64 0] 37)).alloc (.cells #[.int .i64 0, .int .i64 0] 37)) (w.heap.size + 1 + 1 + 1) 0 0) := hide (z3 ▸ BxP.new)
  clear z3
  go_enter Tryz.func17, Tryz.ntmps17
  go_wp2_with fail
  refine (drawSM a n c _ (unhide H)).mono ?_
  rintro e w4 ⟨p, q, r, s, rfl, nr, hb⟩
  have s4 := hb.size
  replace BW := hide (below_on (unhide BW) hb)
  replace R0 := hide ((unhide R0).later hb)
  replace R1 := hide ((unhide R1).later hb)
  replace R2 := hide ((unhide R2).later hb)
  replace R3 := hide ((unhide R3).later hb)
  have NR := hide nr
  clear hb nr H
  have r00 := (unhide R0).c0
  have r01 := (unhide R0).c1
  have rf0 := (unhide R0).fz
  have r10 := (unhide R1).c0
  have r11 := (unhide R1).c1
  have rf1 := (unhide R1).fz
  have r20 := (unhide R2).c0
  have r21 := (unhide R2).c1
  have rf2 := (unhide R2).fz
  have r30 := (unhide R3).c0
  have r31 := (unhide R3).c1
  have rf3 := (unhide R3).fz
  clear R0 R1 R2 R3
  have F0 := hide ((unhide BW).trans (set_below8 (w := w4) (G := w.heap.size) (u := .int .i64 p.1) (v := .int .i64 p.2) (Nat.le_refl _) (by omega)))
  have e1 : ((w4.setCell ⟨w.heap.size, 0, none⟩ (.int .i64 p.1)).setCell ⟨w.heap.size, 1, none⟩ (.int .i64 p.2)).heap.size = w4.heap.size := by simp
  have F1 := hide ((unhide F0).trans (set_below8 (G := w.heap.size + 1) (u := .int .i64 q.1) (v := .int .i64 q.2) (by omega) (by rw [e1]; omega)))
  have e2 : ((((w4.setCell ⟨w.heap.size, 0, none⟩ (.int .i64 p.1)).setCell ⟨w.heap.size, 1, none⟩ (.int .i64 p.2)).setCell ⟨w.heap.size + 1, 0, none⟩ (.int .i64 q.1)).setCell ⟨w.heap.size + 1, 1, none⟩ (.int .i64 q.2)).heap.size = w4.heap.size := by simp
  have F2 := hide ((unhide F1).trans (set_below8 (G := w.heap.size + 1 + 1) (u := .int .i64 r.1) (v := .int .i64 r.2) (by omega) (by rw [e2]; omega)))
  have e3 : ((((((w4.setCell ⟨w.heap.size, 0, none⟩ (.int .i64 p.1)).setCell ⟨w.heap.size, 1, none⟩ (.int .i64 p.2)).setCell ⟨w.heap.size + 1, 0, none⟩ (.int .i64 q.1)).setCell ⟨w.heap.size + 1, 1, none⟩ (.int .i64 q.2)).setCell ⟨w.heap.size + 1 + 1, 0, none⟩ (.int .i64 r.1)).setCell ⟨w.heap.size + 1 + 1, 1, none⟩ (.int .i64 r.2)).heap.size = w4.heap.size := by simp
  have F3 := hide ((unhide F2).trans (set_below8 (G := w.heap.size + 1 + 1 + 1) (u := .int .i64 s.1) (v := .int .i64 s.2) (by omega) (by rw [e3]; omega)))
  clear e1 e2 e3 F0 F1 F2 BW s0 s4
  go_wp2_with fail
  refine bodyPost_ret (v := .tuple #[.agg #[.int .i64 p.1, .int .i64 p.2], .agg #[.int .i64 q.1, .int .i64 q.2], .agg #[.int .i64 r.1, .int .i64 r.2], .agg #[.int .i64 s.1, .int .i64 s.2]]) (by simp [results, Tryz.results17, go_sem, r00, r01, r10, r11, r20, r21, r30, r31]) rfl ?_
  exact ⟨p, q, r, s, rfl, unhide NR, unhide F3⟩
set_option maxHeartbeats 2000000 in
theorem number_v (a : Option Addr) (n c : Nat) (w : World) (h : ArY w a n) :
    Calls Tryz.prog 12 #[.slice a n c] w fun e w' => ∃ v : Int, e = .returned (.int .i64 v) ∧ Below w.heap.size w w' := by
  have HS := hide h.sb
  have hm := h.top
  clear h
  go_enter Tryz.func12, Tryz.ntmps12
  go_wp2_with fail
  go_loopw [3, 8] (fun vv iv wr => ∃ (i : Nat) (v : Int), i ≤ n ∧ vv = .int .i64 v ∧ iv = .int .i64 i ∧ wr = w) (fun _ iv _ => n - (intOf iv).toNat)
  case atStart => exact ⟨0, 0, Nat.zero_le _, rfl, rfl, rfl⟩
  case round =>
    obtain ⟨i, v, hi, rfl, rfl, rfl⟩ := hrel
    by_cases hlt : i < n
    · have hlt' : (i : Int) < (n : Int) := by omega
      rcases unhide HS with e | ⟨b, off, rfl, hb, hc⟩
      · omega
      obtain ⟨x, x0, x1, hx⟩ := hc i hlt
      clear hc
      go_wp2_with fail
      go_roundw
      case rel => exact ⟨i + 1, _, by omega, rfl, by go_num, trivial⟩
      case measure => simp [intOf]; omega
    · obtain rfl : i = n := by omega
      go_wp2_with fail
      go_ret
      exact ⟨_, rfl, Below.refl _ _⟩
set_option maxHeartbeats 4000000 in
theorem sameTris_v (a a' : Option Addr) (n c c' : Nat) (l : List (Int × Int × Int)) (w : World) (h : SlT w a l) (h' : SlT w a' l) (hn : l.length = n) (hm : n ≤ 1048576) :
    Calls Tryz.prog 9 #[.slice a n c, .slice a' n c'] w fun e w' => e = .returned (.bool true) ∧ Below w.heap.size w w' := by
  have HS := hide h
  have HS' := hide h'
  have HN := hide hn
  have nn : ((n : Int) != (n : Int)) = false := by simp
  clear h hn h'
  go_enter Tryz.func9, Tryz.ntmps9
  go_wp2
  go_loopw [13] (fun iv wr => ∃ (i : Nat), i ≤ n ∧ iv = .int .i64 i ∧ Hid (Below w.heap.size w wr)) (fun iv _ => n - (intOf iv).toNat)
  case atStart => exact ⟨0, Nat.zero_le _, rfl, hide (Below.refl _ _)⟩
  case round =>
    obtain ⟨i, hi, rfl, HB⟩ := hrel
    by_cases hlt : i < n
    · have hlt' : (i : Int) < (n : Int) := by omega
      rcases (unhide HS) with e | ⟨b, off, rfl, hb, hc⟩
      · exact absurd (unhide HN) (by rw [e]; simp; omega)
      have e0 := hc i (by rw [unhide HN]; exact hlt)
      rcases (unhide HS') with e | ⟨b', off', rfl, hb', hc'⟩
      · exact absurd (unhide HN) (by rw [e]; simp; omega)
      have f0 := hc' i (by rw [unhide HN]; exact hlt)
      obtain ⟨y, hy⟩ : ∃ y, y = l[i]'(by rw [unhide HN]; exact hlt) := ⟨_, rfl⟩
      rw [← hy] at e0 f0
      clear hy hc hc'
      have E0 : wr.cell? ⟨b, off + i * 3, none⟩ = some (.int .i64 y.1) := ((unhide HB).cell (p := ⟨b, off + i * 3, none⟩) hb).trans (e0.1)
      have E1 : wr.cell? ⟨b, off + i * 3 + 1, none⟩ = some (.int .i64 y.2.1) := ((unhide HB).cell (p := ⟨b, off + i * 3 + 1, none⟩) hb).trans (e0.2.1)
      have E2 : wr.cell? ⟨b, off + i * 3 + 2, none⟩ = some (.int .i64 y.2.2) := ((unhide HB).cell (p := ⟨b, off + i * 3 + 2, none⟩) hb).trans (e0.2.2)
      have F0 : wr.cell? ⟨b', off' + i * 3, none⟩ = some (.int .i64 y.1) := ((unhide HB).cell (p := ⟨b', off' + i * 3, none⟩) hb').trans (f0.1)
      have F1 : wr.cell? ⟨b', off' + i * 3 + 1, none⟩ = some (.int .i64 y.2.1) := ((unhide HB).cell (p := ⟨b', off' + i * 3 + 1, none⟩) hb').trans (f0.2.1)
      have F2 : wr.cell? ⟨b', off' + i * 3 + 2, none⟩ = some (.int .i64 y.2.2) := ((unhide HB).cell (p := ⟨b', off' + i * 3 + 2, none⟩) hb').trans (f0.2.2)
      have q1 : (y.1 == y.1) = true := by simp
      have q2 : (y.2.1 == y.2.1) = true := by simp
      have q3 : (y.2.2 == y.2.2) = true := by simp
      clear e0 f0
      go_upto_region 6 with fail
      go_region
      clear E0 F0 E1 F1 E2 F2
      go_wp2
      go_roundw
      case rel => exact ⟨i + 1, by omega, by go_num, hide (unhide HB).drew⟩
      case measure => simp [intOf]; omega
    · obtain rfl : i = n := by omega
      go_wp2
      go_ret
      exact ⟨rfl, unhide HB⟩
theorem trV_le (l : List (Int × Int)) : (trV l).length ≤ l.length := by
  cases h : ipB l
  · have e : trV l = [] := by unfold trV; rw [h]; rfl
    rw [e]
    exact Nat.zero_le _
  · have := (tri_one h).2.2
    omega
theorem arP_set {w : World} {a : Option Addr} {n c G o : Nat} {v : Value} {l : List (Int × Int)} (h : ArP w a n c l) (hl : l = [] ∨ ∃ b off, a = some ⟨b, off, none⟩ ∧ b ≠ G) : ArP (w.setCell ⟨G, o, none⟩ v) a n c l := by
  refine ⟨?_, h.len, h.cap, h.top⟩
  rcases hl with e | ⟨b', off', e', hne⟩
  · exact .inl e
  · rcases h.sl with e | ⟨b, off, e, hb, hc⟩
    · exact .inl e
    · rw [e'] at e
      simp only [Option.some.injEq, Addr.mk.injEq, and_true] at e
      obtain ⟨rfl, rfl⟩ := e
      exact .inr ⟨b', off', e', by simpa using hb, fun i hi => ⟨cs_other (hc i hi).1 hne, cs_other (hc i hi).2 hne⟩⟩
/-- A way and triangles that are drawn. -/
def OutIT (w : World) (e : Ending) (w' : World) : Prop := ∃ (a : Option Addr) (n c : Nat) (l : List (Int × Int)) (b : Option Addr) (m d : Nat) (T : List (Int × Int × Int)), e = .returned (.tuple #[.slice a n c, .slice b m d]) ∧ ArP w' a n c l ∧ n ≤ 1000 ∧ SlA w' b m T ∧ m ≤ 1048576 ∧ Below w.heap.size w w'
theorem rt_arT {B : Nat} {w : World} {a : Option Addr} {n c : Nat} {l : List (Int × Int × Int)} (h : RtT B w a n c l) (h0 : 0 < n) : ArT w a n c l := by
  rcases h.own with h1 | ⟨G, rfl, _, ho⟩
  · omega
  · exact ho.arg
theorem arT_set {w : World} {G n c k : Nat} {l : List (Int × Int × Int)} {v : Int} (h : OwT w G n c l) (hk : k < n) : ArT (w.setCell ⟨G, k * 3, none⟩ (.int .i64 v)) (some ⟨G, 0, none⟩) n c (l.set k (v, (l.getD k (0, 0, 0)).2)) := by
  have a := h.arg
  refine ⟨?_, by rw [List.length_set]; exact a.len, a.cap, a.top⟩
  rcases a.sl with e | ⟨b, off, e, hb, hc⟩
  · left; rw [e]; rfl
  · simp only [Option.some.injEq, Addr.mk.injEq, and_true] at e
    obtain ⟨rfl, rfl⟩ := e
    have hl : k < l.length := by rw [a.len]; exact hk
    refine .inr ⟨G, 0, rfl, by simpa using hb, fun i hi => ?_⟩
    have hi' : i < l.length := by simpa using hi
    have c0 := hc i hi'
    simp only [Nat.zero_add] at c0 ⊢
    by_cases e : i = k
    · subst e
      rw [List.getElem_set_self]
      have g : l.getD i (0, 0, 0) = l[i] := by rw [List.getD_eq_getElem?_getD, List.getElem?_eq_getElem hi']; rfl
      rw [g]
      exact ⟨by simp [go_sem, c0.1], by simp [go_sem, c0.2.1], by simp [go_sem, c0.2.2]⟩
    · rw [List.getElem_set_ne (Ne.symm e)]
      have n0 : k * 3 ≠ i * 3 := by omega
      have n1 : k * 3 ≠ i * 3 + 1 := by omega
      have n2 : k * 3 ≠ i * 3 + 2 := by omega
      exact ⟨by simp [go_sem, c0.1, n0, Ne.symm n0], by simp [go_sem, c0.2.1, n1, Ne.symm n1], by simp [go_sem, c0.2.2, n2, Ne.symm n2]⟩
theorem owT_cell {w : World} {G n c k : Nat} {l : List (Int × Int × Int)} (h : OwT w G n c l) (hk : k < n) : ∃ x, w.cell? ⟨G, k * 3, none⟩ = some x := by
  rcases h.arg.sl with e | ⟨b, off, e, hb, hc⟩
  · have := h.len; rw [e] at this; simp at this; omega
  · simp only [Option.some.injEq, Addr.mk.injEq, and_true] at e
    obtain ⟨rfl, rfl⟩ := e
    have c0 := (hc k (by rw [h.arg.len]; exact hk)).1
    simp only [Nat.zero_add] at c0
    exact ⟨_, c0⟩
theorem owT_fz {w : World} {G n c o : Nat} {l : List (Int × Int × Int)} (h : OwT w G n c l) : w.frozen? ⟨G, o, none⟩ = false := by
  obtain ⟨M, hr, _⟩ := h.row
  exact hr.frozenAt o
set_option maxHeartbeats 8000000 in
theorem drawIsT (a : Option Addr) (n c : Nat) (w : World) (h : ArY w a n) :
    Calls Tryz.prog 15 #[.slice a n c] w (OutIT w) := by
  have CU : Hid (Cur (w.heap.size) 0 (w.alloc (.cells #[.slice a n c, .int .i64 0, .int .u64 0] 68))) := hide (Cur.new (w := w) h)
  have BW : Hid (Below w.heap.size w (w.alloc (.cells #[.slice a n c, .int .i64 0, .int .u64 0] 68))) := hide ((Below.refl _ _).alloc (Nat.le_refl _) _)
  have s0 : w.heap.size + 1 ≤ (w.alloc (.cells #[.slice a n c, .int .i64 0, .int .u64 0] 68)).heap.size := by simp
  clear h
  go_enter Tryz.func15, Tryz.ntmps15
  go_wp2_with fail
  refine (simple_v2 (w.heap.size) 0 _ (unhide CU) (by omega)).mono ?_
  rintro e w1 ⟨a1, m1, c1, l, rfl, ar, hm, bt, at_, cu⟩
  have BW2 := hide (bt.below (unhide BW) (by omega) (by omega))
  have s1 := Nat.le_trans s0 bt.size
  have AR := hide ar
  have AT := hide at_
  have BL : Hid (l = [] ∨ ∃ b off, a1 = some ⟨b, off, none⟩ ∧ b < w1.heap.size) := hide ((unhide AR).sl.imp_right (fun ⟨b, off, e, hb, _⟩ => ⟨b, off, e, hb⟩))
  replace CU := hide cu
  clear ar BW bt s0 at_ cu
  have BW := BW2
  clear BW2
  go_wp2_with fail
  refine (TriangulateS a1 m1 c1 l _ (unhide AR) (by omega)).mono ?_
  rintro e w2 ⟨a2, n2, c2, rfl, hb, rt, h2⟩
  have s2 := hb.size
  replace BW := hide (below_on (unhide BW) hb)
  replace CU := hide ((unhide CU).later hb)
  replace AR := hide ((unhide AR).later hb)
  have RT := hide rt
  have tvl := trV_le l
  have nl : n2 ≤ 1000 := by have h3 := rt.len; have h4 := (unhide AR).len; omega
  clear tvl
  generalize ipB l = ok at *
  generalize trV l = TV at *
  clear hb rt
  by_cases z : n2 = 0
  · subst z
    have EN : Hid (SlA w2 a2 0 []) := hide ⟨.inl rfl, rfl⟩
    clear RT CU
    go_wp2_with fail
    go_ret2
    exact ⟨a1, m1, c1, l, a2, 0, c2, [], rfl, unhide AR, hm, unhide EN, by omega, unhide BW⟩
  · have zp : (0 : Int) < (n2 : Int) := by omega
    have z0 : 0 < n2 := by omega
    obtain ⟨G, rfl, hG, ow⟩ : ∃ G, a2 = some ⟨G, 0, none⟩ ∧ w1.heap.size ≤ G ∧ OwT w2 G n2 c2 TV := by
      rcases (unhide RT).own with e | k
      · exact absurd e z
      · exact k
    have OW := hide ow
    clear ow RT
    go_wp2_with fail
    refine (one_v (w.heap.size) 1300 3 _ (unhide CU) (by omega) (by omega)).mono ?_
    rintro e w3 ⟨bb, rfl, cu, bt⟩
    replace CU := hide cu
    replace BW := hide (bt.below (unhide BW) (by omega) (by omega))
    replace AR := hide (ar_but8 (unhide AR) bt (unhide AT))
    replace OW := hide ((unhide OW).keep bt (.inr (by omega)))
    have s3 := bt.size
    clear cu bt
    cases bb
    · go_wp2_with fail
      go_ret2
      exact ⟨a1, m1, c1, l, _, n2, c2, TV, rfl, unhide AR, hm, ⟨(unhide OW).arg.sl, (unhide OW).arg.len⟩, h2, unhide BW⟩
    · go_wp2_with fail
      refine (pick_v (w.heap.size) 1302 (n2 : Int) _ (unhide CU) (by omega) (by omega)).mono ?_
      rintro e w4 ⟨x, rfl, x0, x1, x2, cu, bt⟩
      replace CU := hide cu
      replace BW := hide (bt.below (unhide BW) (by omega) (by omega))
      replace AR := hide (ar_but8 (unhide AR) bt (unhide AT))
      replace OW := hide ((unhide OW).keep bt (.inr (by omega)))
      have s4 := bt.size
      clear cu bt
      obtain ⟨k, rfl⟩ : ∃ k : Nat, x = (k : Int) := ⟨x.toNat, by omega⟩
      have hk : k < n2 := by have := x1 (by omega); omega
      go_wp2_with fail
      refine (pick_v (w.heap.size) 1304 9 _ (unhide CU) (by omega) (by omega)).mono ?_
      rintro e w5 ⟨y, rfl, y0, y1, y2, cu, bt⟩
      replace BW := hide (bt.below (unhide BW) (by omega) (by omega))
      replace AR := hide (ar_but8 (unhide AR) bt (unhide AT))
      replace OW := hide ((unhide OW).keep bt (.inr (by omega)))
      have s5 := bt.size
      have iw : IntKind.i64.wrap (y - 1) = y - 1 := by rw [IntKind.wrap_i64]; omega
      have kk : (k : Int) < (n2 : Int) := by omega
      have k0 : (0 : Int) ≤ (k : Int) := by omega
      obtain ⟨old, ho⟩ := owT_cell (unhide OW) hk
      have hf := owT_fz (o := k * 3) (unhide OW)
      have A2 := hide (arT_set (v := y - 1) (unhide OW) hk)
      have hG1 : w.heap.size ≤ G := by omega
      have B3 : Hid (Below w.heap.size w (w5.setCell ⟨G, k * 3, none⟩ (.int .i64 (y - 1)))) := hide ((unhide BW).setCell (p := ⟨G, k * 3, none⟩) hG1 _)
      have AR3 := hide (arP_set (G := G) (o := k * 3) (v := .int .i64 (y - 1)) (unhide AR) (unhide BL |>.imp_right (fun ⟨b, off, e, hb⟩ => ⟨b, off, e, by omega⟩)))
      clear cu bt x0 x1 x2 y0 y1 y2 CU
      go_wp2_with fail
      go_ret2
      exact ⟨a1, m1, c1, l, _, n2, c2, _, rfl, unhide AR3, hm, ⟨(unhide A2).sl, (unhide A2).len⟩, h2, unhide B3⟩
end Go.Proofs.YtomekmhonfofkaaGreat
namespace Go.Proofs.YtomekmhonfofkaaGreat
open Go.RowKit
set_option linter.unusedVariables false
set_option maxRecDepth 100000
set_option linter.unusedSimpArgs false

def stT (x y : Int × Int) : TypeId := if x.2 < y.2 then 102 else if y.2 < x.2 then 103 else 104
/-- A stretch as it lies in a cell. -/
def stV (x y : Int × Int) : Value := .iface (stT x y) (.agg #[.int .i64 x.1, .int .i64 x.2, .int .i64 y.1, .int .i64 y.2])
set_option maxHeartbeats 1000000 in
theorem stretchI (x y : Int × Int) (w : World) :
    Calls Tryz.prog 81 #[.agg #[.int .i64 x.1, .int .i64 x.2, .int .i64 y.1, .int .i64 y.2]] w fun e w' => e = .returned (stV x y) ∧ Below w.heap.size w w' := by
  have B0 := hide (show Below w.heap.size w (w.alloc (.cells #[.int .i64 x.1, .int .i64 x.2, .int .i64 y.1, .int .i64 y.2] 94)) from (Below.refl _ _).alloc (by simp) _)
  have HU := hide (show stV x y = .iface (stT x y) (.agg #[.int .i64 x.1, .int .i64 x.2, .int .i64 y.1, .int .i64 y.2]) from rfl)
  generalize stV x y = v at *
  by_cases h1 : x.2 < y.2
  · have E : Hid (stT x y = 102) := hide (by unfold stT; rw [if_pos h1])
    go_enter Tryz.func81, Tryz.ntmps81
    go_wp2
    go_ret
    exact ⟨by rw [unhide HU, unhide E]; rfl, unhide B0⟩
  · by_cases h2 : y.2 < x.2
    · have E : Hid (stT x y = 103) := hide (by unfold stT; rw [if_neg h1, if_pos h2])
      go_enter Tryz.func81, Tryz.ntmps81
      go_wp2
      go_ret
      exact ⟨by rw [unhide HU, unhide E]; rfl, unhide B0⟩
    · have E : Hid (stT x y = 104) := hide (by unfold stT; rw [if_neg h1, if_neg h2])
      go_enter Tryz.func81, Tryz.ntmps81
      go_wp2
      go_ret
      exact ⟨by rw [unhide HU, unhide E]; rfl, unhide B0⟩
theorem sg3 (k : Int) : sgZ k = -1 ∨ sgZ k = 0 ∨ sgZ k = 1 := by unfold sgZ; split <;> (try split) <;> simp
set_option maxHeartbeats 4000000 in
theorem passI (x y p : Int × Int) (w : World) (hx : Near x) (hy : Near y) (hp : Near p) :
    Calls Tryz.prog 62 #[stV x y, .agg #[.int .i64 p.1, .int .i64 p.2]] w fun e w' => e = .returned (.int .i64 (wiT x y p)) ∧ Below w.heap.size w w' := by
  have CT := hide (fun w => turnI x y p w hx hy hp)
  clear hx hy hp
  have ta1 : ∀ (v : Value) (w : World), (Instr.typeAssert (.iface 102 v) 82 102 true).run Tryz.prog w = .ok (.tuple #[v, .bool true]) w := fun v w => by kernel_rfl
  have ta2 : ∀ (v : Value) (w : World), (Instr.typeAssert (.iface 103 v) 82 102 true).run Tryz.prog w = .ok (.tuple #[.agg #[.int .i64 0, .int .i64 0, .int .i64 0, .int .i64 0], .bool false]) w := fun v w => by kernel_rfl
  have ta3 : ∀ (v : Value) (w : World), (Instr.typeAssert (.iface 104 v) 82 102 true).run Tryz.prog w = .ok (.tuple #[.agg #[.int .i64 0, .int .i64 0, .int .i64 0, .int .i64 0], .bool false]) w := fun v w => by kernel_rfl
  have ta4 : ∀ (v : Value) (w : World), (Instr.typeAssert (.iface 103 v) 82 103 true).run Tryz.prog w = .ok (.tuple #[v, .bool true]) w := fun v w => by kernel_rfl
  have ta5 : ∀ (v : Value) (w : World), (Instr.typeAssert (.iface 104 v) 82 103 true).run Tryz.prog w = .ok (.tuple #[.agg #[.int .i64 0, .int .i64 0, .int .i64 0, .int .i64 0], .bool false]) w := fun v w => by kernel_rfl
  have ta6 : ∀ (v : Value) (w : World), (Instr.typeAssert (.iface 104 v) 82 104 true).run Tryz.prog w = .ok (.tuple #[v, .bool true]) w := fun v w => by kernel_rfl
  by_cases h1 : x.2 < y.2
  · have E : Hid (stV x y = .iface 102 (.agg #[.int .i64 x.1, .int .i64 x.2, .int .i64 y.1, .int .i64 y.2])) := hide (by unfold stV stT; rw [if_pos h1])
    rw [unhide E]
    clear E
    have B0 := hide (show Below w.heap.size w ((w.alloc (.cells #[.int .i64 p.1, .int .i64 p.2] 37)).alloc (.cells #[.int .i64 x.1, .int .i64 x.2, .int .i64 y.1, .int .i64 y.2] 102)) from ((Below.refl _ _).alloc (by simp) _).alloc (by simp) _)
    by_cases b1 : x.2 ≤ p.2
    · by_cases b2 : p.2 < y.2
      · rcases sg3 (crs x y p) with e | e | e
        · have EV : Hid (wiT x y p = 0) := hide (by unfold wiT upB dnB; rw [e]; simp; try omega)
          rw [e] at CT
          clear e
          go_enter Tryz.func62, Tryz.ntmps62
          go_wp2_with fail
          refine (unhide CT _).mono ?_
          rintro e w1 ⟨rfl, hb⟩
          have HB := hide (below_on (unhide B0) hb)
          clear hb
          go_wp2
          go_ret
          exact ⟨by rw [unhide EV]; rfl, unhide HB⟩
        · have EV : Hid (wiT x y p = 0) := hide (by unfold wiT upB dnB; rw [e]; simp; try omega)
          rw [e] at CT
          clear e
          go_enter Tryz.func62, Tryz.ntmps62
          go_wp2_with fail
          refine (unhide CT _).mono ?_
          rintro e w1 ⟨rfl, hb⟩
          have HB := hide (below_on (unhide B0) hb)
          clear hb
          go_wp2
          go_ret
          exact ⟨by rw [unhide EV]; rfl, unhide HB⟩
        · have EV : Hid (wiT x y p = 1) := hide (by unfold wiT upB dnB; rw [e]; simp; try omega)
          rw [e] at CT
          clear e
          go_enter Tryz.func62, Tryz.ntmps62
          go_wp2_with fail
          refine (unhide CT _).mono ?_
          rintro e w1 ⟨rfl, hb⟩
          have HB := hide (below_on (unhide B0) hb)
          clear hb
          go_wp2
          go_ret
          exact ⟨by rw [unhide EV]; rfl, unhide HB⟩
      · have EV : Hid (wiT x y p = 0) := hide (by unfold wiT upB dnB; simp; omega)
        go_enter Tryz.func62, Tryz.ntmps62
        go_wp2
        go_ret
        exact ⟨by rw [unhide EV]; rfl, unhide B0⟩
    · have EV : Hid (wiT x y p = 0) := hide (by unfold wiT upB dnB; simp; omega)
      go_enter Tryz.func62, Tryz.ntmps62
      go_wp2
      go_ret
      exact ⟨by rw [unhide EV]; rfl, unhide B0⟩
  · by_cases h2 : y.2 < x.2
    · have E : Hid (stV x y = .iface 103 (.agg #[.int .i64 x.1, .int .i64 x.2, .int .i64 y.1, .int .i64 y.2])) := hide (by unfold stV stT; rw [if_neg h1, if_pos h2])
      rw [unhide E]
      clear E
      have B0 := hide (show Below w.heap.size w ((w.alloc (.cells #[.int .i64 p.1, .int .i64 p.2] 37)).alloc (.cells #[.int .i64 x.1, .int .i64 x.2, .int .i64 y.1, .int .i64 y.2] 103)) from ((Below.refl _ _).alloc (by simp) _).alloc (by simp) _)
      by_cases b1 : y.2 ≤ p.2
      · by_cases b2 : p.2 < x.2
        · rcases sg3 (crs x y p) with e | e | e
          · have EV : Hid (wiT x y p = -1) := hide (by unfold wiT upB dnB; rw [e]; simp; try omega)
            rw [e] at CT
            clear e
            go_enter Tryz.func62, Tryz.ntmps62
            go_wp2_with fail
            refine (unhide CT _).mono ?_
            rintro e w1 ⟨rfl, hb⟩
            have HB := hide (below_on (unhide B0) hb)
            clear hb
            go_wp2
            go_ret
            exact ⟨by rw [unhide EV]; rfl, unhide HB⟩
          · have EV : Hid (wiT x y p = 0) := hide (by unfold wiT upB dnB; rw [e]; simp; try omega)
            rw [e] at CT
            clear e
            go_enter Tryz.func62, Tryz.ntmps62
            go_wp2_with fail
            refine (unhide CT _).mono ?_
            rintro e w1 ⟨rfl, hb⟩
            have HB := hide (below_on (unhide B0) hb)
            clear hb
            go_wp2
            go_ret
            exact ⟨by rw [unhide EV]; rfl, unhide HB⟩
          · have EV : Hid (wiT x y p = 0) := hide (by unfold wiT upB dnB; rw [e]; simp; try omega)
            rw [e] at CT
            clear e
            go_enter Tryz.func62, Tryz.ntmps62
            go_wp2_with fail
            refine (unhide CT _).mono ?_
            rintro e w1 ⟨rfl, hb⟩
            have HB := hide (below_on (unhide B0) hb)
            clear hb
            go_wp2
            go_ret
            exact ⟨by rw [unhide EV]; rfl, unhide HB⟩
        · have EV : Hid (wiT x y p = 0) := hide (by unfold wiT upB dnB; simp; omega)
          go_enter Tryz.func62, Tryz.ntmps62
          go_wp2
          go_ret
          exact ⟨by rw [unhide EV]; rfl, unhide B0⟩
      · have EV : Hid (wiT x y p = 0) := hide (by unfold wiT upB dnB; simp; omega)
        go_enter Tryz.func62, Tryz.ntmps62
        go_wp2
        go_ret
        exact ⟨by rw [unhide EV]; rfl, unhide B0⟩
    · have E : Hid (stV x y = .iface 104 (.agg #[.int .i64 x.1, .int .i64 x.2, .int .i64 y.1, .int .i64 y.2])) := hide (by unfold stV stT; rw [if_neg h1, if_neg h2])
      rw [unhide E]
      have EV : Hid (wiT x y p = 0) := hide (by unfold wiT upB dnB; simp; omega)
      have B0 := hide (show Below w.heap.size w ((w.alloc (.cells #[.int .i64 p.1, .int .i64 p.2] 37)).alloc (.cells #[.int .i64 x.1, .int .i64 x.2, .int .i64 y.1, .int .i64 y.2] 104)) from ((Below.refl _ _).alloc (by simp) _).alloc (by simp) _)
      clear E
      go_enter Tryz.func62, Tryz.ntmps62
      go_wp2
      go_ret
      exact ⟨by rw [unhide EV]; rfl, unhide B0⟩
def StM (M : List Value) (l : List (Int × Int)) (k : Nat) : Prop := ∀ i, i < k → M[i]? = some (stV (l.getD i (0, 0)) (nxt l i))
theorem StM.step {M : List Value} {l : List (Int × Int)} {n k : Nat} (hM : M.length = n) (hk : k < n) (h : StM M l k) : StM (M.set k (stV (l.getD k (0, 0)) (nxt l k))) l (k + 1) := by
  intro i hi
  simp only [List.getElem?_set]
  by_cases e : k = i
  · subst e; rw [if_pos rfl, if_pos (by omega)]
  · rw [if_neg e]; exact h i (by omega)
/-- The stretches of a way, in block G. -/
structure StR9 (w : World) (G n : Nat) (l : List (Int × Int)) : Prop where
  lt : G < w.heap.size
  len : l.length = n
  at_ : ∀ i, i < n → w.cell? ⟨G, i, none⟩ = some (stV (l.getD i (0, 0)) (nxt l i))
theorem StR9.later {w w' : World} {G n : Nat} {l : List (Int × Int)} (h : StR9 w G n l) (hb : Below w.heap.size w w') : StR9 w' G n l :=
  ⟨Nat.lt_of_lt_of_le h.lt hb.size, h.len, fun i hi => cell_later hb (h.at_ i hi)⟩
theorem SgP.but {w w' : World} {G S n : Nat} {l : List (Int × Int)} (h : SgP w S n l) (hb : But G (G + 1) w w') (hg : G < S) : SgP w' S n l :=
  ⟨Nat.lt_of_lt_of_le h.lt hb.size, h.len, fun i hi => ⟨hb.cell (h.at_ i hi).1 (.inr hg), hb.cell (h.at_ i hi).2.1 (.inr hg), hb.cell (h.at_ i hi).2.2.1 (.inr hg), hb.cell (h.at_ i hi).2.2.2 (.inr hg)⟩⟩
theorem but_one9 {w : World} {G k : Nat} {x : Value} : But G (G + 1) w (w.setCell ⟨G, k, none⟩ x) := (But.refl _ _ _).set (p := ⟨G, k, none⟩) (Nat.le_refl G) (Nat.lt_succ_self G) x
theorem infoSt : (Tryz.prog.info? 82).map (fun i => (i.zero, i.size, i.bytes)) = some (some .nilIface, 1, 16) := by kernel_rfl
set_option maxHeartbeats 4000000 in
theorem stretchesI (a : Option Addr) (n c : Nat) (l : List (Int × Int)) (w : World) (h : SlP w a l) (hn : l.length = n) (h0 : 0 < n) (h1 : n ≤ 1048576) :
    Calls Tryz.prog 59 #[.slice a n c] w fun e w' => e = .returned (.slice (some ⟨w.heap.size, 0, none⟩) n n) ∧ Below w.heap.size w w' ∧ StR9 w' w.heap.size n l := by
  obtain ⟨i0, hi, hz0, hz1, hz2⟩ := info_parts infoSt
  have HS := hide h
  have HN := hide hn
  clear h hn
  go_enter Tryz.func59, Tryz.ntmps59
  go_wp2_with (at_make; refine wpList_make_full _ rfl _ _ 58 rfl w.heap.size 82 i0 .nilIface 1 Tryz.underlying58 hi hz0 hz1 .i64 .i64 _ _ n rfl rfl rfl rfl ?c1 ?c2 ?c3 ?_)
  case c1 => rw [hz2]; omega
  case c2 => unfold maxLen; omega
  case c3 => exact Nat.le_refl _
  intro w1 hown hgrow
  have hb0 : Below w.heap.size w w1 := (Below.refl _ _).grown hgrow (Nat.le_refl _) (fun k e => by cases e)
  have CS := hide (segsI a n c l w1 ((unhide HS).later hb0) (unhide HN) h0 h1)
  have P0 := hide hown
  clear hown hgrow hi hz0 hz1 hz2
  have HB0 := hide hb0
  clear hb0
  go_wp2_with fail
  refine (unhide CS).mono ?_
  rintro e w2 ⟨rfl, hb, sg⟩
  have SG := hide sg
  have HB2 := hide (below_on (unhide HB0) hb)
  have P2 : Hid (∃ M, w2.ownsRow w.heap.size 82 1 (.slice (some ⟨w.heap.size, 0, none⟩) n n) n M) := hide ⟨_, ownsRow_laterP (unhide P0) hb⟩
  have ltS : w.heap.size < w1.heap.size := row_lt8 (unhide P0)
  clear hb sg CS P0 HB0
  generalize w1.heap.size = S at *
  go_wp2
  go_loopw [12] (fun iv wr => ∃ k : Nat, k ≤ n ∧ iv = .int .i64 k ∧ Hid (∃ M, wr.ownsRow w.heap.size 82 1 (.slice (some ⟨w.heap.size, 0, none⟩) n n) n M ∧ StM M l k) ∧ Hid (SgP wr S n l) ∧ Hid (Below w.heap.size w wr)) (fun iv _ => n - (intOf iv).toNat)
  case atStart =>
    obtain ⟨M, hM⟩ := unhide P2
    exact ⟨0, Nat.zero_le _, rfl, hide ⟨M, hM, fun i hi => absurd hi (by omega)⟩, SG, HB2⟩
  case round =>
    clear P2 HB2 SG
    obtain ⟨k, hk, rfl, EM, SG, HB⟩ := hrel
    by_cases hlt : k < n
    · have hlt' : (k : Int) < (n : Int) := by omega
      have e0 := (unhide SG).at_ k hlt
      obtain ⟨M, hM, hL⟩ := unhide EM
      have HM := hide hM
      have STP := hide (hL.step (by have := hM.1; omega) hlt)
      clear hL EM
      generalize nxt l k = y at *
      generalize l.getD k (0, 0) = x at *
      have E0 := e0.1
      have E1 := e0.2.1
      have E2 := e0.2.2.1
      have E3 := e0.2.2.2
      clear e0
      have al : Below wr.heap.size wr (wr.alloc (.cells #[.int .i64 x.1, .int .i64 x.2, .int .i64 y.1, .int .i64 y.2] 94)) := (Below.refl _ _).alloc (Nat.le_refl _) _
      have CT := hide (stretchI x y (wr.alloc (.cells #[.int .i64 x.1, .int .i64 x.2, .int .i64 y.1, .int .i64 y.2] 94)))
      replace HM := hide (ownsRow_laterP (unhide HM) al)
      replace SG := hide ((unhide SG).later al)
      replace HB := hide (below_on (unhide HB) al)
      clear al hM
      go_wp2_with fail
      refine (unhide CT).mono ?_
      clear CT
      rintro e w4 ⟨rfl, hb⟩
      replace HM := hide (ownsRow_laterP (unhide HM) hb)
      replace SG := hide ((unhide SG).later hb)
      replace HB := hide (below_on (unhide HB) hb)
      clear E0 E1 E2 E3
      have hM := unhide HM
      have hl := hM.1
      obtain ⟨x0, o0⟩ : ∃ x, w4.cell? ⟨w.heap.size, k, none⟩ = some x := by rw [hM.cellAt _ (by omega)]; exact ⟨_, List.getElem?_eq_getElem (by omega)⟩
      have fr : ∀ o, w4.frozen? ⟨w.heap.size, o, none⟩ = false := fun o => hM.frozenAt o
      clear hM hl hb
      have EU : stV x y = .iface (stT x y) (.agg #[.int .i64 x.1, .int .i64 x.2, .int .i64 y.1, .int .i64 y.2]) := rfl
      rw [EU] at STP ⊢
      clear EU
      generalize stT x y = T at *
      generalize Value.agg #[.int .i64 x.1, .int .i64 x.2, .int .i64 y.1, .int .i64 y.2] = u at *
      go_wp2
      go_roundw
      case rel =>
        refine ⟨k + 1, by omega, by go_num, hide ⟨_, (World.ownsRow.stored (unhide HM) k (.iface T u)).1, unhide STP⟩, hide ((unhide SG).but but_one9 ltS), hide ?_⟩
        exact but_one9.below (unhide HB) (Nat.le_refl _) (by have := (unhide HB).size; exact this)
      case measure => simp [intOf]; omega
    · obtain rfl : k = n := by omega
      go_wp2
      go_ret
      obtain ⟨M, hM, hL⟩ := unhide EM
      refine ⟨rfl, unhide HB, (row_lt8 hM), unhide HN, fun i hi => ?_⟩
      rw [hM.cellAt _ (by omega)]; exact hL i hi
theorem method9 (x y : Int × Int) (w : World) : (method 245 (stT x y) (.agg #[.int .i64 x.1, .int .i64 x.2, .int .i64 y.1, .int .i64 y.2]) "loop.example/g00409/impl.has").run Tryz.prog w = .ok (89, .agg #[.int .i64 x.1, .int .i64 x.2, .int .i64 y.1, .int .i64 y.2]) w := by
  unfold stT
  split
  · kernel_rfl
  · split <;> kernel_rfl
set_option maxHeartbeats 4000000 in
theorem onAnyI (G n : Nat) (l : List (Int × Int)) (p : Int × Int) (w : World) (h : StR9 w G n l) (h0 : 0 < n) (h1 : n ≤ 1048000) (hg : ∀ p ∈ l, Near p) (hp : Near p) :
    Calls Tryz.prog 60 #[.slice (some ⟨G, 0, none⟩) n n, .agg #[.int .i64 p.1, .int .i64 p.2]] w fun e w' => e = .returned (.bool (onK l p l.length)) ∧ Below w.heap.size w w' := by
  have al0 : Below w.heap.size w (w.alloc (.cells #[.int .i64 p.1, .int .i64 p.2] 37)) := (Below.refl _ _).alloc (Nat.le_refl _) _
  have HS := hide (h.later al0)
  have HN := hide h.len
  have HG := hide hg
  have HP := hide hp
  have KP : Hid ((w.alloc (.cells #[.int .i64 p.1, .int .i64 p.2] 37)).cell? ⟨w.heap.size, 0, none⟩ = some (.int .i64 p.1) ∧ (w.alloc (.cells #[.int .i64 p.1, .int .i64 p.2] 37)).cell? ⟨w.heap.size, 1, none⟩ = some (.int .i64 p.2)) := hide (by simp [go_sem])
  have BA := hide al0
  have lt0 : w.heap.size < (w.alloc (.cells #[.int .i64 p.1, .int .i64 p.2] 37)).heap.size := by simp
  clear h hg hp al0
  go_enter Tryz.func60, Tryz.ntmps60
  go_wp2
  generalize w.alloc (.cells #[.int .i64 p.1, .int .i64 p.2] 37) = w0 at *
  go_loopw [9] (fun iv wr => ∃ i : Nat, i ≤ n ∧ iv = .int .i64 i ∧ Hid (onK l p i = false) ∧ Hid (Below w0.heap.size w0 wr)) (fun iv _ => n - (intOf iv).toNat)
  case atStart => exact ⟨0, Nat.zero_le _, rfl, hide rfl, hide (Below.refl _ _)⟩
  case round =>
    obtain ⟨i, hi, rfl, HK, HB⟩ := hrel
    by_cases hlt : i < n
    · have hlt' : (i : Int) < (n : Int) := by omega
      have E0 := ((unhide HS).later (unhide HB)).at_ i hlt
      have np := getD_near9 (unhide HG) i
      have nq := unhide HG _ (nxt_mem (l := l) (by rw [unhide HN]; omega) i)
      have p0 : wr.cell? ⟨w.heap.size, 0, none⟩ = some (.int .i64 p.1) := ((unhide HB).cell (p := ⟨w.heap.size, 0, none⟩) lt0).trans (unhide KP).1
      have p1 : wr.cell? ⟨w.heap.size, 1, none⟩ = some (.int .i64 p.2) := ((unhide HB).cell (p := ⟨w.heap.size, 1, none⟩) lt0).trans (unhide KP).2
      have CO := hide (fun w => hasI (l.getD i (0, 0)) (nxt l i) p w np nq (unhide HP))
      have HV : Hid (onK l p (i + 1) = onV (l.getD i (0, 0)) (nxt l i) p) := hide (by show (onK l p i || _) = _; rw [unhide HK]; rfl)
      generalize onV (l.getD i (0, 0)) (nxt l i) p = v at *
      generalize nxt l i = y at *
      generalize l.getD i (0, 0) = x at *
      clear np nq
      have EU : stV x y = .iface (stT x y) (.agg #[.int .i64 x.1, .int .i64 x.2, .int .i64 y.1, .int .i64 y.2]) := rfl
      rw [EU] at E0
      clear EU
      have MT := fun w => method9 x y w
      generalize stT x y = T at *
      go_wp2_with fail
      refine (unhide CO _).mono ?_
      rintro e w2 ⟨rfl, hb⟩
      have HB1 := hide (below_on (unhide HB) hb)
      clear hb p0 p1 E0 CO MT
      cases v
      · go_wp2
        go_roundw
        case rel => exact ⟨i + 1, by omega, by go_num, HV, HB1⟩
        case measure => simp [intOf]; omega
      · have HT : Hid (onK l p l.length = true) := hide (onK_le (by rw [unhide HN]; omega) (unhide HV))
        go_wp2
        go_ret
        exact ⟨by rw [unhide HT]; rfl, below_on (unhide BA) (unhide HB1)⟩
    · obtain rfl : i = n := by omega
      have HT : Hid (onK l p l.length = false) := hide (by rw [unhide HN]; exact unhide HK)
      go_wp2
      go_ret
      exact ⟨by rw [unhide HT]; rfl, below_on (unhide BA) (unhide HB)⟩
theorem crT_abs (a b p : Int × Int) : ((wiT a b p).natAbs : Int) = crT a b p := by
  unfold wiT crT
  cases upB a b p && (sgZ (crs a b p) == 1) <;> cases dnB a b p && (sgZ (crs a b p) == -1) <;> simp
set_option maxHeartbeats 4000000 in
theorem windI (G n : Nat) (l : List (Int × Int)) (p : Int × Int) (w : World) (h : StR9 w G n l) (h0 : 0 < n) (h1 : n ≤ 1048000) (hg : ∀ p ∈ l, Near p) (hp : Near p) :
    Calls Tryz.prog 34 #[.slice (some ⟨G, 0, none⟩) n n, .agg #[.int .i64 p.1, .int .i64 p.2]] w fun e w' => e = .returned (.int .i64 (wiS l p l.length)) ∧ Below w.heap.size w w' := by
  have al0 : Below w.heap.size w (w.alloc (.cells #[.int .i64 p.1, .int .i64 p.2] 37)) := (Below.refl _ _).alloc (Nat.le_refl _) _
  have HS := hide (h.later al0)
  have HN := hide h.len
  have HG := hide hg
  have HP := hide hp
  have KP : Hid ((w.alloc (.cells #[.int .i64 p.1, .int .i64 p.2] 37)).cell? ⟨w.heap.size, 0, none⟩ = some (.int .i64 p.1) ∧ (w.alloc (.cells #[.int .i64 p.1, .int .i64 p.2] 37)).cell? ⟨w.heap.size, 1, none⟩ = some (.int .i64 p.2)) := hide (by simp [go_sem])
  have BA := hide al0
  have lt0 : w.heap.size < (w.alloc (.cells #[.int .i64 p.1, .int .i64 p.2] 37)).heap.size := by simp
  clear h hg hp al0
  go_enter Tryz.func34, Tryz.ntmps34
  go_wp2
  generalize w.alloc (.cells #[.int .i64 p.1, .int .i64 p.2] 37) = w0 at *
  go_loopw [5, 10] (fun sv iv wr => ∃ i : Nat, i ≤ n ∧ iv = .int .i64 i ∧ sv = .int .i64 (wiS l p i) ∧ Hid (Below w0.heap.size w0 wr)) (fun _ iv _ => n - (intOf iv).toNat)
  case atStart => exact ⟨0, Nat.zero_le _, rfl, rfl, hide (Below.refl _ _)⟩
  case round =>
    obtain ⟨i, hi, rfl, rfl, HB⟩ := hrel
    by_cases hlt : i < n
    · have hlt' : (i : Int) < (n : Int) := by omega
      have E0 := ((unhide HS).later (unhide HB)).at_ i hlt
      have np := getD_near9 (unhide HG) i
      have nq := unhide HG _ (nxt_mem (l := l) (by rw [unhide HN]; omega) i)
      have p0 : wr.cell? ⟨w.heap.size, 0, none⟩ = some (.int .i64 p.1) := ((unhide HB).cell (p := ⟨w.heap.size, 0, none⟩) lt0).trans (unhide KP).1
      have p1 : wr.cell? ⟨w.heap.size, 1, none⟩ = some (.int .i64 p.2) := ((unhide HB).cell (p := ⟨w.heap.size, 1, none⟩) lt0).trans (unhide KP).2
      have CO := hide (fun w => passI (l.getD i (0, 0)) (nxt l i) p w np nq (unhide HP))
      have HV : Hid (wiS l p (i + 1) = wiS l p i + wiT (l.getD i (0, 0)) (nxt l i) p) := hide rfl
      have bs := wiS_bd l p i
      have bt := wiT_bd (l.getD i (0, 0)) (nxt l i) p
      generalize wiT (l.getD i (0, 0)) (nxt l i) p = t at *
      have EQ := hide hi
      generalize wiS l p i = s0 at *
      generalize nxt l i = y at *
      generalize l.getD i (0, 0) = x at *
      have iw : IntKind.i64.wrap (s0 + t) = s0 + t := by rw [IntKind.wrap_i64]; omega
      clear np nq bs bt
      have EU : stV x y = .iface (stT x y) (.agg #[.int .i64 x.1, .int .i64 x.2, .int .i64 y.1, .int .i64 y.2]) := rfl
      rw [EU] at E0 CO
      clear EU
      generalize stT x y = T at *
      go_wp2_with fail
      refine (unhide CO _).mono ?_
      rintro e w2 ⟨rfl, hb⟩
      have HB1 := hide (below_on (unhide HB) hb)
      clear hb p0 p1 E0 CO
      go_wp2
      go_roundw
      case rel => exact ⟨i + 1, by omega, by go_num, by rw [unhide HV], HB1⟩
      case measure => simp [intOf]; omega
    · obtain rfl : i = n := by omega
      have HT : Hid (wiS l p i = wiS l p l.length) := hide (by rw [unhide HN])
      go_wp2
      go_ret
      exact ⟨by rw [← unhide HT]; rfl, below_on (unhide BA) (unhide HB)⟩
set_option maxHeartbeats 4000000 in
theorem crossI (G n : Nat) (l : List (Int × Int)) (p : Int × Int) (w : World) (h : StR9 w G n l) (h0 : 0 < n) (h1 : n ≤ 1048000) (hg : ∀ p ∈ l, Near p) (hp : Near p) :
    Calls Tryz.prog 33 #[.slice (some ⟨G, 0, none⟩) n n, .agg #[.int .i64 p.1, .int .i64 p.2]] w fun e w' => e = .returned (.int .i64 (crS l p l.length)) ∧ Below w.heap.size w w' := by
  have al0 : Below w.heap.size w (w.alloc (.cells #[.int .i64 p.1, .int .i64 p.2] 37)) := (Below.refl _ _).alloc (Nat.le_refl _) _
  have HS := hide (h.later al0)
  have HN := hide h.len
  have HG := hide hg
  have HP := hide hp
  have KP : Hid ((w.alloc (.cells #[.int .i64 p.1, .int .i64 p.2] 37)).cell? ⟨w.heap.size, 0, none⟩ = some (.int .i64 p.1) ∧ (w.alloc (.cells #[.int .i64 p.1, .int .i64 p.2] 37)).cell? ⟨w.heap.size, 1, none⟩ = some (.int .i64 p.2)) := hide (by simp [go_sem])
  have BA := hide al0
  have lt0 : w.heap.size < (w.alloc (.cells #[.int .i64 p.1, .int .i64 p.2] 37)).heap.size := by simp
  clear h hg hp al0
  go_enter Tryz.func33, Tryz.ntmps33
  go_wp2
  generalize w.alloc (.cells #[.int .i64 p.1, .int .i64 p.2] 37) = w0 at *
  go_loopw [5, 10] (fun sv iv wr => ∃ i : Nat, i ≤ n ∧ iv = .int .i64 i ∧ sv = .int .i64 (crS l p i) ∧ Hid (Below w0.heap.size w0 wr)) (fun _ iv _ => n - (intOf iv).toNat)
  case atStart => exact ⟨0, Nat.zero_le _, rfl, rfl, hide (Below.refl _ _)⟩
  case round =>
    obtain ⟨i, hi, rfl, rfl, HB⟩ := hrel
    by_cases hlt : i < n
    · have hlt' : (i : Int) < (n : Int) := by omega
      have E0 := ((unhide HS).later (unhide HB)).at_ i hlt
      have np := getD_near9 (unhide HG) i
      have nq := unhide HG _ (nxt_mem (l := l) (by rw [unhide HN]; omega) i)
      have p0 : wr.cell? ⟨w.heap.size, 0, none⟩ = some (.int .i64 p.1) := ((unhide HB).cell (p := ⟨w.heap.size, 0, none⟩) lt0).trans (unhide KP).1
      have p1 : wr.cell? ⟨w.heap.size, 1, none⟩ = some (.int .i64 p.2) := ((unhide HB).cell (p := ⟨w.heap.size, 1, none⟩) lt0).trans (unhide KP).2
      have CO := hide (fun w => passI (l.getD i (0, 0)) (nxt l i) p w np nq (unhide HP))
      have HV : Hid (crS l p (i + 1) = crS l p i + crT (l.getD i (0, 0)) (nxt l i) p) := hide rfl
      have bs := crS_bd l p i
      have bt := crT_bd (l.getD i (0, 0)) (nxt l i) p
      have bu := wiT_bd (l.getD i (0, 0)) (nxt l i) p
      have HA := crT_abs (l.getD i (0, 0)) (nxt l i) p
      rw [← HA] at HV bt
      clear HA
      generalize wiT (l.getD i (0, 0)) (nxt l i) p = t at *
      have EQ := hide hi
      generalize crS l p i = s0 at *
      generalize nxt l i = y at *
      generalize l.getD i (0, 0) = x at *
      have CF := hide (fun w => farI t w (by omega) (by omega))
      generalize t.natAbs = q at *
      have iw : IntKind.i64.wrap (s0 + (q : Int)) = s0 + (q : Int) := by rw [IntKind.wrap_i64]; omega
      clear np nq bs bt bu
      have EU : stV x y = .iface (stT x y) (.agg #[.int .i64 x.1, .int .i64 x.2, .int .i64 y.1, .int .i64 y.2]) := rfl
      rw [EU] at E0 CO
      clear EU
      generalize stT x y = T at *
      go_wp2_with fail
      refine (unhide CO _).mono ?_
      rintro e w2 ⟨rfl, hb⟩
      have HB1 := hide (below_on (unhide HB) hb)
      clear hb p0 p1 E0 CO
      go_wp2_with fail
      refine (unhide CF _).mono ?_
      rintro e w3 ⟨rfl, rfl⟩
      clear CF
      go_wp2
      go_roundw
      case rel => exact ⟨i + 1, by omega, by go_num, by rw [unhide HV], HB1⟩
      case measure => simp [intOf]; omega
    · obtain rfl : i = n := by omega
      have HT : Hid (crS l p i = crS l p l.length) := hide (by rw [unhide HN])
      go_wp2
      go_ret
      exact ⟨by rw [← unhide HT]; rfl, below_on (unhide BA) (unhide HB)⟩
set_option maxHeartbeats 4000000 in
theorem besideI (a : Option Addr) (n c : Nat) (l : List (Int × Int)) (p : Int × Int) (w : World) (h : ArP w a n c l) (h1 : n ≤ 1048576) :
    Calls Tryz.prog 32 #[.slice a n c, .agg #[.int .i64 p.1, .int .i64 p.2]] w fun e w' => ∃ v, e = .returned (.tuple #[v, .bool (offB l p)]) ∧ Below w.heap.size w w' ∧ (offB l p = true → ∃ G, v = .slice (some ⟨G, 0, none⟩) n n ∧ StR9 w' G n l) := by
  have hn := h.len
  have C1 := hide (fun w (k : SlP w a l) => wayI a n c l w k hn (by unfold maxLen; omega))
  have C2 : Hid (∀ w, Calls Tryz.prog 58 #[.agg #[.int .i64 p.1, .int .i64 p.2]] w fun e w' => e = .returned (.bool (gPt p)) ∧ Below w.heap.size w w') := hide (fun w => goodPI p.1 p.2 w)
  have HS := hide h.sl
  clear h
  cases hg : gWP l p
  · have EO : offB l p = false := by unfold offB; rw [hg]; rfl
    rw [EO]
    clear EO
    have hw : wayB l = true → gPt p = false := fun e => by unfold gWP at hg; rw [e] at hg; exact hg
    clear hg
    cases hy : wayB l
    · rw [hy] at C1
      clear hy hw
      have B0 := hide (show Below w.heap.size w (w.alloc (.cells #[.int .i64 p.1, .int .i64 p.2] 37)) from ((Below.refl _ _).alloc (by simp) _))
      go_enter Tryz.func32, Tryz.ntmps32
      go_wp2_with fail
      refine (unhide C1 _ ((unhide HS).later (unhide B0))).mono ?_
      rintro e w1 ⟨rfl, hb⟩
      have HB := hide (below_on (unhide B0) hb)
      clear hb
      go_wp2
      go_ret2
      exact ⟨_, rfl, unhide HB, fun e => by cases e⟩
    · rw [hy] at C1
      rw [hw hy] at C2
      clear hy hw
      have B0 := hide (show Below w.heap.size w (w.alloc (.cells #[.int .i64 p.1, .int .i64 p.2] 37)) from ((Below.refl _ _).alloc (by simp) _))
      go_enter Tryz.func32, Tryz.ntmps32
      go_wp2_with fail
      refine (unhide C1 _ ((unhide HS).later (unhide B0))).mono ?_
      rintro e w1 ⟨rfl, hb⟩
      have k0_0 : w1.cell? ⟨w.heap.size, 0, none⟩ = some (.int .i64 p.1) := cell_later hb (by simp [go_sem])
      have k0_1 : w1.cell? ⟨w.heap.size, 1, none⟩ = some (.int .i64 p.2) := cell_later hb (by simp [go_sem])
      have HB := hide (below_on (unhide B0) hb)
      clear hb
      go_wp2_with fail
      refine (unhide C2 _).mono ?_
      rintro e w2 ⟨rfl, hb⟩
      replace k0_0 := cell_later hb k0_0
      replace k0_1 := cell_later hb k0_1
      replace HB := hide (below_on (unhide HB) hb)
      clear hb
      go_wp2
      go_ret2
      exact ⟨_, rfl, unhide HB, fun e => by cases e⟩
  · have gp := gWP_parts hg
    have CST := hide (fun w (k : SlP w a l) => stretchesI a n c l w k hn (by omega) (by omega))
    have CO := hide (fun G w (k : StR9 w G n l) => onAnyI G n l p w k (by omega) (by omega) gp.2.1 gp.2.2)
    have hw : wayB l = true ∧ gPt p = true := by unfold gWP at hg; simpa using hg
    rw [hw.1] at C1
    rw [hw.2] at C2
    clear hw
    cases hq : onK l p l.length
    · skip
      have EO : offB l p = true := by unfold offB; rw [hg, hq]; rfl
      rw [EO]
      rw [hq] at CO
      clear hg hq EO gp hn
      have B0 := hide (show Below w.heap.size w (w.alloc (.cells #[.int .i64 p.1, .int .i64 p.2] 37)) from ((Below.refl _ _).alloc (by simp) _))
      go_enter Tryz.func32, Tryz.ntmps32
      go_wp2_with fail
      refine (unhide C1 _ ((unhide HS).later (unhide B0))).mono ?_
      rintro e w1 ⟨rfl, hb⟩
      have k0_0 : w1.cell? ⟨w.heap.size, 0, none⟩ = some (.int .i64 p.1) := cell_later hb (by simp [go_sem])
      have k0_1 : w1.cell? ⟨w.heap.size, 1, none⟩ = some (.int .i64 p.2) := cell_later hb (by simp [go_sem])
      have HB := hide (below_on (unhide B0) hb)
      clear hb
      go_wp2_with fail
      refine (unhide C2 _).mono ?_
      rintro e w2 ⟨rfl, hb⟩
      replace k0_0 := cell_later hb k0_0
      replace k0_1 := cell_later hb k0_1
      replace HB := hide (below_on (unhide HB) hb)
      clear hb
      go_wp2_with fail
      refine (unhide CST _ ((unhide HS).later (unhide HB))).mono ?_
      rintro e w3 ⟨rfl, hb, st⟩
      replace k0_0 := cell_later hb k0_0
      replace k0_1 := cell_later hb k0_1
      replace HB := hide (below_on (unhide HB) hb)
      have ST := hide st
      clear hb st
      generalize w2.heap.size = G at *
      go_wp2_with fail
      refine (unhide CO _ _ (unhide ST)).mono ?_
      rintro e w4 ⟨rfl, hb⟩
      replace ST := hide ((unhide ST).later hb)
      replace HB := hide (below_on (unhide HB) hb)
      clear hb k0_0 k0_1
      go_wp2
      go_ret2
      exact ⟨_, rfl, unhide HB, fun e => ⟨G, rfl, unhide ST⟩⟩
    · skip
      have EO : offB l p = false := by unfold offB; rw [hg, hq]; rfl
      rw [EO]
      rw [hq] at CO
      clear hg hq EO gp hn
      have B0 := hide (show Below w.heap.size w (w.alloc (.cells #[.int .i64 p.1, .int .i64 p.2] 37)) from ((Below.refl _ _).alloc (by simp) _))
      go_enter Tryz.func32, Tryz.ntmps32
      go_wp2_with fail
      refine (unhide C1 _ ((unhide HS).later (unhide B0))).mono ?_
      rintro e w1 ⟨rfl, hb⟩
      have k0_0 : w1.cell? ⟨w.heap.size, 0, none⟩ = some (.int .i64 p.1) := cell_later hb (by simp [go_sem])
      have k0_1 : w1.cell? ⟨w.heap.size, 1, none⟩ = some (.int .i64 p.2) := cell_later hb (by simp [go_sem])
      have HB := hide (below_on (unhide B0) hb)
      clear hb
      go_wp2_with fail
      refine (unhide C2 _).mono ?_
      rintro e w2 ⟨rfl, hb⟩
      replace k0_0 := cell_later hb k0_0
      replace k0_1 := cell_later hb k0_1
      replace HB := hide (below_on (unhide HB) hb)
      clear hb
      go_wp2_with fail
      refine (unhide CST _ ((unhide HS).later (unhide HB))).mono ?_
      rintro e w3 ⟨rfl, hb, st⟩
      replace k0_0 := cell_later hb k0_0
      replace k0_1 := cell_later hb k0_1
      replace HB := hide (below_on (unhide HB) hb)
      have ST := hide st
      clear hb st
      generalize w2.heap.size = G at *
      go_wp2_with fail
      refine (unhide CO _ _ (unhide ST)).mono ?_
      rintro e w4 ⟨rfl, hb⟩
      replace ST := hide ((unhide ST).later hb)
      replace HB := hide (below_on (unhide HB) hb)
      clear hb k0_0 k0_1
      go_wp2
      go_ret2
      exact ⟨_, rfl, unhide HB, fun e => by cases e⟩
set_option maxHeartbeats 4000000 in
theorem InsideI (a : Option Addr) (n c : Nat) (l : List (Int × Int)) (p : Int × Int) (ev : Bool) (w : World) (h : ArP w a n c l) (h1 : n ≤ 1048576) :
    Calls Tryz.prog 13 #[.slice a n c, .agg #[.int .i64 p.1, .int .i64 p.2], .bool ev] w fun e w' => e = .returned (.tuple #[.bool (inV l p ev), .bool (offB l p)]) ∧ Below w.heap.size w w' := by
  have hn := h.len
  have C1 := hide (fun w (k : ArP w a n c l) => besideI a n c l p w k h1)
  have HS := hide h
  clear h
  cases hg : offB l p
  · have EV : (Value.bool (inV l p ev)) = .bool false := by unfold inV; rw [hg]; rfl
    rw [EV]
    rw [hg] at C1
    clear hg EV
    have B0 := hide (show Below w.heap.size w (w.alloc (.cells #[.int .i64 p.1, .int .i64 p.2] 37)) from ((Below.refl _ _).alloc (by simp) _))
    go_enter Tryz.func13, Tryz.ntmps13
    go_wp2_with fail
    refine (unhide C1 _ ((unhide HS).later (unhide B0))).mono ?_
    rintro e w1 ⟨v, rfl, hb, -⟩
    have HB := hide (below_on (unhide B0) hb)
    clear hb
    go_wp2
    go_ret2
    exact ⟨rfl, unhide HB⟩
  · have gp := gWP_parts (show gWP l p = true by unfold offB at hg; simp at hg; exact hg.1)
    have C2 := hide (fun G w (k : StR9 w G n l) => windI G n l p w k (by omega) (by omega) gp.2.1 gp.2.2)
    have C3 := hide (fun G w (k : StR9 w G n l) => crossI G n l p w k (by omega) (by omega) gp.2.1 gp.2.2)
    have bw := wiS_bd l p l.length
    have bc := crS_bd l p l.length
    rw [hg] at C1
    cases ev
    · have EV : inV l p false = (wiS l p l.length != 0) := by unfold inV; rw [hg]; rfl
      rw [EV]
      clear hg EV gp hn bc bw
      generalize wiS l p l.length = r at *
      have B0 := hide (show Below w.heap.size w (w.alloc (.cells #[.int .i64 p.1, .int .i64 p.2] 37)) from ((Below.refl _ _).alloc (by simp) _))
      go_enter Tryz.func13, Tryz.ntmps13
      go_wp2_with fail
      refine (unhide C1 _ ((unhide HS).later (unhide B0))).mono ?_
      rintro e w1 ⟨v, rfl, hb, hv⟩
      obtain ⟨G, rfl, st⟩ := hv (by first | trivial | rfl)
      have ST := hide st
      clear hv st
      have k0_0 : w1.cell? ⟨w.heap.size, 0, none⟩ = some (.int .i64 p.1) := cell_later hb (by simp [go_sem])
      have k0_1 : w1.cell? ⟨w.heap.size, 1, none⟩ = some (.int .i64 p.2) := cell_later hb (by simp [go_sem])
      have HB := hide (below_on (unhide B0) hb)
      clear hb
      go_wp2_with fail
      refine (unhide C2 _ _ (unhide ST)).mono ?_
      rintro e w2 ⟨rfl, hb⟩
      replace HB := hide (below_on (unhide HB) hb)
      clear hb k0_0 k0_1
      go_wp2
      go_ret2
      exact ⟨rfl, unhide HB⟩
    · have EV : inV l p true = ((crS l p l.length).tmod 2 == 1) := by unfold inV; rw [hg]; rfl
      rw [EV]
      clear hg EV gp bw
      generalize crS l p l.length = r at *
      have m1 : IntKind.i64.wrap (r.tmod 2) = r.tmod 2 := by rw [IntKind.wrap_i64, Int.tmod_eq_emod_of_nonneg (by omega)]; omega
      clear hn bc
      have B0 := hide (show Below w.heap.size w (w.alloc (.cells #[.int .i64 p.1, .int .i64 p.2] 37)) from ((Below.refl _ _).alloc (by simp) _))
      go_enter Tryz.func13, Tryz.ntmps13
      go_wp2_with fail
      refine (unhide C1 _ ((unhide HS).later (unhide B0))).mono ?_
      rintro e w1 ⟨v, rfl, hb, hv⟩
      obtain ⟨G, rfl, st⟩ := hv (by first | trivial | rfl)
      have ST := hide st
      clear hv st
      have k0_0 : w1.cell? ⟨w.heap.size, 0, none⟩ = some (.int .i64 p.1) := cell_later hb (by simp [go_sem])
      have k0_1 : w1.cell? ⟨w.heap.size, 1, none⟩ = some (.int .i64 p.2) := cell_later hb (by simp [go_sem])
      have HB := hide (below_on (unhide B0) hb)
      clear hb
      go_wp2_with fail
      refine (unhide C3 _ _ (unhide ST)).mono ?_
      rintro e w2 ⟨rfl, hb⟩
      replace HB := hide (below_on (unhide HB) hb)
      clear hb k0_0 k0_1
      go_wp2
      go_ret2
      exact ⟨rfl, unhide HB⟩
end Go.Proofs.YtomekmhonfofkaaGreat
namespace Go.Proofs.YtomekmhonfofkaaGreat
open Go.ChangeShapes Go.WideShapes Go.ChangeAt Go.RowKit Go.Joins
set_option linter.unusedVariables false
set_option maxRecDepth 100000
set_option linter.unusedSimpArgs false

theorem own : ownKnob Tryz.prog.godebug = none := by kernel_rfl
theorem laidOut : laidOutB Tryz.prog = true := by kernel_rfl
theorem Tryz.cells3 : Tryz.prog.cellsOf 3 = 1 := by kernel_rfl

end Go.Proofs.YtomekmhonfofkaaGreat
namespace Go.Proofs.YtomekmhonfofkaaGreat
open Go.ChangeShapes Go.WideShapes Go.ChangeAt Go.RowKit Go.Joins
set_option linter.unusedVariables false
set_option maxRecDepth 100000

def ioSigns : List Char := [104, 97, 114, 110, 101, 115, 115, 32, 52, 97, 101, 102, 50, 101, 52, 51, 99, 57, 54, 55, 51, 52, 99, 99, 55, 49, 49, 53, 98, 56, 57, 101, 56, 57, 102, 101, 102, 98, 57, 99, 49, 50, 49, 99, 101, 48, 57, 101, 98, 55, 101, 98, 51, 52, 99, 49, 56, 98, 53, 57, 54, 49, 48, 101, 53, 97, 97, 54, 100, 102, 99, 101, 32, 99, 117, 116, 32, 97, 116, 32, 108, 111, 111, 112, 46, 101, 120, 97, 109, 112, 108, 101, 47, 103, 48, 48, 52, 48, 57, 47, 108, 97, 119, 115, 46, 70, 110, 84, 114, 105, 97, 110, 103, 108, 101, 115].map Char.ofNat
theorem io_eq : Tryz.pinned.checked.prog.initOrder = String.ofList ioSigns := by kernel_rfl
theorem io_list : Tryz.pinned.checked.prog.initOrder.toList = ioSigns := by rw [io_eq, String.toList_ofList]
theorem io_words : behindMainWord (wordsSigns Tryz.pinned.checked.prog.initOrder.toList) = "cut".toList :: (wordsSigns (ioSigns.drop 77)) := by rw [io_list]; kernel_rfl
theorem make_of (P : Program) (rest : List (List Char)) (h : behindMainWord (wordsSigns P.initOrder.toList) = "cut".toList :: rest) : P.make = some .cut := by
  unfold Program.make
  rw [h]
  kernel_rfl
theorem strip_of (rest : List (List Char)) : stripLifts liftWords ("cut".toList :: rest) = ([], "cut".toList :: rest) := by kernel_rfl
theorem enter_of (P : Program) (rest : List (List Char)) (h : behindMainWord (wordsSigns P.initOrder.toList) = "cut".toList :: rest) (h1 : P.laysLater = false) (h2 : P.bearsReflect = false) (h3 : P.doorFits [] = true) : P.mayEnter = true := by
  unfold Program.mayEnter
  rw [h]
  simp only [strip_of, h1, h2, h3]
  kernel_rfl
theorem io_lays : Tryz.pinned.checked.prog.laysLater = false := by
  unfold Program.laysLater
  rw [← Array.any_toList]
  kernel_rfl
theorem io_refl : Tryz.pinned.checked.prog.bearsReflect = false := by kernel_rfl
theorem io_head : Tryz.pinned.checked.prog.headLifts = [] := by
  unfold Program.headLifts
  rw [io_words]
  kernel_rfl
theorem io_door : Tryz.pinned.checked.prog.doorFits [] = true := by kernel_rfl
theorem io_enter : Tryz.pinned.checked.prog.mayEnter = true := enter_of _ _ io_words io_lays io_refl io_door
theorem io_lifts : Tryz.pinned.checked.prog.liftsFinal = false := by
  unfold Program.liftsFinal
  rw [io_words, io_head]
  kernel_rfl
theorem io_make : Tryz.pinned.checked.prog.make = some .cut := make_of _ _ io_words
end Go.Proofs.YtomekmhonfofkaaGreat
namespace Go.Proofs.YtomekmhonfofkaaGreat
open Go.ChangeShapes Go.WideShapes Go.ChangeAt Go.RowKit Go.Joins
set_option linter.unusedVariables false
set_option maxRecDepth 100000
set_option linter.unusedSimpArgs false

theorem byte_wf {n : Int} (h : (Lit.int .u8 n).wf = true) : 0 ≤ n ∧ n ≤ 255 := by
  simp [Lit.wf, IntKind.min, IntKind.max, IntKind.signed, IntKind.bits] at h
  omega
theorem open_Y {H : Type} {enc : TypeId × Value → H} {W : World} {r : Reach} {b0 : Nat} {v : Value} {d : DataW H} {p : List MemPlace}
    (hv : Value.okWide Tryz.prog W r b0 22 v) (h : DataW.Trod enc Tryz.prog W 0 (fun _ => true) true 22 v d p) :
    ∃ (a : Option Addr) (n c : Nat), v = .slice a n c ∧ ArY W a n := by
  obtain ⟨a, n, c, rfl⟩ := okWide_slice Tryz.underlying22 hv
  obtain ⟨fuel, hf⟩ := h
  rcases open_ints Tryz.underlying22 Tryz.underlying5 (by kernel_rfl) hf with ⟨hcs, _⟩ | ⟨x, l, c', zs, hcs, _, hl, hm, hz, _, hcell, hwz⟩
  · simp only [Value.cells, List.cons.injEq, Value.slice.injEq, and_true] at hcs
    obtain ⟨rfl, rfl, rfl⟩ := hcs
    exact ⟨none, 0, 0, rfl, .inl rfl, Nat.zero_le _⟩
  · simp only [Value.cells, List.cons.injEq, Value.slice.injEq, and_true] at hcs
    obtain ⟨rfl, rfl, rfl⟩ := hcs
    simp only [if_true] at hz
    refine ⟨some x, n, c, rfl, ?_, ?_⟩
    · by_cases h0 : n = 0
      · exact .inl h0
      · obtain ⟨b, off, spot⟩ := x
        have hc := hcell 0 (by omega)
        have hspot : spot = none := by simpa [Addr.add] using World.cell?_spot hc
        subst hspot
        refine .inr ⟨b, off, rfl, ?_, fun i hi => ?_⟩
        · exact World.block_lt_of_cell? _ _ hc
        · have h1 := hcell i (by omega)
          have hi2 : i < zs.length := by omega
          have hw := byte_wf (hwz (zs.getD i 0) (by rw [List.getD_eq_getElem?_getD, List.getElem?_eq_getElem hi2]; exact List.getElem_mem _))
          refine ⟨zs.getD i 0, hw.1, hw.2, ?_⟩
          by_cases hi0 : i = 0
          · subst hi0; simpa [Addr.add] using h1
          · simpa [Addr.add, hi0] using h1
    · have := Nat.le_trans hl hm
      unfold maxLen at this
      omega
end Go.Proofs.YtomekmhonfofkaaGreat
