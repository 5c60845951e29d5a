/- The row of runs, of both sides, by value. No condition beyond those typed. Written by mkfs15.py. -/
import Derived.Test.YtcgbpcipdanfhaaDoorFr15
namespace Go.Proofs.YtcgbpcipdanfhaaDoor
open Go.RowKit
set_option linter.unusedVariables false
set_option maxRecDepth 100000
set_option linter.unusedSimpArgs false

theorem RwI.blks {B : Nat} {w : World} {v : Value} {L : List Int} (h : RwI B w v L) : ∀ k, v.ownBlock = some k → k < w.heap.size := by
  rcases h.open with ⟨rfl, _⟩ | ⟨g, c', rfl, _, hgl, _⟩
  · intro k hk; simp [Value.ownBlock] at hk
  · intro k hk; simp [Value.ownBlock] at hk; subst hk; exact hgl
theorem sumM_mono {l : List (Int × Int)} (h : gRuns l = true) : ∀ k i, i + k ≤ l.length → sumM (l.take i) + k ≤ sumM (l.take (i + k))
  | 0, i, hi => by simp
  | k + 1, i, hi => by
    have ih := sumM_mono h k i (by omega)
    have f := gR_facts h (show i + k < l.length by omega)
    have st := sumM_take (show i + k < l.length by omega)
    rw [show i + (k + 1) = i + k + 1 by omega, st]
    omega
theorem sumM_le {l : List (Int × Int)} (h : gRuns l = true) {i : Nat} (hi : i ≤ l.length) : sumM (l.take i) ≤ sumM l := by
  have := sumM_mono h (l.length - i) i (by omega)
  rw [show i + (l.length - i) = l.length by omega, List.take_length] at this
  omega
theorem sumM_lt {l : List (Int × Int)} (h : gRuns l = true) {i : Nat} (hi : i < l.length) : sumM (l.take i) + 1 ≤ sumM l := by
  have := sumM_mono h (l.length - i) i (by omega)
  rw [show i + (l.length - i) = l.length by omega, List.take_length] at this
  omega
set_option maxHeartbeats 8000000 in
theorem fromS (a : Option Addr) (n c : Nat) (l : List (Int × Int)) (w : World) (h : SlP w a l) (hn : l.length = n) (h1 : n ≤ 1048576) (hg : gRuns l = true) :
    Calls Tryd.prog 51 #[.slice a n c] w fun e w' => ∃ v, e = .returned v ∧ Below w.heap.size w w' ∧ RwI w.heap.size w' v (exN l) := by
  obtain ⟨i0, hi0, hz0, hz1, hz2⟩ := info_parts Tryd.info3
  have HS := hide h
  have HN := hide hn
  have HG := hide hg
  clear h hn hg
  go_enter Tryd.func51, Tryd.ntmps51
  go_wp2
  go_loopw [3, 9] (fun v iv wr => ∃ i : Nat, i ≤ n ∧ iv = .int .i64 i ∧ Hid (RwI w.heap.size wr v (exN (l.take i))) ∧ Hid (Below w.heap.size w wr)) (fun _ iv _ => n - (intOf iv).toNat)
  case atStart => exact ⟨0, Nat.zero_le _, rfl, hide (by simpa [exN] using RwI.nil w.heap.size w), hide (Below.refl _ _)⟩
  case round =>
    obtain ⟨i, hi, rfl, HR, HB⟩ := hrel
    by_cases hlt : i < n
    · have hlt' : (i : Int) < (n : Int) := by omega
      have hil : i < l.length := by rw [unhide HN]; exact hlt
      rcases (unhide HS) with e | ⟨b, off, rfl, hb, hc⟩
      · exact absurd (unhide HN) (by rw [e]; simp; omega)
      have e0 := hc i hil
      have f0 := gR_facts (unhide HG) hil
      have s0 := gR_sum (unhide HG) i (by omega)
      have s1 := gR_sum (unhide HG) (i + 1) (by omega)
      have st := sumM_take hil
      have ext := exN_take hil
      obtain ⟨x, hv⟩ : ∃ v, v = l[i].1 := ⟨_, rfl⟩
      obtain ⟨M, hmv⟩ : ∃ M : Nat, (M : Int) = l[i].2 := ⟨l[i].2.toNat, by omega⟩
      rw [← hmv] at st f0 ext
      rw [← hv, Int.toNat_natCast] at ext
      have E0 : wr.cell? ⟨b, off + i * 2, none⟩ = some (.int .i64 x) := by rw [hv]; exact ((unhide HB).cell (p := ⟨b, off + i * 2, none⟩) hb).trans (e0.1)
      have E1 : wr.cell? ⟨b, off + i * 2 + 1, none⟩ = some (.int .i64 (M : Int)) := by rw [hmv]; exact ((unhide HB).cell (p := ⟨b, off + i * 2 + 1, none⟩) hb).trans (e0.2)
      have M1 : 1 ≤ M ∧ M ≤ 100 := by omega
      have TK : Hid (exN (l.take (i + 1)) = exN (l.take i) ++ List.replicate M x) := hide ext
      have LB : Hid ((exN (l.take i)).length + M ≤ 100) := hide (by omega)
      have NB0 := hide (RwI.blks (unhide HR))
      have BA : Below wr.heap.size wr (wr.alloc (.cells #[.int .i64 x, .int .i64 (M : Int)] 66)) := (Below.refl _ _).alloc (Nat.le_refl _) _
      have HB1 := hide (below_on (unhide HB) BA)
      have K0 : (wr.alloc (.cells #[.int .i64 x, .int .i64 (M : Int)] 66)).cell? ⟨wr.heap.size, 0, none⟩ = some (.int .i64 x) := by simp [go_sem]
      have K1 : (wr.alloc (.cells #[.int .i64 x, .int .i64 (M : Int)] 66)).cell? ⟨wr.heap.size, 1, none⟩ = some (.int .i64 (M : Int)) := by simp [go_sem]
      have NS : wr.heap.size < (wr.alloc (.cells #[.int .i64 x, .int .i64 (M : Int)] 66)).heap.size := by simp
      replace HR := hide ((unhide HR).later BA)
      clear e0 f0 s0 s1 st ext hv hmv hc BA HB
      go_upto_region 5 with fail
      generalize (wr.alloc (.cells #[.int .i64 x, .int .i64 (M : Int)] 66)) = w6 at *
      obtain ⟨wp, hwp⟩ : ∃ x, x = wr := ⟨_, rfl⟩
      subst hwp
      go_wp2
      go_loopw [3, 6] (fun v tv wr => ∃ (t : Nat) (v1 : Value), v1 = v ∧ t ≤ M ∧ tv = .int .i64 t ∧ Hid (RwI w.heap.size wr v (exN (l.take i) ++ List.replicate (M - t) x)) ∧ Hid (∀ k, v.ownBlock = some k → k ≠ wp.heap.size) ∧ wr.cell? ⟨wp.heap.size, 0, none⟩ = some (.int .i64 x) ∧ wp.heap.size < wr.heap.size ∧ Hid (Below w.heap.size w wr)) (fun _ tv _ => (intOf tv).toNat)
      case atStart => exact ⟨M, _, rfl, Nat.le_refl _, rfl, hide (by simpa using unhide HR), hide (fun k hk => Nat.ne_of_lt (unhide NB0 k hk)), K0, NS, HB1⟩
      case round =>
        clear K0 K1 NS HB1 HR NB0 E0 E1
        obtain ⟨t, v1, rfl, ht, rfl, HR, NB, K0, NS, HB⟩ := hrel
        by_cases h0 : 0 < t
        · have h0' : (0 : Int) < (t : Int) := by omega
          have wt : IntKind.i64.wrap ((t : Int) - 1) = (t : Int) - 1 := by rw [IntKind.wrap_i64]; omega
          have LL : Hid ((exN (l.take i) ++ List.replicate (M - t) x).length ≤ 100) := hide (by have := unhide LB; simp; omega)
          go_wp2_with (at_builtin; refine wpList_append_own_at _ rfl (.tmp 19) (.tmp 22) 23 rfl w.heap.size 3 i0 (.int .i64 0) 1 8 Tryd.underlying23 hi0 hz0 hz1 hz2 rfl (by decide) _ _ _ rfl ((unhide HR).row.alloc _) ⟨_, 0, none⟩ 1 1 [.int .i64 x] rfl rfl (new_cellI _ _) (fun u hu => by simp at hu; subst hu; rfl) (by unfold maxLen; have := unhide LL; omega) (by have := unhide LL; omega) (by have := (unhide HB).size; simp; omega) ?_)
          intro v' w7 hown hgr _ hat
          have RN : Hid (RwI w.heap.size w7 v' (exN (l.take i) ++ List.replicate (M - (t - 1)) x)) := hide (by
            rw [show M - (t - 1) = M - t + 1 by omega, List.replicate_succ', ← List.append_assoc]
            refine RwI.snoc ?_
            first | exact hown | simpa using hown)
          have NB2 : Hid (∀ k, v'.ownBlock = some k → k ≠ wp.heap.size) := hide (fun k hk => by
            rcases hat with e | e
            · exact unhide NB k (e ▸ hk)
            · rw [e] at hk
              have : k = (wr.alloc (.cells #[.int .i64 x] 3)).heap.size := by simpa using hk.symm
              simp at this
              omega)
          have K2 : w7.cell? ⟨wp.heap.size, 0, none⟩ = some (.int .i64 x) := hgr.cell (cell_later ((Below.refl _ _).alloc (Nat.le_refl _) _) K0) (fun e => unhide NB _ e.symm rfl)
          have HB2 := hide (owns_belowR (unhide HB) (unhide HB).size (unhide HR).row hgr)
          have NS2 : wp.heap.size < w7.heap.size := by have := hgr.size; simp at this; omega
          clear hown hgr hat HR NB K0 HB LL
          go_wp2
          go_roundw
          case rel => exact ⟨t - 1, _, rfl, by omega, by congr 1; omega, RN, NB2, K2, NS2, HB2⟩
          case measure => simp [intOf]; omega
        · obtain rfl : t = 0 := by omega
          have RN : Hid (RwI w.heap.size wr v1 (exN (l.take (i + 1)))) := hide (by rw [unhide TK]; simpa using unhide HR)
          clear HR NB K0 NS TK LB
          go_wp2
          go_roundw
          case rel => exact ⟨i + 1, by omega, by go_num, RN, HB⟩
          case measure => simp [intOf]; omega
    · obtain rfl : i = n := by omega
      have ET : l.take i = l := by rw [← unhide HN, List.take_length]
      rw [ET] at HR
      clear ET HS
      go_wp2
      go_ret
      exact ⟨_, rfl, unhide HB, unhide HR⟩
set_option maxHeartbeats 8000000 in
theorem rowI15 (a : Option Addr) (n c : Nat) (l : List (Int × Int)) (w : World) (h : SlP w a l) (hn : l.length = n) (h1 : n ≤ 1048576) (hg : gRuns l = true) :
    Calls Tryd.prog 45 #[.slice a n c] w fun e w' => ∃ g N, e = .returned (.slice (some ⟨g, 0, none⟩) N N) ∧ Below w.heap.size w w' ∧ N = (exN l).length ∧ N ≤ 100 ∧ RwI w.heap.size w' (.slice (some ⟨g, 0, none⟩) N N) (exN l) := by
  obtain ⟨i0, hi0, hz0, hz1, hz2⟩ := info_parts Tryd.info3
  have tot := gR_sum hg n (by omega)
  rw [← hn, List.take_length] at tot
  obtain ⟨N, hN⟩ : ∃ N : Nat, sumM l = (N : Int) := ⟨(sumM l).toNat, by omega⟩
  have CM := hide (manyI a n c l w h hn h1 hg)
  rw [hN] at CM
  have HS := hide h
  have HN := hide hn
  have HG := hide hg
  have TL : Hid ((exN l).length = N) := hide (by omega)
  have N1 : N ≤ 100 := by omega
  have TN : Hid (sumM l = (N : Int)) := hide hN
  clear h hn hg tot hN
  go_enter Tryd.func45, Tryd.ntmps45
  go_wp2_with fail
  refine (unhide CM).mono ?_
  rintro e w1 ⟨rfl, hb⟩
  have HB := hide hb
  clear hb CM
  go_wp2_with (at_make; refine wpList_make_full _ rfl _ _ 23 rfl w.heap.size 3 i0 (.int .i64 0) 1 Tryd.underlying23 hi0 hz0 hz1 .i64 .i64 _ _ N rfl rfl rfl rfl ?c1 ?c2 ?c3 ?_)
  case c1 => rw [hz2]; omega
  case c2 => unfold maxLen; omega
  case c3 => exact (unhide HB).size
  intro w2 hown hgrow
  have P0 : Hid (RwI w.heap.size w2 (.slice (some ⟨w1.heap.size, 0, none⟩) N N) (List.replicate N 0)) := hide ⟨by
    rw [List.length_replicate, List.map_replicate]
    have e : (madeCells #[Value.int .i64 0] N).toList = List.replicate N (Value.int .i64 0) := by simp only [madeCells]; apply List.ext_getElem <;> simp [Value.cells, Nat.mod_one]
    rw [← e]
    exact hown⟩
  have HB2 := hide ((unhide HB).grown hgrow (unhide HB).size (fun k e => by cases e))
  have gs : w1.heap.size < w2.heap.size := by have := (unhide P0).open; rcases this with ⟨e, _⟩ | ⟨g, c', e, _, hgl, _⟩
                                              · simp at e
                                              · simp at e; omega
  have g0 : w.heap.size ≤ w1.heap.size := (unhide HB).size
  clear hown hgrow HB
  generalize w1.heap.size = g at *
  go_wp2
  go_loopw [4, 13] (fun rv iv wr => ∃ (i o : Nat), i ≤ n ∧ iv = .int .i64 i ∧ (i < n → rv = .slice (some ⟨g, o, none⟩) (N - o) (N - o)) ∧ Hid ((o : Int) = sumM (l.take i)) ∧ Hid (∃ T, RwI w.heap.size wr (.slice (some ⟨g, 0, none⟩) N N) (exN (l.take i) ++ T) ∧ o + T.length = N) ∧ Hid (Below w.heap.size w wr)) (fun _ iv _ => n - (intOf iv).toNat)
  case atStart => exact ⟨0, 0, Nat.zero_le _, rfl, fun _ => rfl, hide (by simp [sumM]), hide ⟨List.replicate N 0, by simpa [exN] using unhide P0, by simp⟩, HB2⟩
  case round =>
    clear P0 HB2 gs
    obtain ⟨i, o, hi, rfl, hrv, EO, ER, HB⟩ := hrel
    by_cases hlt : i < n
    · have hlt' : (i : Int) < (n : Int) := by omega
      have hil : i < l.length := by rw [unhide HN]; exact hlt
      rcases (unhide HS) with e | ⟨b, off, rfl, hb, hc⟩
      · exact absurd (unhide HN) (by rw [e]; simp; omega)
      have e0 := hc i hil
      have f0 := gR_facts (unhide HG) hil
      have s0 := gR_sum (unhide HG) i (by omega)
      have s1 := gR_sum (unhide HG) (i + 1) (by omega)
      have st := sumM_take hil
      have ext := exN_take hil
      obtain ⟨x, hv⟩ : ∃ v, v = l[i].1 := ⟨_, rfl⟩
      obtain ⟨M, hmv⟩ : ∃ M : Nat, (M : Int) = l[i].2 := ⟨l[i].2.toNat, by omega⟩
      rw [← hmv] at st f0 ext
      rw [← hv, Int.toNat_natCast] at ext
      have E0 : wr.cell? ⟨b, off + i * 2, none⟩ = some (.int .i64 x) := by rw [hv]; exact ((unhide HB).cell (p := ⟨b, off + i * 2, none⟩) hb).trans (e0.1)
      have E1 : wr.cell? ⟨b, off + i * 2 + 1, none⟩ = some (.int .i64 (M : Int)) := by rw [hmv]; exact ((unhide HB).cell (p := ⟨b, off + i * 2 + 1, none⟩) hb).trans (e0.2)
      have M1 : 1 ≤ M ∧ M ≤ 100 := by omega
      obtain rfl := hrv hlt
      clear hrv
      obtain ⟨T, r, tl⟩ := unhide ER
      have so := unhide EO
      have lo : (exN (l.take i)).length = o := by omega
      have tot : sumM (l.take (i + 1)) ≤ (N : Int) ∧ (i + 1 < n → sumM (l.take (i + 1)) + 1 ≤ (N : Int)) := by
        rw [← unhide TN]
        refine ⟨sumM_le (unhide HG) (by omega), fun q => sumM_lt (unhide HG) (by have := unhide HN; omega)⟩
      have oM : o + M ≤ N := by omega
      have oL : i + 1 < n → o + M < N := fun q => by have := tot.2 q; omega
      have BA : Below wr.heap.size wr (wr.alloc (.cells #[.int .i64 x, .int .i64 (M : Int)] 66)) := (Below.refl _ _).alloc (Nat.le_refl _) _
      have HB1 := hide (below_on (unhide HB) BA)
      have K0 : (wr.alloc (.cells #[.int .i64 x, .int .i64 (M : Int)] 66)).cell? ⟨wr.heap.size, 0, none⟩ = some (.int .i64 x) := by simp [go_sem]
      have K1 : (wr.alloc (.cells #[.int .i64 x, .int .i64 (M : Int)] 66)).cell? ⟨wr.heap.size, 1, none⟩ = some (.int .i64 (M : Int)) := by simp [go_sem]
      have NS : wr.heap.size < (wr.alloc (.cells #[.int .i64 x, .int .i64 (M : Int)] 66)).heap.size := by simp
      have gl : g < wr.heap.size := by rcases r.open with ⟨e, _⟩ | ⟨g', c', e, _, hgl, _⟩
                                       · simp at e
                                       · simp at e; omega
      have CF := hide (fun w' (k : RwI w.heap.size w' (.slice (some ⟨g, 0, none⟩) N N) (exN (l.take i) ++ T)) => fillI w.heap.size g N N o (N - o) (N - o) _ x w' k (by rw [List.length_append, lo]; omega) (by omega) (by omega))
      have R1 := hide (r.later BA)
      have EQ : Hid ((exN (l.take i) ++ T).take o ++ List.replicate (N - o) x = exN (l.take (i + 1)) ++ List.replicate (N - o - M) x) := hide (by
        rw [ext, ← lo, List.take_left, List.append_assoc, List.replicate_append_replicate, lo]
        congr 2; omega)
      have EO2 : Hid (((o + M : Nat) : Int) = sumM (l.take (i + 1))) := hide (by rw [st, ← so]; simp)
      clear e0 f0 s0 s1 st ext hv hmv hc BA HB r so ER EO tot tl
      replace lo := hide lo
      go_upto_region 6 with fail
      generalize (wr.alloc (.cells #[.int .i64 x, .int .i64 (M : Int)] 66)) = w6 at *
      go_wp2_with fail
      refine (unhide CF _ (unhide R1)).mono ?_
      rintro e w7 ⟨rfl, hb, r7⟩
      rw [unhide EQ] at r7
      have R7 := hide r7
      have K2 : w7.cell? ⟨wr.heap.size, 1, none⟩ = some (.int .i64 (M : Int)) := hb.cell K1 (.inr (by show g + 1 ≤ wr.heap.size; omega))
      have HB7 := hide (hb.below (unhide HB1) g0 (by omega))
      clear r7 hb R1 K0 K1 CF HB1 EQ E0 E1
      by_cases hend : o + M = N
      · have hM : M = N - o := by omega
        have hin : i + 1 = n := by have := fun q => oL q; omega
        have RE := hide (show ∃ T, RwI w.heap.size w7 (.slice (some ⟨g, 0, none⟩) N N) (exN (l.take (i + 1)) ++ T) ∧ o + M + T.length = N from ⟨_, unhide R7, by simp; omega⟩)
        have c1 : ((N - o : Nat) : Int) - (M : Int) = 0 := by omega
        clear R7
        go_wp2
        go_roundw
        case rel => exact ⟨i + 1, o + M, by omega, by go_num, fun q => by omega, EO2, RE, HB7⟩
        case measure => simp [intOf]; omega
      · have hM : M < N - o := by omega
        have RE := hide (show ∃ T, RwI w.heap.size w7 (.slice (some ⟨g, 0, none⟩) N N) (exN (l.take (i + 1)) ++ T) ∧ o + M + T.length = N from ⟨_, unhide R7, by simp; omega⟩)
        have a1 : (M : Int) ≤ ((N - o : Nat) : Int) := by omega
        have a3 : (((N - o : Nat) : Int) - (M : Int)).toNat = N - (o + M) := by omega
        have a4 : N - o - M = N - (o + M) := by omega
        clear R7
        go_wp2
        go_roundw
        case rel => exact ⟨i + 1, o + M, by omega, by go_num, fun q => by first | rfl | (congr 2 <;> omega), EO2, RE, HB7⟩
        case measure => simp [intOf]; omega
    · obtain rfl : i = n := by omega
      have ET : l.take i = l := by rw [← unhide HN, List.take_length]
      rw [ET] at ER EO
      have RE := hide (show RwI w.heap.size wr (.slice (some ⟨g, 0, none⟩) N N) (exN l) from by
        obtain ⟨T, r, tl⟩ := unhide ER
        have : T = [] := List.length_eq_zero_iff.1 (by have := unhide EO; have := unhide TN; omega)
        rw [this, List.append_nil] at r
        exact r)
      clear ET HS ER
      go_wp2
      go_ret
      exact ⟨_, _, rfl, unhide HB, (unhide TL).symm, N1, unhide RE⟩
/-- What FromRuns tells. -/
def frV (l : List (Int × Int)) : List Int := if gRuns l = true then exN l else []
theorem exN_le {l : List (Int × Int)} (h : gRuns l = true) : (exN l).length ≤ 100 := by
  have := gR_sum h l.length (Nat.le_refl _)
  rw [List.take_length] at this
  omega
theorem rti_nil15 {B : Nat} {w : World} : RtI B w none 0 0 [] := ⟨rfl, .inl rfl⟩
set_option maxHeartbeats 2000000 in
theorem FromRunsS (a : Option Addr) (n c : Nat) (l : List (Int × Int)) (w : World) (h : ArP w a n c l) (h1 : n ≤ 1048576) :
    Calls Tryd.prog 20 #[.slice a n c] w fun e w' => ∃ a' n' c', e = .returned (.tuple #[.slice a' n' c', .bool (gRuns l)]) ∧ Below w.heap.size w w' ∧ RtI w.heap.size w' a' n' c' (frV l) ∧ n' ≤ 1048576 := by
  have HA := hide h.sl
  have C1 := hide (fun w (k : SlP w a l) => gRunS a n c l w k h.len (by unfold maxLen; omega))
  cases hg : gRuns l
  · have EV : frV l = [] := by unfold frV; rw [hg]; rfl
    rw [EV]
    rw [hg] at C1
    clear hg EV h
    go_enter Tryd.func20, Tryd.ntmps20
    go_wp2_with fail
    refine (unhide C1 _ (unhide HA)).mono ?_
    rintro e w1 ⟨rfl, hb⟩
    go_wp2_with fail
    go_ret2
    exact ⟨none, 0, 0, rfl, hb, rti_nil15, by omega⟩
  · have EV : frV l = exN l := by unfold frV; rw [hg]; rfl
    have C2 := hide (fun w (k : SlP w a l) => fromS a n c l w k h.len h1 hg)
    have LB := hide (exN_le hg)
    rw [EV]
    rw [hg] at C1
    clear hg EV h
    go_enter Tryd.func20, Tryd.ntmps20
    go_wp2_with fail
    refine (unhide C1 _ (unhide HA)).mono ?_
    rintro e w1 ⟨rfl, hb⟩
    replace HA := hide ((unhide HA).later hb)
    have HB := hide hb
    clear hb
    go_wp2_with fail
    refine (unhide C2 _ (unhide HA)).mono ?_
    rintro e w2 ⟨v, rfl, hb, hr⟩
    have HR := hide (hr.mono (unhide HB).size)
    replace HB := hide (below_on (unhide HB) hb)
    clear hb hr
    obtain ⟨a', c', er, r⟩ := (unhide HR).rt
    subst er
    go_wp2_with fail
    go_ret2
    exact ⟨_, _, _, rfl, unhide HB, r, by have := unhide LB; omega⟩
set_option maxHeartbeats 2000000 in
theorem FromRunsI (a : Option Addr) (n c : Nat) (l : List (Int × Int)) (w : World) (h : ArP w a n c l) (h1 : n ≤ 1048576) :
    Calls Tryd.prog 12 #[.slice a n c] w fun e w' => ∃ a' n' c', e = .returned (.tuple #[.slice a' n' c', .bool (gRuns l)]) ∧ Below w.heap.size w w' ∧ RtI w.heap.size w' a' n' c' (frV l) ∧ n' ≤ 1048576 := by
  have HA := hide h.sl
  have C1 := hide (fun w (k : SlP w a l) => gRunI a n c l w k h.len (by unfold maxLen; omega))
  cases hg : gRuns l
  · have EV : frV l = [] := by unfold frV; rw [hg]; rfl
    rw [EV]
    rw [hg] at C1
    clear hg EV h
    go_enter Tryd.func12, Tryd.ntmps12
    go_wp2_with fail
    refine (unhide C1 _ (unhide HA)).mono ?_
    rintro e w1 ⟨rfl, hb⟩
    go_wp2_with fail
    go_ret2
    exact ⟨none, 0, 0, rfl, hb, rti_nil15, by omega⟩
  · have EV : frV l = exN l := by unfold frV; rw [hg]; rfl
    have C2 := hide (fun w (k : SlP w a l) => rowI15 a n c l w k h.len h1 hg)
    have LB := hide (exN_le hg)
    rw [EV]
    rw [hg] at C1
    clear hg EV h
    go_enter Tryd.func12, Tryd.ntmps12
    go_wp2_with fail
    refine (unhide C1 _ (unhide HA)).mono ?_
    rintro e w1 ⟨rfl, hb⟩
    replace HA := hide ((unhide HA).later hb)
    have HB := hide hb
    clear hb
    go_wp2_with fail
    refine (unhide C2 _ (unhide HA)).mono ?_
    rintro e w2 ⟨g, N, rfl, hb, _, _, hr⟩
    have HR := hide (hr.mono (unhide HB).size)
    replace HB := hide (below_on (unhide HB) hb)
    clear hb hr
    obtain ⟨a', c', er, r⟩ := (unhide HR).rt
    obtain ⟨rfl, rfl, rfl⟩ : some ⟨g, 0, none⟩ = a' ∧ N = (exN l).length ∧ N = c' := by simpa using er
    go_wp2_with fail
    go_ret2
    exact ⟨_, _, _, rfl, unhide HB, r, by have := unhide LB; omega⟩
end Go.Proofs.YtcgbpcipdanfhaaDoor
