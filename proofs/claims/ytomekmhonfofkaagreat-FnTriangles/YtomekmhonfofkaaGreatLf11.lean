/- The corners left, as a map: of the whole way; their numbers in order. No condition beyond those typed. -/
import Derived.Test.YtomekmhonfofkaaGreatMp11
namespace Go.Proofs.YtomekmhonfofkaaGreat
open Go.RowKit Go.ChangeMaps
set_option linter.unusedVariables false
set_option maxRecDepth 100000
set_option linter.unusedSimpArgs false

theorem new_map0 (w : World) (l : List (Int × Int)) : (w.alloc (.map #[] 0)).heap[w.heap.size]? = some (.map (mpL l (List.range 0)).toArray 0) := by
  have : (w.alloc (.map #[] 0)).heap = w.heap.push (.map #[] 0) := rfl
  rw [this, Array.getElem?_push_size]
  rfl
set_option maxHeartbeats 4000000 in
theorem leftI (a : Option Addr) (n c : Nat) (l : List (Int × Int)) (w : World) (h : SlP w a l) (hn : l.length = n) (h0 : 0 < n) (h12 : n ≤ 12) :
    Calls Tryz.prog 24 #[.slice a n c] w fun e w' => e = .returned (.map (some w.heap.size)) ∧ w'.heap[w.heap.size]? = some (.map (mpL l (List.range n)).toArray n) ∧ Below w.heap.size w w' := by
  rcases h with e | ⟨q, off, rfl, hq, hc⟩
  · subst e; simp at hn; omega
  have HC : Hid (∀ k, k < n → w.cell? ⟨q, off + k * 2, none⟩ = some (.int .i64 (l.getD k (0, 0)).1) ∧ w.cell? ⟨q, off + k * 2 + 1, none⟩ = some (.int .i64 (l.getD k (0, 0)).2)) := hide (fun k hk => by
    have := hc k (by omega)
    rw [List.getD_eq_getElem?_getD, List.getElem?_eq_getElem (by omega)]
    exact this)
  have mk := make11 (n : Int)
  clear hc hn
  go_enter Tryz.func24, Tryz.ntmps24
  go_wp2
  go_loopw [11] (fun iv wr => ∃ i : Nat, i ≤ n ∧ iv = .int .i64 i ∧ Hid (wr.heap[w.heap.size]? = some (.map (mpL l (List.range i)).toArray i)) ∧ Hid (Below w.heap.size w wr)) (fun iv _ => n - (intOf iv).toNat)
  case atStart => exact ⟨0, Nat.zero_le _, rfl, hide (new_map0 w l), hide ((Below.refl _ _).alloc (Nat.le_refl _) _)⟩
  case round =>
    obtain ⟨i, hi, rfl, HM, HB⟩ := hrel
    by_cases hlt : i < n
    · have hlt' : (i : Int) < (n : Int) := by omega
      have c0 := ((unhide HB).cell (p := ⟨q, off + i * 2, none⟩) hq).trans (unhide HC i hlt).1
      have c1 := ((unhide HB).cell (p := ⟨q, off + i * 2 + 1, none⟩) hq).trans (unhide HC i hlt).2
      have SZ := (unhide HB).size
      have lt : w.heap.size < wr.heap.size := (Array.getElem?_eq_some_iff.1 (unhide HM)).1
      have NX := hide (mpL_snoc l (List.range i) i)
      generalize l.getD i (0, 0) = p at *
      have hb1 : (wr.alloc (.cells #[.int .i64 p.1, .int .i64 p.2] 37)).heap[w.heap.size]? = some (.map (mpL l (List.range i)).toArray i) := (((Below.refl wr.heap.size wr).alloc (Nat.le_refl _) _).block _ lt).trans (unhide HM)
      have hup := upd11 (v := .agg #[.int .i64 p.1, .int .i64 p.2]) (k := i) hb1 (fun k hk => by have := List.mem_range.1 hk; omega) (by omega) (by simp)
      have N1 := hide (set_at11 hb1 (.map ((mpL l (List.range i)).toArray.push ⟨.int .i64 (i : Int), .agg #[.int .i64 p.1, .int .i64 p.2], i⟩) (i + 1)))
      have N2 := hide ((set_but11 (w := wr.alloc (.cells #[.int .i64 p.1, .int .i64 p.2] 37)) (B := w.heap.size) (.map ((mpL l (List.range i)).toArray.push ⟨.int .i64 (i : Int), .agg #[.int .i64 p.1, .int .i64 p.2], i⟩) (i + 1))).below ((unhide HB).alloc SZ _) (Nat.le_refl _) (by simp; omega))
      have NX2 : Hid ((mpL l (List.range i)).toArray.push ⟨.int .i64 (i : Int), .agg #[.int .i64 p.1, .int .i64 p.2], i⟩ = (mpL l (List.range (i + 1))).toArray) := hide (by rw [List.range_succ]; exact unhide NX)
      rw [unhide NX2] at N1 N2 hup
      clear hb1 NX NX2 HM HB
      generalize (setBlock (wr.alloc (.cells #[.int .i64 p.1, .int .i64 p.2] 37)) w.heap.size (.map (mpL l (List.range (i + 1))).toArray (i + 1))) = w4 at *
      go_wp2
      go_roundw
      case rel => exact ⟨i + 1, by omega, by go_num, N1, N2⟩
      case measure => simp [intOf]; omega
    · obtain rfl : i = n := by omega
      go_wp2
      go_ret
      exact ⟨rfl, unhide HM, unhide HB⟩
end Go.Proofs.YtomekmhonfofkaaGreat
