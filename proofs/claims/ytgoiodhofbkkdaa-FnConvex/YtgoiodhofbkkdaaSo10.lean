/- Chapter 10 of the specification: points sorted, each once. No condition beyond those typed. Written by mkso10.py. -/
import Derived.Test.YtgoiodhofbkkdaaCh10
import Derived.Test.YtgoiodhofbkkdaaSp10
import Derived.Maps.AppendAt
import Derived.Laws.AppendOwnNone
namespace Go.Proofs.Ytgoiodhofbkkdaa
open Go.RowKit
set_option linter.unusedVariables false
set_option maxRecDepth 100000
set_option linter.unusedSimpArgs false

theorem pos_eq {p : Int × Int} : ∀ {l : List (Int × Int)} {k : Nat}, (∀ j, j < k → ltP (l.getD j (0, 0)) p = true) → k ≤ l.length → (k = l.length ∨ ltP (l.getD k (0, 0)) p = false) → posP l p = k
  | [], k, _, h, _ => by simp at h; subst h; simp [posP]
  | q :: r, 0, _, _, h2 => by
    have : ltP q p = false := by rcases h2 with h | h; exact absurd h (by simp); simpa using h
    simp [posP, this]
  | q :: r, k + 1, h1, hk, h2 => by
    have h0 : ltP q p = true := by simpa using h1 0 (by omega)
    have ih := pos_eq (p := p) (l := r) (k := k) (fun j hj => by simpa using h1 (j + 1) (by omega)) (by simp at hk; omega) (by simpa using h2)
    unfold posP at ih ⊢
    rw [List.takeWhile_cons, h0]
    simp [ih]
theorem ins_ne (l : List (Int × Int)) (p : Int × Int) : insP l p ≠ [] := by
  cases l with
  | nil => simp [insP]
  | cons q r => unfold insP; split; simp; split <;> simp
theorem RwP.mono {B B' : Nat} {w : World} {v : Value} {L : List (Int × Int)} (h : RwP B w v L) (hb : B' ≤ B) : RwP B' w v L := ⟨owns_mono h.row hb⟩
theorem RwP.blk {B : Nat} {w : World} {v : Value} {L : List (Int × Int)} (h : RwP B w v L) : ∀ k, v.ownBlock = some k → B ≤ k := by
  rcases h.open with ⟨rfl, _⟩ | ⟨g, c, rfl, hB, _⟩
  · intro k hk; simp [Value.ownBlock] at hk
  · intro k hk; rw [own_at _ _ _ k hk]; exact hB
theorem empty_rw (w : World) : RwP w.heap.size (w.alloc (.cells #[] 31)) (.slice (some ⟨w.heap.size, 0, none⟩) 0 0) [] := ⟨empty_row w _ (Nat.le_refl _)⟩
theorem snoc_len (L : List (Int × Int)) (p : Int × Int) : (L ++ [p]).length = L.length + 1 := by simp
theorem RwP.snoc {B : Nat} {w : World} {v : Value} {L : List (Int × Int)} {p : Int × Int} (h : w.ownsRow B 31 2 v (L.length + 1) (flatP L ++ [.int .i64 p.1, .int .i64 p.2])) : RwP B w v (L ++ [p]) :=
  ⟨by rw [flatP_append, show flatP [p] = [.int .i64 p.1, .int .i64 p.2] from flatP_one p.1 p.2, snoc_len]; exact h⟩
theorem RwP.join {B n : Nat} {w : World} {v : Value} {L M : List (Int × Int)} (h : w.ownsRow B 31 2 v (L.length + n) (flatP L ++ flatP M)) (hn : M.length = n) : RwP B w v (L ++ M) :=
  ⟨by rw [flatP_append, List.length_append, hn]; exact h⟩
theorem RwP.at_ {B g n c : Nat} {w : World} {L : List (Int × Int)} (h : RwP B w (.slice (some ⟨g, 0, none⟩) n c) L) {i : Nat} (hi : i < L.length) : w.cell? ⟨g, i * 2, none⟩ = some (.int .i64 (L.getD i (0, 0)).1) ∧ w.cell? ⟨g, i * 2 + 1, none⟩ = some (.int .i64 (L.getD i (0, 0)).2) := by
  rcases h.open with ⟨h', _⟩ | ⟨g', c', h', _, _, _, _, h5⟩
  · cases h'
  · simp only [Value.slice.injEq, Option.some.injEq, Addr.mk.injEq, and_true, true_and] at h'
    obtain ⟨rfl, -, -⟩ := h'
    rw [getD_gt hi]
    exact h5 i hi
theorem RwP.news {B g n c : Nat} {w : World} {L : List (Int × Int)} (h : RwP B w (.slice (some ⟨g, 0, none⟩) n c) L) (s m : Nat) (hs : s + m ≤ L.length) :
    ∀ j u, (flatP ((L.drop s).take m))[j]? = some u → w.cell? ((⟨g, s * 2, none⟩ : Addr).add j) = some u := by
  have k := sl_news (w := w) (b := g) (off := 0) (l := L) (fun i hi => by have := h.at_ hi; rw [getD_gt hi] at this; simpa using this) s m hs
  rw [Nat.zero_add] at k
  exact k
theorem put_at {S : List (Int × Int)} {p : Int × Int} {k : Nat} (hp : posP S p = k) (hn : k < S.length → S.getD k (0, 0) ≠ p) : insP S p = S.take k ++ [p] ++ S.drop k := by
  rw [ins_at, hp, if_neg (fun h => hn h.1 h.2)]
  simp
theorem put_not {S : List (Int × Int)} {p : Int × Int} {k : Nat} (hp : posP S p = k) (hk : k < S.length) (hn : S.getD k (0, 0) = p) : insP S p = S := by
  rw [ins_at, hp, if_pos ⟨hk, hn⟩]
set_option maxHeartbeats 8000000 in
theorem sortS (a : Option Addr) (n c : Nat) (l : List (Int × Int)) (w : World) (h : SlP w a l) (hn : l.length = n) (h1 : n ≤ 100) :
    Calls Try.prog 51 #[.slice a n c] w fun e w' => ∃ v, e = .returned v ∧ Below w.heap.size w w' ∧ RwP w.heap.size w' v (sortP l) := by
  obtain ⟨i0, hi, hz0, hz1, hz2⟩ := info_parts infoPt
  have HS := hide h
  have HN := hide hn
  clear h hn
  go_enter Try.func51, Try.ntmps51
  go_wp2
  go_loopw [3, 10] (fun v iv wr => ∃ i : Nat, i ≤ n ∧ iv = .int .i64 i ∧ Hid (RwP w.heap.size wr v ((l.take i).foldl insP []) ∧ ((l.take i).foldl insP []).length ≤ i ∧ ((l.take i).foldl insP [] = [] → v = .slice none 0 0)) ∧ Hid (Below w.heap.size w wr)) (fun _ iv _ => n - (intOf iv).toNat)
  case atStart => exact ⟨0, Nat.zero_le _, rfl, hide ⟨by simp; exact RwP.nil _ _, by simp, fun _ => rfl⟩, hide (Below.refl _ _)⟩
  case round =>
    obtain ⟨i, hi', rfl, HR, HB⟩ := hrel
    by_cases hlt : i < n
    · have hlt' : (i : Int) < (n : Int) := by omega
      rcases (unhide HS) with e | ⟨b, off, rfl, hb, hc⟩
      · exact absurd (unhide HN) (by rw [e]; simp; omega)
      have e0 := hc i (by rw [unhide HN]; exact hlt)
      have EC : Hid ((l.take (i + 1)).foldl insP [] = insP ((l.take i).foldl insP []) (l[i]'(by rw [unhide HN]; exact hlt))) := hide (by rw [List.take_succ_eq_append_getElem (by rw [unhide HN]; exact hlt), List.foldl_append]; rfl)
      generalize l[i]'(by rw [unhide HN]; exact hlt) = p at *
      generalize (l.take i).foldl insP [] = S at *
      have E0 : wr.cell? ⟨b, off + i * 2, none⟩ = some (.int .i64 p.1) := ((unhide HB).cell (p := ⟨b, off + i * 2, none⟩) hb).trans (e0.1)
      have E1 : wr.cell? ⟨b, off + i * 2 + 1, none⟩ = some (.int .i64 p.2) := ((unhide HB).cell (p := ⟨b, off + i * 2 + 1, none⟩) hb).trans (e0.2)
      clear e0 hc
      have al : Below wr.heap.size wr (wr.alloc (.cells #[.int .i64 p.1, .int .i64 p.2] 31)) := (Below.refl _ _).alloc (Nat.le_refl _) _
      have HR2 := hide ((unhide HR).1.later al)
      have HL : Hid (S.length ≤ i) := hide (unhide HR).2.1
      have LI : Hid ((insP S p).length ≤ i + 1) := hide (by have := ins_len p S; have := unhide HL; omega)
      have HNL := hide (unhide HR).2.2
      have HBO := hide (below_on (unhide HB) al)
      have KP : Hid ((wr.alloc (.cells #[.int .i64 p.1, .int .i64 p.2] 31)).cell? ⟨wr.heap.size, 0, none⟩ = some (.int .i64 p.1) ∧ (wr.alloc (.cells #[.int .i64 p.1, .int .i64 p.2] 31)).cell? ⟨wr.heap.size, 1, none⟩ = some (.int .i64 p.2)) := hide (by simp [go_sem])
      have ltPX : wr.heap.size < (wr.alloc (.cells #[.int .i64 p.1, .int .i64 p.2] 31)).heap.size := by simp
      clear al HR HB
      obtain ⟨wo, hwo⟩ : ∃ x, x = wr := ⟨_, rfl⟩
      subst hwo
      go_wp2
      clear E0 E1
      generalize wo.alloc (.cells #[.int .i64 p.1, .int .i64 p.2] 31) = w2 at *
      generalize wo.heap.size = PX at *
      by_cases hS : S = []
      · subst hS
        have ev := unhide HNL rfl
        subst ev
        go_loopw [6] (fun kv wr => kv = .int .i64 0 ∧ Hid (RwP w.heap.size wr (.slice none 0 0) []) ∧ Hid (Below w2.heap.size w2 wr)) (fun _ _ => 0)
        case atStart => exact ⟨rfl, HR2, hide (Below.refl _ _)⟩
        case round =>
          clear HR2
          obtain ⟨rfl, RW, HB⟩ := hrel
          have e0 : wr.cell? ⟨PX, 0, none⟩ = some (.int .i64 p.1) := ((unhide HB).cell (p := ⟨PX, 0, none⟩) ltPX).trans (unhide KP).1
          have e1 : wr.cell? ⟨PX, 1, none⟩ = some (.int .i64 p.2) := ((unhide HB).cell (p := ⟨PX, 1, none⟩) ltPX).trans (unhide KP).2
          go_upto_region 6 with fail
          refine wp_region_held_drew (S := fun w' => w'.cell? ⟨PX, 0, none⟩ = some (.int .i64 p.1) ∧ w'.cell? ⟨PX, 1, none⟩ = some (.int .i64 p.2)) (by kernel_rfl) ⟨e0, e1⟩ (fun hHeld => ?_)
          simp only [List.size_toArray, List.length_cons, List.length_nil, Nat.reduceAdd, Array.replicate_succ, Array.replicate_zero, List.push_toArray, List.nil_append, List.cons_append]
          refine wpAnyH_take (i := 0) (v := .int .i64 0) rfl (by kernel_rfl) (by kernel_rfl) (by kernel_rfl) (fun _ _ _ h => h) (Or.inl ⟨by rfl, by intro w hSw; (try dsimp only at hSw); go_simp⟩) hHeld ?_
          simp only [List.getElem_toArray, List.getElem_cons_zero, List.getElem_cons_succ, Act.put, List.setIfInBounds_toArray, List.set_cons_zero, List.set_cons_succ]
          refine wpAnyH_take (i := 1) (v := .slice none 0 0) rfl (by kernel_rfl) (by kernel_rfl) (by kernel_rfl) (fun _ _ _ h => h) (Or.inl ⟨by rfl, by intro w hSw; (try dsimp only at hSw); go_simp⟩) hHeld ?_
          simp only [List.getElem_toArray, List.getElem_cons_zero, List.getElem_cons_succ, Act.put, List.setIfInBounds_toArray, List.set_cons_zero, List.set_cons_succ]
          refine wpAnyH_take (i := 2) (v := .int .i64 0) rfl (by kernel_rfl) (by kernel_rfl) (by kernel_rfl) (fun _ _ _ h => h) (Or.inl ⟨by rfl, by intro w hSw; (try dsimp only at hSw); go_simp⟩) hHeld ?_
          simp only [List.getElem_toArray, List.getElem_cons_zero, List.getElem_cons_succ, Act.put, List.setIfInBounds_toArray, List.set_cons_zero, List.set_cons_succ]
          refine wpAnyH_take (i := 3) (v := .bool false) rfl (by kernel_rfl) (by kernel_rfl) (by kernel_rfl) (fun _ _ _ h => h) (Or.inl ⟨by rfl, by intro w hSw; (try dsimp only at hSw); go_simp⟩) hHeld ?_
          simp only [List.getElem_toArray, List.getElem_cons_zero, List.getElem_cons_succ, Act.put, List.setIfInBounds_toArray, List.set_cons_zero, List.set_cons_succ]
          refine wpAnyH_take (i := 4) (v := .bool false) rfl (by kernel_rfl) (by kernel_rfl) (by kernel_rfl) (fun _ _ _ h => h) (Or.inl ⟨by rfl, by intro w hSw; (try dsimp only at hSw); go_simp⟩) hHeld ?_
          simp only [List.getElem_toArray, List.getElem_cons_zero, List.getElem_cons_succ, Act.put, List.setIfInBounds_toArray, List.set_cons_zero, List.set_cons_succ]
          refine wpAnyH_take (i := 5) (v := undef) rfl (by kernel_rfl) (by kernel_rfl) (by kernel_rfl) (fun _ _ _ h => h) (Or.inr ⟨by kernel_rfl, rfl⟩) hHeld ?_
          simp only [List.getElem_toArray, List.getElem_cons_zero, List.getElem_cons_succ, Act.put, List.setIfInBounds_toArray, List.set_cons_zero, List.set_cons_succ]
          refine wpAnyH_take (i := 6) (v := undef) rfl (by kernel_rfl) (by kernel_rfl) (by kernel_rfl) (fun _ _ _ h => h) (Or.inr ⟨by kernel_rfl, rfl⟩) hHeld ?_
          simp only [List.getElem_toArray, List.getElem_cons_zero, List.getElem_cons_succ, Act.put, List.setIfInBounds_toArray, List.set_cons_zero, List.set_cons_succ]
          refine wpAnyH_take (i := 7) (v := undef) rfl (by kernel_rfl) (by kernel_rfl) (by kernel_rfl) (fun _ _ _ h => h) (Or.inr ⟨by kernel_rfl, rfl⟩) hHeld ?_
          simp only [List.getElem_toArray, List.getElem_cons_zero, List.getElem_cons_succ, Act.put, List.setIfInBounds_toArray, List.set_cons_zero, List.set_cons_succ]
          refine wpAnyH_take (i := 8) (v := undef) rfl (by kernel_rfl) (by kernel_rfl) (by kernel_rfl) (fun _ _ _ h => h) (Or.inr ⟨by kernel_rfl, rfl⟩) hHeld ?_
          simp only [List.getElem_toArray, List.getElem_cons_zero, List.getElem_cons_succ, Act.put, List.setIfInBounds_toArray, List.set_cons_zero, List.set_cons_succ]
          refine wpAnyH_take (i := 9) (v := undef) rfl (by kernel_rfl) (by kernel_rfl) (by kernel_rfl) (fun _ _ _ h => h) (Or.inr ⟨by kernel_rfl, rfl⟩) hHeld ?_
          simp only [List.getElem_toArray, List.getElem_cons_zero, List.getElem_cons_succ, Act.put, List.setIfInBounds_toArray, List.set_cons_zero, List.set_cons_succ]
          refine wpAnyH_take (i := 10) (v := undef) rfl (by kernel_rfl) (by kernel_rfl) (by kernel_rfl) (fun _ _ _ h => h) (Or.inr ⟨by kernel_rfl, rfl⟩) hHeld ?_
          simp only [List.getElem_toArray, List.getElem_cons_zero, List.getElem_cons_succ, Act.put, List.setIfInBounds_toArray, List.set_cons_zero, List.set_cons_succ]
          refine wpAnyH_take (i := 11) (v := .bool false) rfl (by kernel_rfl) (by kernel_rfl) (by kernel_rfl) (fun _ _ _ h => h) (Or.inl ⟨by rfl, by intro w hSw; (try dsimp only at hSw); go_simp⟩) hHeld ?_
          simp only [List.getElem_toArray, List.getElem_cons_zero, List.getElem_cons_succ, Act.put, List.setIfInBounds_toArray, List.set_cons_zero, List.set_cons_succ]
          refine wpAnyH_done (by kernel_rfl) ?_ _
          clear hHeld
          replace RW := hide ((unhide RW).later (Below.refl _ _).drew)
          replace HB := hide (unhide HB).drew
          replace e0 := cdP e0
          replace e1 := cdP e1
          generalize hwd : wr.drew = wd at *
          clear hwd
          obtain ⟨wr, hwr⟩ : ∃ x, x = wd := ⟨_, rfl⟩
          subst hwr
          go_upto_region 8 with fail
          refine wp_region_held_drew (S := fun w' => w'.cell? ⟨PX, 0, none⟩ = some (.int .i64 p.1) ∧ w'.cell? ⟨PX, 1, none⟩ = some (.int .i64 p.2)) (by kernel_rfl) ⟨e0, e1⟩ (fun hHeld => ?_)
          simp only [List.size_toArray, List.length_cons, List.length_nil, Nat.reduceAdd, Array.replicate_succ, Array.replicate_zero, List.push_toArray, List.nil_append, List.cons_append]
          refine wpAnyH_take (i := 0) (v := .int .i64 0) rfl (by kernel_rfl) (by kernel_rfl) (by kernel_rfl) (fun _ _ _ h => h) (Or.inl ⟨by rfl, by intro w hSw; (try dsimp only at hSw); go_simp⟩) hHeld ?_
          simp only [List.getElem_toArray, List.getElem_cons_zero, List.getElem_cons_succ, Act.put, List.setIfInBounds_toArray, List.set_cons_zero, List.set_cons_succ]
          refine wpAnyH_take (i := 1) (v := .slice none 0 0) rfl (by kernel_rfl) (by kernel_rfl) (by kernel_rfl) (fun _ _ _ h => h) (Or.inl ⟨by rfl, by intro w hSw; (try dsimp only at hSw); go_simp⟩) hHeld ?_
          simp only [List.getElem_toArray, List.getElem_cons_zero, List.getElem_cons_succ, Act.put, List.setIfInBounds_toArray, List.set_cons_zero, List.set_cons_succ]
          refine wpAnyH_take (i := 2) (v := .int .i64 0) rfl (by kernel_rfl) (by kernel_rfl) (by kernel_rfl) (fun _ _ _ h => h) (Or.inl ⟨by rfl, by intro w hSw; (try dsimp only at hSw); go_simp⟩) hHeld ?_
          simp only [List.getElem_toArray, List.getElem_cons_zero, List.getElem_cons_succ, Act.put, List.setIfInBounds_toArray, List.set_cons_zero, List.set_cons_succ]
          refine wpAnyH_take (i := 3) (v := .bool false) rfl (by kernel_rfl) (by kernel_rfl) (by kernel_rfl) (fun _ _ _ h => h) (Or.inl ⟨by rfl, by intro w hSw; (try dsimp only at hSw); go_simp⟩) hHeld ?_
          simp only [List.getElem_toArray, List.getElem_cons_zero, List.getElem_cons_succ, Act.put, List.setIfInBounds_toArray, List.set_cons_zero, List.set_cons_succ]
          refine wpAnyH_take (i := 4) (v := .bool false) rfl (by kernel_rfl) (by kernel_rfl) (by kernel_rfl) (fun _ _ _ h => h) (Or.inl ⟨by rfl, by intro w hSw; (try dsimp only at hSw); go_simp⟩) hHeld ?_
          simp only [List.getElem_toArray, List.getElem_cons_zero, List.getElem_cons_succ, Act.put, List.setIfInBounds_toArray, List.set_cons_zero, List.set_cons_succ]
          refine wpAnyH_take (i := 5) (v := undef) rfl (by kernel_rfl) (by kernel_rfl) (by kernel_rfl) (fun _ _ _ h => h) (Or.inr ⟨by kernel_rfl, rfl⟩) hHeld ?_
          simp only [List.getElem_toArray, List.getElem_cons_zero, List.getElem_cons_succ, Act.put, List.setIfInBounds_toArray, List.set_cons_zero, List.set_cons_succ]
          refine wpAnyH_take (i := 6) (v := undef) rfl (by kernel_rfl) (by kernel_rfl) (by kernel_rfl) (fun _ _ _ h => h) (Or.inr ⟨by kernel_rfl, rfl⟩) hHeld ?_
          simp only [List.getElem_toArray, List.getElem_cons_zero, List.getElem_cons_succ, Act.put, List.setIfInBounds_toArray, List.set_cons_zero, List.set_cons_succ]
          refine wpAnyH_take (i := 7) (v := undef) rfl (by kernel_rfl) (by kernel_rfl) (by kernel_rfl) (fun _ _ _ h => h) (Or.inr ⟨by kernel_rfl, rfl⟩) hHeld ?_
          simp only [List.getElem_toArray, List.getElem_cons_zero, List.getElem_cons_succ, Act.put, List.setIfInBounds_toArray, List.set_cons_zero, List.set_cons_succ]
          refine wpAnyH_take (i := 8) (v := undef) rfl (by kernel_rfl) (by kernel_rfl) (by kernel_rfl) (fun _ _ _ h => h) (Or.inr ⟨by kernel_rfl, rfl⟩) hHeld ?_
          simp only [List.getElem_toArray, List.getElem_cons_zero, List.getElem_cons_succ, Act.put, List.setIfInBounds_toArray, List.set_cons_zero, List.set_cons_succ]
          refine wpAnyH_take (i := 9) (v := undef) rfl (by kernel_rfl) (by kernel_rfl) (by kernel_rfl) (fun _ _ _ h => h) (Or.inr ⟨by kernel_rfl, rfl⟩) hHeld ?_
          simp only [List.getElem_toArray, List.getElem_cons_zero, List.getElem_cons_succ, Act.put, List.setIfInBounds_toArray, List.set_cons_zero, List.set_cons_succ]
          refine wpAnyH_take (i := 10) (v := undef) rfl (by kernel_rfl) (by kernel_rfl) (by kernel_rfl) (fun _ _ _ h => h) (Or.inr ⟨by kernel_rfl, rfl⟩) hHeld ?_
          simp only [List.getElem_toArray, List.getElem_cons_zero, List.getElem_cons_succ, Act.put, List.setIfInBounds_toArray, List.set_cons_zero, List.set_cons_succ]
          refine wpAnyH_take (i := 11) (v := .bool false) rfl (by kernel_rfl) (by kernel_rfl) (by kernel_rfl) (fun _ _ _ h => h) (Or.inl ⟨by rfl, by intro w hSw; (try dsimp only at hSw); go_simp⟩) hHeld ?_
          simp only [List.getElem_toArray, List.getElem_cons_zero, List.getElem_cons_succ, Act.put, List.setIfInBounds_toArray, List.set_cons_zero, List.set_cons_succ]
          refine wpAnyH_done (by kernel_rfl) ?_ _
          clear hHeld
          replace RW := hide ((unhide RW).later (Below.refl _ _).drew)
          replace HB := hide (unhide HB).drew
          replace e0 := cdP e0
          replace e1 := cdP e1
          generalize hwd : wr.drew = wd at *
          clear hwd
          obtain ⟨wr, hwr⟩ : ∃ x, x = wd := ⟨_, rfl⟩
          subst hwr
          have EI : Hid (insP [] p = [p]) := hide rfl
          replace HBO := hide (below_on (unhide HBO) (unhide HB))
          have sw : w.heap.size ≤ wr.heap.size := (unhide HBO).size
          have al1 : Below wr.heap.size wr (wr.alloc (.cells #[] 31)) := (Below.refl _ _).alloc (Nat.le_refl _) _
          have g0 := cell_later al1 e0
          have g1 := cell_later al1 e1
          have X1 := hide (empty_rw wr)
          have HB1 := hide al1
          clear al1
          go_upto_region 10 with fail
          clear e0 e1
          generalize hwa : wr.alloc (.cells #[] 31) = wa at *
          clear hwa
          go_wp2_with (at_builtin; refine wpList_append_own _ rfl (.tmp 45) (.tmp 47) 23 rfl wr.heap.size 31 i0 (.agg #[.int .i64 0, .int .i64 0]) 2 16 Try.underlying23 hi hz0 hz1 hz2 rfl (by decide) _ _ _ rfl ((unhide X1).row.alloc _) ⟨_, 0, none⟩ 1 1 [.int .i64 p.1, .int .i64 p.2] rfl rfl (new_cellP _ _ _) (fun u hu => by simp at hu; rcases hu with rfl | rfl <;> rfl) (by unfold maxLen; simp) (by simp) (by have := (unhide HB1).size; simp; omega) ?_)
          intro v2 wb own2 gr2 _
          have X2 := hide (RwP.snoc (L := []) own2)
          have HB2 := hide (push_belowP (unhide HB1) (unhide HB1).size (unhide X1).row gr2)
          clear own2 gr2 g0 g1
          rcases (unhide X2).open with ⟨_, h⟩ | ⟨g2, cp2, rfl, _, _, _, _, _⟩
          · simp at h
          go_wp2
          go_roundw
          case rel => exact ⟨i + 1, by omega, by go_num, hide ⟨by rw [unhide EC, unhide EI]; exact (unhide X2).mono sw, by rw [unhide EC]; exact unhide LI, fun h => absurd h (by rw [unhide EC]; exact ins_ne _ _)⟩, hide (below_on (unhide HBO) (unhide HB2))⟩
          case measure => simp [intOf]; omega
      · rcases (unhide HR2).open with ⟨_, h⟩ | ⟨g, cp, rfl, hB, hg, hcp, hcm, hce⟩
        · exact absurd h hS
        · clear hce HNL
          have m1 : 0 < S.length := List.length_pos_iff.2 hS
          have HLm := hide (unhide HL)
          obtain ⟨m, hm⟩ : ∃ m, m = S.length := ⟨_, rfl⟩
          have HM : Hid (S.length = m) := hide hm.symm
          rw [← hm] at hcp m1 ⊢
          rw [← hm] at HR2
          have mi : m ≤ i := by rw [hm]; exact unhide HL
          clear hm hS
          go_loopw [6] (fun kv wr => ∃ k : Nat, k ≤ m ∧ kv = .int .i64 k ∧ Hid (∀ j, j < k → ltP (S.getD j (0, 0)) p = true) ∧ Hid (RwP w.heap.size wr (.slice (some ⟨g, 0, none⟩) m cp) S) ∧ Hid (Below w2.heap.size w2 wr)) (fun kv _ => m - (intOf kv).toNat)
          case atStart => exact ⟨0, Nat.zero_le _, rfl, hide (fun j hj => absurd hj (by omega)), HR2, hide (Below.refl _ _)⟩
          case round =>
            clear HR2
            obtain ⟨k, hk, rfl, HA, RW, HB⟩ := hrel
            have e0 : wr.cell? ⟨PX, 0, none⟩ = some (.int .i64 p.1) := ((unhide HB).cell (p := ⟨PX, 0, none⟩) ltPX).trans (unhide KP).1
            have e1 : wr.cell? ⟨PX, 1, none⟩ = some (.int .i64 p.2) := ((unhide HB).cell (p := ⟨PX, 1, none⟩) ltPX).trans (unhide KP).2
            by_cases hkm : k < m
            · have d1 : decide ((k : Int) < (m : Int)) = true := decide_eq_true (by omega)
              have d2 : decide (k < m) = true := decide_eq_true hkm
              have hkm' : (k : Int) < (m : Int) := by omega
              have f0 := (unhide RW).at_ (i := k) (by rw [unhide HM]; exact hkm)
              have CL := hide (fun w => lessS (S.getD k (0, 0)) p w)
              have HZ : Hid (ltP (S.getD k (0, 0)) p = ltP (S.getD k (0, 0)) p) := hide rfl
              have HQ : Hid (S.getD k (0, 0) = S.getD k (0, 0)) := hide rfl
              obtain ⟨q, hq⟩ : ∃ q, q = S.getD k (0, 0) := ⟨_, rfl⟩
              rw [← hq] at f0 CL
              have HQ2 := hide hq
              obtain ⟨z, hz⟩ : ∃ z, z = ltP q p := ⟨_, rfl⟩
              rw [← hz] at CL
              have HZ2 := hide hz
              clear HZ HQ hq hz
              have c0 := f0.1
              have c1 := f0.2
              clear f0
              go_upto_region 6 with fail
              have HX0 : Hid True := hide trivial
              go_region_held3 (fun w' => w'.cell? ⟨g, k * 2, none⟩ = some (.int .i64 q.1) ∧ w'.cell? ⟨g, k * 2 + 1, none⟩ = some (.int .i64 q.2) ∧ w'.cell? ⟨PX, 0, none⟩ = some (.int .i64 p.1) ∧ w'.cell? ⟨PX, 1, none⟩ = some (.int .i64 p.2))
                (with_reducible (first | exact ⟨c0, c1, e0, e1⟩ | exact ⟨cdP c0, cdP c1, cdP e0, cdP e1⟩ | fail))
                (first
                | (have chk := HX0; go_at_call 76; refine (unhide CL _).mono ?_; rintro e w5 ⟨rfl, hb1⟩; have hbx := below_of_drew hb1; replace c0 := cell_later hbx c0; replace c1 := cell_later hbx c1; replace e0 := cell_later hbx e0; replace e1 := cell_later hbx e1; replace RW := hide ((unhide RW).later hbx); replace HB := hide (below_on (unhide HB) hbx); clear hb1 hbx; clear HX0 chk)
                | fail)
              cases z
              · have PO : Hid (posP S p = k) := hide (pos_eq (unhide HA) (by rw [unhide HM]; omega) (.inr (by rw [← unhide HQ2]; exact (unhide HZ2).symm)))
                have lk : k < S.length := by rw [unhide HM]; exact hkm
                clear HA HZ2 CL
                by_cases h1' : q.1 = p.1
                · have q1 : (q.1 == p.1) = true := by simp [h1']
                  by_cases h2' : q.2 = p.2
                  · have q2 : (q.2 == p.2) = true := by simp [h2']
                    have EI : Hid (insP S p = S) := hide (put_not (unhide PO) lk (by rw [← unhide HQ2]; exact Prod.ext h1' h2'))
                    clear h1' h2' lk PO
                    go_upto_region 8 with fail
                    go_region
                    clear c0 c1 e0 e1 q1 q2
                    go_wp2
                    go_roundw
                    case rel => exact ⟨i + 1, by omega, by go_num, hide ⟨by rw [unhide EC, unhide EI]; exact (unhide RW).later (Below.refl _ _).drew, by rw [unhide EC]; exact unhide LI, fun h => absurd h (by rw [unhide EC]; exact ins_ne _ _)⟩, hide (below_on (unhide HBO) (unhide HB).drew)⟩
                    case measure => simp [intOf]; omega
                  · have q2 : (q.2 == p.2) = false := by simp [h2']
                    have EI : Hid (insP S p = S.take k ++ [p] ++ S.drop k) := hide (put_at (unhide PO) (fun _ e => h2' (by rw [unhide HQ2, e])))
                    clear h1' h2' lk PO
                    go_upto_region 8 with fail
                    go_region
                    clear c0 c1
                    replace RW := hide ((unhide RW).later (Below.refl _ _).drew)
                    replace HB := hide (unhide HB).drew
                    replace e0 := cdP e0
                    replace e1 := cdP e1
                    generalize hwd : w5.drew = wd at *
                    clear hwd
                    obtain ⟨wr, hwr⟩ : ∃ x, x = wd := ⟨_, rfl⟩
                    subst hwr
                    have LS := unhide HL
                    have sw : w2.heap.size ≤ wr.heap.size := (unhide HB).size
                    have HBX := hide (below_on (unhide HBO) (unhide HB))
                    have al1 : Below wr.heap.size wr (wr.alloc (.cells #[] 31)) := (Below.refl _ _).alloc (Nat.le_refl _) _
                    have g0 := cell_later al1 e0
                    have g1 := cell_later al1 e1
                    have HG0 := hide (And.intro e0 e1)
                    have X1 := hide (empty_rw wr)
                    have N1 : Hid (∀ j u, (flatP (S.take k))[j]? = some u → (wr.alloc (.cells #[] 31)).cell? ((⟨g, 0, none⟩ : Addr).add j) = some u) := hide (by have := ((unhide RW).later al1).news 0 k (by rw [unhide HM]; omega); simpa using this)
                    have L1 : Hid ((flatP (S.take k)).length = k * 2) := hide (by rw [flat_len]; have := unhide HM; simp; omega)
                    have RWa := hide ((unhide RW).later al1)
                    have HB1 := hide al1
                    have kc : (k : Int) ≤ (cp : Int) := by omega
                    have km' : (k : Int) ≤ (m : Int) := by omega
                    clear al1 e0 e1
                    go_wp2_with (at_builtin; refine wpList_append_own_at _ rfl (.tmp 40) (.tmp 43) 23 rfl wr.heap.size 31 i0 (.agg #[.int .i64 0, .int .i64 0]) 2 16 Try.underlying23 hi hz0 hz1 hz2 rfl (by decide) _ _ _ rfl (unhide X1).row ⟨g, 0, none⟩ k _ (flatP (S.take k)) rfl (unhide L1) (unhide N1) (flat_one _) (by unfold maxLen; simp; omega) (by simp; omega) (by simp) ?_)
                    intro v1 wa own1 gr1 _ _
                    have tk : (S.take k).length = k := by have := unhide HM; rw [List.length_take]; omega
                    have X1' : Hid (RwP wr.heap.size wa v1 (S.take k)) := hide ⟨by rw [tk]; exact own1⟩
                    replace HB1 := hide (grow_below (unhide HB1) (by simp) (unhide X1).blk gr1)
                    replace g0 : wa.cell? ⟨PX, 0, none⟩ = some (.int .i64 p.1) := cell_later (unhide HB1) (unhide HG0).1
                    replace g1 : wa.cell? ⟨PX, 1, none⟩ = some (.int .i64 p.2) := cell_later (unhide HB1) (unhide HG0).2
                    clear own1 gr1 X1 N1 L1 RWa
                    have X1 := X1'
                    clear X1'
                    go_wp2_with (at_builtin; refine wpList_append_own _ rfl (.tmp 45) (.tmp 47) 23 rfl wr.heap.size 31 i0 (.agg #[.int .i64 0, .int .i64 0]) 2 16 Try.underlying23 hi hz0 hz1 hz2 rfl (by decide) _ _ _ rfl ((unhide X1).row.alloc _) ⟨_, 0, none⟩ 1 1 [.int .i64 p.1, .int .i64 p.2] rfl rfl (new_cellP _ _ _) (fun u hu => by simp at hu; rcases hu with rfl | rfl <;> rfl) (by unfold maxLen; simp; omega) (by simp; omega) (by have := (unhide HB1).size; simp; omega) ?_)
                    intro v2 wb own2 gr2 _
                    have X2 : Hid (RwP wr.heap.size wb v2 (S.take k ++ [p])) := hide ⟨by rw [flatP_append, show flatP [p] = [.int .i64 p.1, .int .i64 p.2] from flatP_one p.1 p.2, snoc_len, tk]; exact own2⟩
                    have HB2 := hide (push_belowP (unhide HB1) (unhide HB1).size (unhide X1).row gr2)
                    clear own2 gr2 g0 g1
                    have RWb := hide ((unhide RW).later (unhide HB2))
                    have L2 : Hid ((flatP ((S.drop k).take (m - k))).length = (m - k) * 2) := hide (by rw [flat_len]; have := unhide HM; simp; try omega)
                    have ED : Hid ((S.drop k).take (m - k) = S.drop k) := hide (by rw [List.take_of_length_le (by have := unhide HM; rw [List.length_drop]; omega)])
                    by_cases hkc : cp = k
                    · exact absurd hkc (by omega)
                    · have N2 := hide ((unhide RWb).news k (m - k) (by rw [unhide HM]; omega))
                      have kc2 : ¬ ((cp : Int) = (k : Int)) := by omega
                      have kc3 : ¬ (cp - k = 0) := by omega
                      go_wp2_with (at_builtin; refine wpList_append_own_at _ rfl (.tmp 49) (.tmp 52) 23 rfl wr.heap.size 31 i0 (.agg #[.int .i64 0, .int .i64 0]) 2 16 Try.underlying23 hi hz0 hz1 hz2 rfl (by decide) _ _ _ rfl (unhide X2).row ⟨g, k * 2, none⟩ (m - k) _ (flatP ((S.drop k).take (m - k))) rfl (unhide L2) (unhide N2) (flat_one _) (by unfold maxLen; simp; omega) (by simp; omega) (unhide HB2).size ?_)
                      intro v3 wc own3 gr3 _ _
                      have dk : ((S.drop k).take (m - k)).length = m - k := by have := unhide HM; rw [List.length_take, List.length_drop]; omega
                      have X3 : Hid (RwP wr.heap.size wc v3 (S.take k ++ [p] ++ (S.drop k).take (m - k))) := hide ⟨by rw [flatP_append, List.length_append, snoc_len, tk, dk]; exact own3⟩
                      rw [unhide ED] at X3
                      have HB3 := hide (grow_below (unhide HB2) (unhide HB2).size (unhide X2).blk gr3)
                      clear own3 gr3
                      go_wp2
                      go_roundw
                      case rel => exact ⟨i + 1, by omega, by go_num, hide ⟨by rw [unhide EC, unhide EI]; exact (unhide X3).mono (unhide HBX).size, by rw [unhide EC]; exact unhide LI, fun h => absurd h (by rw [unhide EC]; exact ins_ne _ _)⟩, hide (below_on (unhide HBX) (unhide HB3))⟩
                      case measure => simp [intOf]; omega
                · have q1 : (q.1 == p.1) = false := by simp [h1']
                  have EI : Hid (insP S p = S.take k ++ [p] ++ S.drop k) := hide (put_at (unhide PO) (fun _ e => h1' (by rw [unhide HQ2, e])))
                  clear h1' lk PO
                  go_upto_region 8 with fail
                  go_region
                  clear c0 c1
                  replace RW := hide ((unhide RW).later (Below.refl _ _).drew)
                  replace HB := hide (unhide HB).drew
                  replace e0 := cdP e0
                  replace e1 := cdP e1
                  generalize hwd : w5.drew = wd at *
                  clear hwd
                  obtain ⟨wr, hwr⟩ : ∃ x, x = wd := ⟨_, rfl⟩
                  subst hwr
                  have LS := unhide HL
                  have sw : w2.heap.size ≤ wr.heap.size := (unhide HB).size
                  have HBX := hide (below_on (unhide HBO) (unhide HB))
                  have al1 : Below wr.heap.size wr (wr.alloc (.cells #[] 31)) := (Below.refl _ _).alloc (Nat.le_refl _) _
                  have g0 := cell_later al1 e0
                  have g1 := cell_later al1 e1
                  have HG0 := hide (And.intro e0 e1)
                  have X1 := hide (empty_rw wr)
                  have N1 : Hid (∀ j u, (flatP (S.take k))[j]? = some u → (wr.alloc (.cells #[] 31)).cell? ((⟨g, 0, none⟩ : Addr).add j) = some u) := hide (by have := ((unhide RW).later al1).news 0 k (by rw [unhide HM]; omega); simpa using this)
                  have L1 : Hid ((flatP (S.take k)).length = k * 2) := hide (by rw [flat_len]; have := unhide HM; simp; omega)
                  have RWa := hide ((unhide RW).later al1)
                  have HB1 := hide al1
                  have kc : (k : Int) ≤ (cp : Int) := by omega
                  have km' : (k : Int) ≤ (m : Int) := by omega
                  clear al1 e0 e1
                  go_wp2_with (at_builtin; refine wpList_append_own_at _ rfl (.tmp 40) (.tmp 43) 23 rfl wr.heap.size 31 i0 (.agg #[.int .i64 0, .int .i64 0]) 2 16 Try.underlying23 hi hz0 hz1 hz2 rfl (by decide) _ _ _ rfl (unhide X1).row ⟨g, 0, none⟩ k _ (flatP (S.take k)) rfl (unhide L1) (unhide N1) (flat_one _) (by unfold maxLen; simp; omega) (by simp; omega) (by simp) ?_)
                  intro v1 wa own1 gr1 _ _
                  have tk : (S.take k).length = k := by have := unhide HM; rw [List.length_take]; omega
                  have X1' : Hid (RwP wr.heap.size wa v1 (S.take k)) := hide ⟨by rw [tk]; exact own1⟩
                  replace HB1 := hide (grow_below (unhide HB1) (by simp) (unhide X1).blk gr1)
                  replace g0 : wa.cell? ⟨PX, 0, none⟩ = some (.int .i64 p.1) := cell_later (unhide HB1) (unhide HG0).1
                  replace g1 : wa.cell? ⟨PX, 1, none⟩ = some (.int .i64 p.2) := cell_later (unhide HB1) (unhide HG0).2
                  clear own1 gr1 X1 N1 L1 RWa
                  have X1 := X1'
                  clear X1'
                  go_wp2_with (at_builtin; refine wpList_append_own _ rfl (.tmp 45) (.tmp 47) 23 rfl wr.heap.size 31 i0 (.agg #[.int .i64 0, .int .i64 0]) 2 16 Try.underlying23 hi hz0 hz1 hz2 rfl (by decide) _ _ _ rfl ((unhide X1).row.alloc _) ⟨_, 0, none⟩ 1 1 [.int .i64 p.1, .int .i64 p.2] rfl rfl (new_cellP _ _ _) (fun u hu => by simp at hu; rcases hu with rfl | rfl <;> rfl) (by unfold maxLen; simp; omega) (by simp; omega) (by have := (unhide HB1).size; simp; omega) ?_)
                  intro v2 wb own2 gr2 _
                  have X2 : Hid (RwP wr.heap.size wb v2 (S.take k ++ [p])) := hide ⟨by rw [flatP_append, show flatP [p] = [.int .i64 p.1, .int .i64 p.2] from flatP_one p.1 p.2, snoc_len, tk]; exact own2⟩
                  have HB2 := hide (push_belowP (unhide HB1) (unhide HB1).size (unhide X1).row gr2)
                  clear own2 gr2 g0 g1
                  have RWb := hide ((unhide RW).later (unhide HB2))
                  have L2 : Hid ((flatP ((S.drop k).take (m - k))).length = (m - k) * 2) := hide (by rw [flat_len]; have := unhide HM; simp; try omega)
                  have ED : Hid ((S.drop k).take (m - k) = S.drop k) := hide (by rw [List.take_of_length_le (by have := unhide HM; rw [List.length_drop]; omega)])
                  by_cases hkc : cp = k
                  · exact absurd hkc (by omega)
                  · have N2 := hide ((unhide RWb).news k (m - k) (by rw [unhide HM]; omega))
                    have kc2 : ¬ ((cp : Int) = (k : Int)) := by omega
                    have kc3 : ¬ (cp - k = 0) := by omega
                    go_wp2_with (at_builtin; refine wpList_append_own_at _ rfl (.tmp 49) (.tmp 52) 23 rfl wr.heap.size 31 i0 (.agg #[.int .i64 0, .int .i64 0]) 2 16 Try.underlying23 hi hz0 hz1 hz2 rfl (by decide) _ _ _ rfl (unhide X2).row ⟨g, k * 2, none⟩ (m - k) _ (flatP ((S.drop k).take (m - k))) rfl (unhide L2) (unhide N2) (flat_one _) (by unfold maxLen; simp; omega) (by simp; omega) (unhide HB2).size ?_)
                    intro v3 wc own3 gr3 _ _
                    have dk : ((S.drop k).take (m - k)).length = m - k := by have := unhide HM; rw [List.length_take, List.length_drop]; omega
                    have X3 : Hid (RwP wr.heap.size wc v3 (S.take k ++ [p] ++ (S.drop k).take (m - k))) := hide ⟨by rw [flatP_append, List.length_append, snoc_len, tk, dk]; exact own3⟩
                    rw [unhide ED] at X3
                    have HB3 := hide (grow_below (unhide HB2) (unhide HB2).size (unhide X2).blk gr3)
                    clear own3 gr3
                    go_wp2
                    go_roundw
                    case rel => exact ⟨i + 1, by omega, by go_num, hide ⟨by rw [unhide EC, unhide EI]; exact (unhide X3).mono (unhide HBX).size, by rw [unhide EC]; exact unhide LI, fun h => absurd h (by rw [unhide EC]; exact ins_ne _ _)⟩, hide (below_on (unhide HBX) (unhide HB3))⟩
                    case measure => simp [intOf]; omega
              · go_wp2
                go_roundw
                case rel => exact ⟨k + 1, by omega, by go_num, hide (fun j hj => by
                  by_cases hjk : j = k
                  · rw [hjk, ← unhide HQ2]; exact (unhide HZ2).symm
                  · exact unhide HA j (by omega)), RW, HB⟩
                case measure => simp [intOf]; omega
            · obtain rfl : k = m := by omega
              have PO : Hid (posP S p = k) := hide (pos_eq (unhide HA) (by rw [unhide HM]; omega) (.inl (unhide HM).symm))
              have EI : Hid (insP S p = S.take k ++ [p] ++ S.drop k) := hide (put_at (unhide PO) (fun h => absurd h (by rw [unhide HM]; omega)))
              have d1 : decide ((k : Int) < (k : Int)) = false := decide_eq_false (by omega)
              have d2 : decide (k < k) = false := decide_eq_false (by omega)
              clear HA PO
              go_upto_region 6 with fail
              refine wp_region_held_drew (S := fun w' => w'.cell? ⟨PX, 0, none⟩ = some (.int .i64 p.1) ∧ w'.cell? ⟨PX, 1, none⟩ = some (.int .i64 p.2)) (by kernel_rfl) ⟨e0, e1⟩ (fun hHeld => ?_)
              simp only [List.size_toArray, List.length_cons, List.length_nil, Nat.reduceAdd, Array.replicate_succ, Array.replicate_zero, List.push_toArray, List.nil_append, List.cons_append]
              refine wpAnyH_take (i := 0) (v := .int .i64 (k : Int)) rfl (by kernel_rfl) (by kernel_rfl) (by kernel_rfl) (fun _ _ _ h => h) (Or.inl ⟨by rfl, by intro w hSw; (try dsimp only at hSw); go_simp⟩) hHeld ?_
              simp only [List.getElem_toArray, List.getElem_cons_zero, List.getElem_cons_succ, Act.put, List.setIfInBounds_toArray, List.set_cons_zero, List.set_cons_succ]
              refine wpAnyH_take (i := 1) (v := .slice (some ⟨g, 0, none⟩) k cp) rfl (by kernel_rfl) (by kernel_rfl) (by kernel_rfl) (fun _ _ _ h => h) (Or.inl ⟨by rfl, by intro w hSw; (try dsimp only at hSw); go_simp⟩) hHeld ?_
              simp only [List.getElem_toArray, List.getElem_cons_zero, List.getElem_cons_succ, Act.put, List.setIfInBounds_toArray, List.set_cons_zero, List.set_cons_succ]
              refine wpAnyH_take (i := 2) (v := .int .i64 (k : Int)) rfl (by kernel_rfl) (by kernel_rfl) (by kernel_rfl) (fun _ _ _ h => h) (Or.inl ⟨by rfl, by intro w hSw; (try dsimp only at hSw); go_simp⟩) hHeld ?_
              simp only [List.getElem_toArray, List.getElem_cons_zero, List.getElem_cons_succ, Act.put, List.setIfInBounds_toArray, List.set_cons_zero, List.set_cons_succ]
              refine wpAnyH_take (i := 3) (v := .bool false) rfl (by kernel_rfl) (by kernel_rfl) (by kernel_rfl) (fun _ _ _ h => h) (Or.inl ⟨by rfl, by intro w hSw; (try dsimp only at hSw); go_simp⟩) hHeld ?_
              simp only [List.getElem_toArray, List.getElem_cons_zero, List.getElem_cons_succ, Act.put, List.setIfInBounds_toArray, List.set_cons_zero, List.set_cons_succ]
              refine wpAnyH_take (i := 4) (v := .bool false) rfl (by kernel_rfl) (by kernel_rfl) (by kernel_rfl) (fun _ _ _ h => h) (Or.inl ⟨by rfl, by intro w hSw; (try dsimp only at hSw); go_simp⟩) hHeld ?_
              simp only [List.getElem_toArray, List.getElem_cons_zero, List.getElem_cons_succ, Act.put, List.setIfInBounds_toArray, List.set_cons_zero, List.set_cons_succ]
              refine wpAnyH_take (i := 5) (v := undef) rfl (by kernel_rfl) (by kernel_rfl) (by kernel_rfl) (fun _ _ _ h => h) (Or.inr ⟨by kernel_rfl, rfl⟩) hHeld ?_
              simp only [List.getElem_toArray, List.getElem_cons_zero, List.getElem_cons_succ, Act.put, List.setIfInBounds_toArray, List.set_cons_zero, List.set_cons_succ]
              refine wpAnyH_take (i := 6) (v := undef) rfl (by kernel_rfl) (by kernel_rfl) (by kernel_rfl) (fun _ _ _ h => h) (Or.inr ⟨by kernel_rfl, rfl⟩) hHeld ?_
              simp only [List.getElem_toArray, List.getElem_cons_zero, List.getElem_cons_succ, Act.put, List.setIfInBounds_toArray, List.set_cons_zero, List.set_cons_succ]
              refine wpAnyH_take (i := 7) (v := undef) rfl (by kernel_rfl) (by kernel_rfl) (by kernel_rfl) (fun _ _ _ h => h) (Or.inr ⟨by kernel_rfl, rfl⟩) hHeld ?_
              simp only [List.getElem_toArray, List.getElem_cons_zero, List.getElem_cons_succ, Act.put, List.setIfInBounds_toArray, List.set_cons_zero, List.set_cons_succ]
              refine wpAnyH_take (i := 8) (v := undef) rfl (by kernel_rfl) (by kernel_rfl) (by kernel_rfl) (fun _ _ _ h => h) (Or.inr ⟨by kernel_rfl, rfl⟩) hHeld ?_
              simp only [List.getElem_toArray, List.getElem_cons_zero, List.getElem_cons_succ, Act.put, List.setIfInBounds_toArray, List.set_cons_zero, List.set_cons_succ]
              refine wpAnyH_take (i := 9) (v := undef) rfl (by kernel_rfl) (by kernel_rfl) (by kernel_rfl) (fun _ _ _ h => h) (Or.inr ⟨by kernel_rfl, rfl⟩) hHeld ?_
              simp only [List.getElem_toArray, List.getElem_cons_zero, List.getElem_cons_succ, Act.put, List.setIfInBounds_toArray, List.set_cons_zero, List.set_cons_succ]
              refine wpAnyH_take (i := 10) (v := undef) rfl (by kernel_rfl) (by kernel_rfl) (by kernel_rfl) (fun _ _ _ h => h) (Or.inr ⟨by kernel_rfl, rfl⟩) hHeld ?_
              simp only [List.getElem_toArray, List.getElem_cons_zero, List.getElem_cons_succ, Act.put, List.setIfInBounds_toArray, List.set_cons_zero, List.set_cons_succ]
              refine wpAnyH_take (i := 11) (v := .bool false) rfl (by kernel_rfl) (by kernel_rfl) (by kernel_rfl) (fun _ _ _ h => h) (Or.inl ⟨by rfl, by intro w hSw; (try dsimp only at hSw); go_simp⟩) hHeld ?_
              simp only [List.getElem_toArray, List.getElem_cons_zero, List.getElem_cons_succ, Act.put, List.setIfInBounds_toArray, List.set_cons_zero, List.set_cons_succ]
              refine wpAnyH_done (by kernel_rfl) ?_ _
              clear hHeld
              replace RW := hide ((unhide RW).later (Below.refl _ _).drew)
              replace HB := hide (unhide HB).drew
              replace e0 := cdP e0
              replace e1 := cdP e1
              generalize hwd : wr.drew = wd at *
              clear hwd
              obtain ⟨wr, hwr⟩ : ∃ x, x = wd := ⟨_, rfl⟩
              subst hwr
              go_upto_region 8 with fail
              refine wp_region_held_drew (S := fun w' => w'.cell? ⟨PX, 0, none⟩ = some (.int .i64 p.1) ∧ w'.cell? ⟨PX, 1, none⟩ = some (.int .i64 p.2)) (by kernel_rfl) ⟨e0, e1⟩ (fun hHeld => ?_)
              simp only [List.size_toArray, List.length_cons, List.length_nil, Nat.reduceAdd, Array.replicate_succ, Array.replicate_zero, List.push_toArray, List.nil_append, List.cons_append]
              refine wpAnyH_take (i := 0) (v := .int .i64 (k : Int)) rfl (by kernel_rfl) (by kernel_rfl) (by kernel_rfl) (fun _ _ _ h => h) (Or.inl ⟨by rfl, by intro w hSw; (try dsimp only at hSw); go_simp⟩) hHeld ?_
              simp only [List.getElem_toArray, List.getElem_cons_zero, List.getElem_cons_succ, Act.put, List.setIfInBounds_toArray, List.set_cons_zero, List.set_cons_succ]
              refine wpAnyH_take (i := 1) (v := .slice (some ⟨g, 0, none⟩) k cp) rfl (by kernel_rfl) (by kernel_rfl) (by kernel_rfl) (fun _ _ _ h => h) (Or.inl ⟨by rfl, by intro w hSw; (try dsimp only at hSw); go_simp⟩) hHeld ?_
              simp only [List.getElem_toArray, List.getElem_cons_zero, List.getElem_cons_succ, Act.put, List.setIfInBounds_toArray, List.set_cons_zero, List.set_cons_succ]
              refine wpAnyH_take (i := 2) (v := .int .i64 (k : Int)) rfl (by kernel_rfl) (by kernel_rfl) (by kernel_rfl) (fun _ _ _ h => h) (Or.inl ⟨by rfl, by intro w hSw; (try dsimp only at hSw); go_simp⟩) hHeld ?_
              simp only [List.getElem_toArray, List.getElem_cons_zero, List.getElem_cons_succ, Act.put, List.setIfInBounds_toArray, List.set_cons_zero, List.set_cons_succ]
              refine wpAnyH_take (i := 3) (v := .bool false) rfl (by kernel_rfl) (by kernel_rfl) (by kernel_rfl) (fun _ _ _ h => h) (Or.inl ⟨by rfl, by intro w hSw; (try dsimp only at hSw); go_simp⟩) hHeld ?_
              simp only [List.getElem_toArray, List.getElem_cons_zero, List.getElem_cons_succ, Act.put, List.setIfInBounds_toArray, List.set_cons_zero, List.set_cons_succ]
              refine wpAnyH_take (i := 4) (v := .bool false) rfl (by kernel_rfl) (by kernel_rfl) (by kernel_rfl) (fun _ _ _ h => h) (Or.inl ⟨by rfl, by intro w hSw; (try dsimp only at hSw); go_simp⟩) hHeld ?_
              simp only [List.getElem_toArray, List.getElem_cons_zero, List.getElem_cons_succ, Act.put, List.setIfInBounds_toArray, List.set_cons_zero, List.set_cons_succ]
              refine wpAnyH_take (i := 5) (v := undef) rfl (by kernel_rfl) (by kernel_rfl) (by kernel_rfl) (fun _ _ _ h => h) (Or.inr ⟨by kernel_rfl, rfl⟩) hHeld ?_
              simp only [List.getElem_toArray, List.getElem_cons_zero, List.getElem_cons_succ, Act.put, List.setIfInBounds_toArray, List.set_cons_zero, List.set_cons_succ]
              refine wpAnyH_take (i := 6) (v := undef) rfl (by kernel_rfl) (by kernel_rfl) (by kernel_rfl) (fun _ _ _ h => h) (Or.inr ⟨by kernel_rfl, rfl⟩) hHeld ?_
              simp only [List.getElem_toArray, List.getElem_cons_zero, List.getElem_cons_succ, Act.put, List.setIfInBounds_toArray, List.set_cons_zero, List.set_cons_succ]
              refine wpAnyH_take (i := 7) (v := undef) rfl (by kernel_rfl) (by kernel_rfl) (by kernel_rfl) (fun _ _ _ h => h) (Or.inr ⟨by kernel_rfl, rfl⟩) hHeld ?_
              simp only [List.getElem_toArray, List.getElem_cons_zero, List.getElem_cons_succ, Act.put, List.setIfInBounds_toArray, List.set_cons_zero, List.set_cons_succ]
              refine wpAnyH_take (i := 8) (v := undef) rfl (by kernel_rfl) (by kernel_rfl) (by kernel_rfl) (fun _ _ _ h => h) (Or.inr ⟨by kernel_rfl, rfl⟩) hHeld ?_
              simp only [List.getElem_toArray, List.getElem_cons_zero, List.getElem_cons_succ, Act.put, List.setIfInBounds_toArray, List.set_cons_zero, List.set_cons_succ]
              refine wpAnyH_take (i := 9) (v := undef) rfl (by kernel_rfl) (by kernel_rfl) (by kernel_rfl) (fun _ _ _ h => h) (Or.inr ⟨by kernel_rfl, rfl⟩) hHeld ?_
              simp only [List.getElem_toArray, List.getElem_cons_zero, List.getElem_cons_succ, Act.put, List.setIfInBounds_toArray, List.set_cons_zero, List.set_cons_succ]
              refine wpAnyH_take (i := 10) (v := undef) rfl (by kernel_rfl) (by kernel_rfl) (by kernel_rfl) (fun _ _ _ h => h) (Or.inr ⟨by kernel_rfl, rfl⟩) hHeld ?_
              simp only [List.getElem_toArray, List.getElem_cons_zero, List.getElem_cons_succ, Act.put, List.setIfInBounds_toArray, List.set_cons_zero, List.set_cons_succ]
              refine wpAnyH_take (i := 11) (v := .bool false) rfl (by kernel_rfl) (by kernel_rfl) (by kernel_rfl) (fun _ _ _ h => h) (Or.inl ⟨by rfl, by intro w hSw; (try dsimp only at hSw); go_simp⟩) hHeld ?_
              simp only [List.getElem_toArray, List.getElem_cons_zero, List.getElem_cons_succ, Act.put, List.setIfInBounds_toArray, List.set_cons_zero, List.set_cons_succ]
              refine wpAnyH_done (by kernel_rfl) ?_ _
              clear hHeld
              replace RW := hide ((unhide RW).later (Below.refl _ _).drew)
              replace HB := hide (unhide HB).drew
              replace e0 := cdP e0
              replace e1 := cdP e1
              generalize hwd : wr.drew = wd at *
              clear hwd
              obtain ⟨wr, hwr⟩ : ∃ x, x = wd := ⟨_, rfl⟩
              subst hwr
              have LS := unhide HL
              have sw : w2.heap.size ≤ wr.heap.size := (unhide HB).size
              have HBX := hide (below_on (unhide HBO) (unhide HB))
              have al1 : Below wr.heap.size wr (wr.alloc (.cells #[] 31)) := (Below.refl _ _).alloc (Nat.le_refl _) _
              have g0 := cell_later al1 e0
              have g1 := cell_later al1 e1
              have HG0 := hide (And.intro e0 e1)
              have X1 := hide (empty_rw wr)
              have N1 : Hid (∀ j u, (flatP (S.take k))[j]? = some u → (wr.alloc (.cells #[] 31)).cell? ((⟨g, 0, none⟩ : Addr).add j) = some u) := hide (by have := ((unhide RW).later al1).news 0 k (by rw [unhide HM]; omega); simpa using this)
              have L1 : Hid ((flatP (S.take k)).length = k * 2) := hide (by rw [flat_len]; have := unhide HM; simp; omega)
              have RWa := hide ((unhide RW).later al1)
              have HB1 := hide al1
              have kc : (k : Int) ≤ (cp : Int) := by omega
              have km' : (k : Int) ≤ (k : Int) := by omega
              clear al1 e0 e1
              go_wp2_with (at_builtin; refine wpList_append_own_at _ rfl (.tmp 40) (.tmp 43) 23 rfl wr.heap.size 31 i0 (.agg #[.int .i64 0, .int .i64 0]) 2 16 Try.underlying23 hi hz0 hz1 hz2 rfl (by decide) _ _ _ rfl (unhide X1).row ⟨g, 0, none⟩ k _ (flatP (S.take k)) rfl (unhide L1) (unhide N1) (flat_one _) (by unfold maxLen; simp; omega) (by simp; omega) (by simp) ?_)
              intro v1 wa own1 gr1 _ _
              have tk : (S.take k).length = k := by have := unhide HM; rw [List.length_take]; omega
              have X1' : Hid (RwP wr.heap.size wa v1 (S.take k)) := hide ⟨by rw [tk]; exact own1⟩
              replace HB1 := hide (grow_below (unhide HB1) (by simp) (unhide X1).blk gr1)
              replace g0 : wa.cell? ⟨PX, 0, none⟩ = some (.int .i64 p.1) := cell_later (unhide HB1) (unhide HG0).1
              replace g1 : wa.cell? ⟨PX, 1, none⟩ = some (.int .i64 p.2) := cell_later (unhide HB1) (unhide HG0).2
              clear own1 gr1 X1 N1 L1 RWa
              have X1 := X1'
              clear X1'
              go_wp2_with (at_builtin; refine wpList_append_own _ rfl (.tmp 45) (.tmp 47) 23 rfl wr.heap.size 31 i0 (.agg #[.int .i64 0, .int .i64 0]) 2 16 Try.underlying23 hi hz0 hz1 hz2 rfl (by decide) _ _ _ rfl ((unhide X1).row.alloc _) ⟨_, 0, none⟩ 1 1 [.int .i64 p.1, .int .i64 p.2] rfl rfl (new_cellP _ _ _) (fun u hu => by simp at hu; rcases hu with rfl | rfl <;> rfl) (by unfold maxLen; simp; omega) (by simp; omega) (by have := (unhide HB1).size; simp; omega) ?_)
              intro v2 wb own2 gr2 _
              have X2 : Hid (RwP wr.heap.size wb v2 (S.take k ++ [p])) := hide ⟨by rw [flatP_append, show flatP [p] = [.int .i64 p.1, .int .i64 p.2] from flatP_one p.1 p.2, snoc_len, tk]; exact own2⟩
              have HB2 := hide (push_belowP (unhide HB1) (unhide HB1).size (unhide X1).row gr2)
              clear own2 gr2 g0 g1
              have RWb := hide ((unhide RW).later (unhide HB2))
              have L2 : Hid ((flatP ((S.drop k).take 0)).length = 0 * 2) := hide (by rw [flat_len]; have := unhide HM; simp; try omega)
              have ED : Hid ((S.drop k).take 0 = S.drop k) := hide (by rw [List.take_of_length_le (by have := unhide HM; rw [List.length_drop]; omega)])
              by_cases hkc : cp = k
              · have mk0 : 0 = 0 := by omega
                have N2 : Hid (∀ j u, (flatP ((S.drop k).take 0))[j]? = some u → wb.cell? ((⟨g, 0, none⟩ : Addr).add j) = some u) := hide (fun j u hu => by rw [List.getElem?_eq_none (by rw [unhide L2]; omega)] at hu; cases hu)
                go_wp2_with (at_builtin; refine wpList_append_own_at _ rfl (.tmp 49) (.tmp 52) 23 rfl wr.heap.size 31 i0 (.agg #[.int .i64 0, .int .i64 0]) 2 16 Try.underlying23 hi hz0 hz1 hz2 rfl (by decide) _ _ _ rfl (unhide X2).row ⟨g, 0, none⟩ 0 _ (flatP ((S.drop k).take 0)) rfl (unhide L2) (unhide N2) (flat_one _) (by unfold maxLen; simp; omega) (by simp; omega) (unhide HB2).size ?_)
                intro v3 wc own3 gr3 _ _
                have dk : ((S.drop k).take 0).length = 0 := by have := unhide HM; rw [List.length_take, List.length_drop]; omega
                have X3 : Hid (RwP wr.heap.size wc v3 (S.take k ++ [p] ++ (S.drop k).take 0)) := hide ⟨by rw [flatP_append, List.length_append, snoc_len, tk, dk]; exact own3⟩
                rw [unhide ED] at X3
                have HB3 := hide (grow_below (unhide HB2) (unhide HB2).size (unhide X2).blk gr3)
                clear own3 gr3
                go_wp2
                go_roundw
                case rel => exact ⟨i + 1, by omega, by go_num, hide ⟨by rw [unhide EC, unhide EI]; exact (unhide X3).mono (unhide HBX).size, by rw [unhide EC]; exact unhide LI, fun h => absurd h (by rw [unhide EC]; exact ins_ne _ _)⟩, hide (below_on (unhide HBX) (unhide HB3))⟩
                case measure => simp [intOf]; omega
              · have N2 := hide ((unhide RWb).news k 0 (by rw [unhide HM]; omega))
                have kc2 : ¬ ((cp : Int) = (k : Int)) := by omega
                have kc3 : ¬ (cp - k = 0) := by omega
                go_wp2_with (at_builtin; refine wpList_append_own_at _ rfl (.tmp 49) (.tmp 52) 23 rfl wr.heap.size 31 i0 (.agg #[.int .i64 0, .int .i64 0]) 2 16 Try.underlying23 hi hz0 hz1 hz2 rfl (by decide) _ _ _ rfl (unhide X2).row ⟨g, k * 2, none⟩ 0 _ (flatP ((S.drop k).take 0)) rfl (unhide L2) (unhide N2) (flat_one _) (by unfold maxLen; simp; omega) (by simp; omega) (unhide HB2).size ?_)
                intro v3 wc own3 gr3 _ _
                have dk : ((S.drop k).take 0).length = 0 := by have := unhide HM; rw [List.length_take, List.length_drop]; omega
                have X3 : Hid (RwP wr.heap.size wc v3 (S.take k ++ [p] ++ (S.drop k).take 0)) := hide ⟨by rw [flatP_append, List.length_append, snoc_len, tk, dk]; exact own3⟩
                rw [unhide ED] at X3
                have HB3 := hide (grow_below (unhide HB2) (unhide HB2).size (unhide X2).blk gr3)
                clear own3 gr3
                go_wp2
                go_roundw
                case rel => exact ⟨i + 1, by omega, by go_num, hide ⟨by rw [unhide EC, unhide EI]; exact (unhide X3).mono (unhide HBX).size, by rw [unhide EC]; exact unhide LI, fun h => absurd h (by rw [unhide EC]; exact ins_ne _ _)⟩, hide (below_on (unhide HBX) (unhide HB3))⟩
                case measure => simp [intOf]; omega
    · obtain rfl : i = n := by omega
      have EN : Hid ((l.take i).foldl insP [] = sortP l) := hide (by rw [← unhide HN, List.take_length]; rfl)
      go_wp2
      go_ret
      exact ⟨_, rfl, unhide HB, by rw [← unhide EN]; exact (unhide HR).1⟩
end Go.Proofs.Ytgoiodhofbkkdaa
