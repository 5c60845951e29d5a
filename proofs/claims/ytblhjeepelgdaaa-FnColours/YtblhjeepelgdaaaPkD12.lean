/- colourThree of the program. No condition beyond those typed. -/
import Derived.Test.YtblhjeepelgdaaaPkC12
import Derived.BigRegion
namespace Go.Proofs.Ytblhjeepelgdaaa
open Go.RowKit Go.ChangeMaps
set_option linter.unusedVariables false
set_option maxRecDepth 100000
set_option linter.unusedSimpArgs false

/-- One corner gets the colour that its neighbours leave. -/
def colO (q : Int × Int × Int) (C : List Int) : List Int := C.set q.2.1.toNat (3 - C.getD q.1.toNat 0 - C.getD q.2.2.toNat 0)
def colF (T : List (Int × Int × Int)) (C : List Int) : List Int := T.foldr colO C
def col1 (n : Nat) (q : Int × Int × Int) : List Int := ((List.replicate n 0).set q.2.1.toNat 1).set q.2.2.toNat 2
theorem colF_cons (q : Int × Int × Int) (T : List (Int × Int × Int)) (C : List Int) : colF (q :: T) C = colO q (colF T C) := rfl
theorem colO_len (q : Int × Int × Int) (C : List Int) : (colO q C).length = C.length := by simp [colO]
theorem colF_len : ∀ (T : List (Int × Int × Int)) (C : List Int), (colF T C).length = C.length
  | [], C => rfl
  | q :: T, C => by rw [colF_cons, colO_len, colF_len T C]
theorem col1_len (n : Nat) (q : Int × Int × Int) : (col1 n q).length = n := by simp [col1]
def bd : Nat → Int
  | 0 => 2
  | s + 1 => 3 + 2 * bd s
theorem bd_pos : ∀ s, 2 ≤ bd s
  | 0 => by simp [bd]
  | s + 1 => by have := bd_pos s; simp [bd]; omega
theorem bd_top : ∀ s, s ≤ 12 → bd s ≤ 100000 := by
  have : ∀ s : Fin 13, bd s.val ≤ 100000 := by decide
  intro s hs
  exact this ⟨s, by omega⟩
theorem set_bd {C : List Int} {K : Int} (h : ∀ j, -K ≤ C.getD j 0 ∧ C.getD j 0 ≤ K) {i : Nat} {v : Int} {K' : Int} (hK : K ≤ K') (hv : -K' ≤ v ∧ v ≤ K') : ∀ j, -K' ≤ (C.set i v).getD j 0 ∧ (C.set i v).getD j 0 ≤ K' := by
  intro j
  have hj := h j
  rw [List.getD_eq_getElem?_getD] at hj ⊢
  rw [List.getElem?_set]
  by_cases e : i = j
  · rw [if_pos e]
    by_cases hl : i < C.length
    · rw [if_pos hl]; exact hv
    · rw [if_neg hl]; simp only [Option.getD_none]; omega
  · rw [if_neg e]; omega
theorem col1_bd (n : Nat) (q : Int × Int × Int) : ∀ j, -2 ≤ (col1 n q).getD j 0 ∧ (col1 n q).getD j 0 ≤ 2 := by
  have h0 : ∀ j, -0 ≤ (List.replicate n (0 : Int)).getD j 0 ∧ (List.replicate n (0 : Int)).getD j 0 ≤ 0 := fun j => by
    rw [List.getD_eq_getElem?_getD, List.getElem?_replicate]
    split <;> simp
  exact set_bd (set_bd h0 (K' := 2) (by omega) (by omega)) (Int.le_refl _) (by omega)
theorem colF_bd (n : Nat) (q : Int × Int × Int) : ∀ T j, -bd T.length ≤ (colF T (col1 n q)).getD j 0 ∧ (colF T (col1 n q)).getD j 0 ≤ bd T.length
  | [], j => col1_bd n q j
  | r :: T, j => by
    have ih := colF_bd n q T
    have p := bd_pos T.length
    have a := ih r.1.toNat
    have b := ih r.2.2.toNat
    rw [colF_cons]
    unfold colO
    have e : bd (r :: T).length = 3 + 2 * bd T.length := rfl
    rw [e]
    exact set_bd ih (by omega) (by omega) j
/-- Numbers of corners, three in a row. -/
def NumT (n : Nat) (q : Int × Int × Int) : Prop := ∃ x y z : Nat, q = ((x : Int), (y : Int), (z : Int)) ∧ x < n ∧ y < n ∧ z < n
theorem cut_nums {l : List (Int × Int)} {t : Int} {n : Nat} : ∀ (k : Nat) (L : List Nat), L.length = k + 3 → (∀ x ∈ L, x < n) → L.Pairwise (· < ·) → ∃ D x y z, cutL l t k L = D ++ [(((x : Nat) : Int), ((y : Nat) : Int), ((z : Nat) : Int))] ∧ D.length = k ∧ x < y ∧ y < z ∧ z < n ∧ ∀ q ∈ D, NumT n q
  | 0, L, hl, hL, hu => by
    refine ⟨[], L.getD 0 0, L.getD 1 0, L.getD 2 0, rfl, rfl, ?_, ?_, hL _ (mem_at (by omega)), fun q hq => by simp at hq⟩
    · have := List.pairwise_iff_getElem.1 hu 0 1 (by omega) (by omega) (by omega)
      simpa [List.getD_eq_getElem?_getD, List.getElem?_eq_getElem (show 0 < L.length by omega), List.getElem?_eq_getElem (show 1 < L.length by omega)] using this
    · have := List.pairwise_iff_getElem.1 hu 1 2 (by omega) (by omega) (by omega)
      simpa [List.getD_eq_getElem?_getD, List.getElem?_eq_getElem (show 1 < L.length by omega), List.getElem?_eq_getElem (show 2 < L.length by omega)] using this
  | k + 1, L, hl, hL, hu => by
    have e := fstE_lt (l := l) (L := L) (t := t) (by omega)
    obtain ⟨D, x, y, z, h1, h2, h3, h4, h5, h6⟩ := cut_nums k (L.eraseIdx (fstE l L t)) (by rw [List.length_eraseIdx, if_pos e]; omega) (fun x hx => hL x (List.mem_of_mem_eraseIdx hx)) (hu.sublist (List.eraseIdx_sublist _ _))
    refine ⟨triE L (fstE l L t) :: D, x, y, z, by rw [cutL, h1]; rfl, by simp [h2], h3, h4, h5, fun q hq => ?_⟩
    rcases List.mem_cons.1 hq with rfl | hq
    · exact ⟨_, _, _, rfl, hL _ (bef_mem e), hL _ (mem_at e), hL _ (aft_mem e)⟩
    · exact h6 q hq
theorem madeN (w : World) (n : Nat) (hm : n ≤ maxLen) : RwI w.heap.size (w.alloc (.cells (madeCells #[.int .i64 0] n) 3)) (.slice (some ⟨w.heap.size, 0, none⟩) n n) (List.replicate n 0) := by
  refine ⟨?_⟩
  rw [List.length_replicate]
  refine ⟨by simp, .inr ⟨w.heap.size, n, madeCells #[.int .i64 0] n, rfl, Nat.le_refl _, ?_, Nat.le_refl _, hm, by simp [size_madeCells], ?_⟩⟩
  · show (w.heap.push _)[w.heap.size]? = _
    simp
  · rw [made_ints, List.take_of_length_le (by simp)]
end Go.Proofs.Ytblhjeepelgdaaa
namespace Go.Proofs.Ytblhjeepelgdaaa
open Go.RowKit Go.ChangeMaps
set_option linter.unusedVariables false
set_option maxRecDepth 100000
set_option linter.unusedSimpArgs false

/-- The colours of all corners. -/
def clV (T : List (Int × Int × Int)) (n : Nat) : List Int := colF T.dropLast (col1 n (T.getLast?.getD (0, 0, 0)))
theorem clV_snoc (D : List (Int × Int × Int)) (q : Int × Int × Int) (n : Nat) : clV (D ++ [q]) n = colF D (col1 n q) := by simp [clV]
theorem colF_drop {D : List (Int × Int × Int)} {p : Nat} (h : p < D.length) (C : List Int) : colF (D.drop p) C = colO D[p] (colF (D.drop (p + 1)) C) := by rw [List.drop_eq_getElem_cons h, colF_cons]
set_option maxHeartbeats 16000000 in
theorem colS11 (a : Option Addr) (n c : Nat) (l : List (Int × Int)) (w : World) (h : SlP w a l) (hn : l.length = n) (h3 : 3 ≤ n) (h12 : n ≤ 12) (hg : ∀ p ∈ l, Near p) :
    Calls Try.prog 49 #[.slice a n c] w fun e w' => ∃ v, e = .returned v ∧ Below w.heap.size w w' ∧ RwI w.heap.size w' v (clV (cutL l (sgZ (arS l l.length)) (n - 3) (List.range n)) n) := by
  obtain ⟨k0, hk0, kz0, kz1, kz2⟩ := info_parts Try.info3
  have CC := hide (cutS a n c l w h hn h3 h12 hg)
  obtain ⟨D, x, y, z, hT, hDl, hxy, hyz, hzn, hD⟩ := cut_nums (l := l) (t := sgZ (arS l l.length)) (n := n) (n - 3) (List.range n) (by simp; omega) (fun x hx => List.mem_range.1 hx) List.pairwise_lt_range
  rw [hT] at CC ⊢
  rw [clV_snoc]
  have hmk : ∀ w, (Instr.makeSlice 25 (.int .i64 (n : Int)) (.int .i64 (n : Int))).run Try.prog w = .ok (.slice (some ⟨w.heap.size, 0, none⟩) n n) (w.alloc (.cells (madeCells #[.int .i64 0] n) 3)) := by
    intro w
    have := run_make (P := Try.prog) w 25 3 k0 (.int .i64 0) Try.underlying25 hk0 kz0 .i64 .i64 (n : Int) (n : Int) (by omega) (by omega) (by rw [kz2]; omega) (by omega)
    rw [this, kz1]
    simp [Value.cells]
  have DK := hide hDl
  obtain ⟨K, hK⟩ : ∃ K, K = D.length := ⟨_, rfl⟩
  have K9 : K ≤ 9 := by omega
  have ND : Hid (∀ p (hp : p < D.length), NumT n D[p]) := hide (fun p hp => hD _ (List.getElem_mem hp))
  have HK := hide hK
  have w1K : IntKind.i64.wrap (((K + 1 : Nat) : Int) - 1) = (K : Int) := by rw [IntKind.wrap_i64]; omega
  have w2K : IntKind.i64.wrap (((K + 1 : Nat) : Int) - 2) = (K : Int) - 1 := by rw [IntKind.wrap_i64]; omega
  obtain ⟨K1, hK1⟩ : ∃ K1, K1 = K + 1 := ⟨_, rfl⟩
  rw [← hK1] at w1K w2K
  have lK : (K : Int) < (K1 : Int) := by omega
  clear h hn hg hT hDl hD
  go_enter Try.func49, Try.ntmps49
  go_wp2_with fail
  refine (unhide CC).mono ?_
  rintro e w1 ⟨v3, rfl, hb, rt⟩
  obtain ⟨g3, c3, rfl, hg3, TC⟩ : ∃ g3 c3, v3 = .slice (some ⟨g3, 0, none⟩) K1 c3 ∧ g3 < w1.heap.size ∧ Hid (∀ i (hi : i < (D ++ [((x : Int), (y : Int), (z : Int))]).length), w1.cell? ⟨g3, i * 3, none⟩ = some (.int .i64 (D ++ [((x : Int), (y : Int), (z : Int))])[i].1) ∧ w1.cell? ⟨g3, i * 3 + 1, none⟩ = some (.int .i64 (D ++ [((x : Int), (y : Int), (z : Int))])[i].2.1) ∧ w1.cell? ⟨g3, i * 3 + 2, none⟩ = some (.int .i64 (D ++ [((x : Int), (y : Int), (z : Int))])[i].2.2)) := by
    rcases rt.open with ⟨_, e⟩ | ⟨g3, c3, e, _, h2, _, _, h6⟩
    · have := congrArg List.length e; simp at this
    · refine ⟨g3, c3, ?_, h2, hide h6⟩
      rw [e, hK1, hK]; simp
  have HB := hide hb
  clear hb rt CC
  have hkK : K < (D ++ [((x : Int), (y : Int), (z : Int))]).length := by rw [hK]; simp
  have L0 := unhide TC K hkK
  have eK : (D ++ [((x : Int), (y : Int), (z : Int))])[K] = ((x : Int), (y : Int), (z : Int)) := by simp [hK]
  rw [eK] at L0
  have R2 := madeN w1 n (by unfold maxLen; omega)
  have al : Below w1.heap.size w1 (w1.alloc (.cells (madeCells #[.int .i64 0] n) 3)) := (Below.refl _ _).alloc (Nat.le_refl _) _
  have l0 := (al.cell (p := ⟨g3, K * 3, none⟩) hg3).trans L0.1
  have l1 := (al.cell (p := ⟨g3, K * 3 + 1, none⟩) hg3).trans L0.2.1
  have l2 := (al.cell (p := ⟨g3, K * 3 + 2, none⟩) hg3).trans L0.2.2
  have A2 := hide al
  have H2 := hide R2
  clear hK hK1 hkK L0 eK R2 al
  have yn : (y : Int) < (n : Int) := by omega
  have zn : (z : Int) < (n : Int) := by omega
  go_upto_region 4 with fail
  have al2 : Below (w1.heap.size + 1) (w1.alloc (.cells (madeCells #[.int .i64 0] n) 3)) ((w1.alloc (.cells (madeCells #[.int .i64 0] n) 3)).alloc (.cells #[.int .i64 (x : Int), .int .i64 (y : Int), .int .i64 (z : Int)] 33)) := (Below.refl _ _).alloc (by simp) _
  have b1 : ((w1.alloc (.cells (madeCells #[.int .i64 0] n) 3)).alloc (.cells #[.int .i64 (x : Int), .int .i64 (y : Int), .int .i64 (z : Int)] 33)).cell? ⟨w1.heap.size + 1, 1, none⟩ = some (.int .i64 (y : Int)) := by simp [go_sem]
  have b2 : ((w1.alloc (.cells (madeCells #[.int .i64 0] n) 3)).alloc (.cells #[.int .i64 (x : Int), .int .i64 (y : Int), .int .i64 (z : Int)] 33)).cell? ⟨w1.heap.size + 1, 2, none⟩ = some (.int .i64 (z : Int)) := by simp [go_sem]
  have R3 := (unhide H2).later (by have := al2; simp at this ⊢; exact this)
  have B3 := hide (below_on (unhide A2) (show Below (w1.alloc (.cells (madeCells #[.int .i64 0] n) 3)).heap.size _ _ from by have := al2; simp at this ⊢; exact this))
  clear al2 l0 l1 l2 A2 H2
  generalize (w1.alloc (.cells (madeCells #[.int .i64 0] n) 3)).alloc (.cells #[.int .i64 (x : Int), .int .i64 (y : Int), .int .i64 (z : Int)] 33) = w3 at *
  obtain ⟨G, hG⟩ : ∃ G, G = w1.heap.size := ⟨_, rfl⟩
  obtain ⟨P, hP⟩ : ∃ P, P = w1.heap.size + 1 := ⟨_, rfl⟩
  rw [← hP] at b1 b2 ⊢
  rw [← hG] at R3 ⊢
  have nPG : ¬ (P = G) := by omega
  have nGP : ¬ (G = P) := by omega
  have f1 : w3.frozen? ⟨G, y, none⟩ = false := by have h := R3.row; rw [List.length_replicate] at h; exact h.frozenAt y
  obtain ⟨v1, e1⟩ : ∃ v, w3.cell? ⟨G, y, none⟩ = some v := ⟨_, R3.at11 (i := y) (by simp; omega)⟩
  have R4 := R3.put11 y 1
  obtain ⟨v2, e2⟩ : ∃ v, (w3.setCell ⟨G, y, none⟩ (.int .i64 1)).cell? ⟨G, z, none⟩ = some v := ⟨_, R4.at11 (i := z) (by simp; omega)⟩
  have f2 : (w3.setCell ⟨G, y, none⟩ (.int .i64 1)).frozen? ⟨G, z, none⟩ = false := by have h := R4.row; rw [List.length_set, List.length_replicate] at h; exact h.frozenAt z
  have c2 : (w3.setCell ⟨G, y, none⟩ (.int .i64 1)).cell? ⟨P, 2, none⟩ = some (.int .i64 (z : Int)) := by
    rw [← b2]; exact World.cell?_of_block (w := w3) (set_oth11 nPG)
  have R5 := R4.put11 z 2
  have BG : Hid (w1.heap.size ≤ G) := hide (by omega)
  have B5 := hide (show Below w1.heap.size w1 ((w3.setCell ⟨G, y, none⟩ (.int .i64 1)).setCell ⟨G, z, none⟩ (.int .i64 2)) from (((But.refl G (G + 1) w3).set (p := ⟨G, y, none⟩) (Nat.le_refl _) (Nat.lt_succ_self _) _).set (p := ⟨G, z, none⟩) (Nat.le_refl _) (Nat.lt_succ_self _) _).below (unhide B3) (by omega) (unhide B3).size)
  have HC : Hid (RwI G ((w3.setCell ⟨G, y, none⟩ (.int .i64 1)).setCell ⟨G, z, none⟩ (.int .i64 2)) (.slice (some ⟨G, 0, none⟩) n n) (col1 n ((x : Int), (y : Int), (z : Int)))) := hide (by unfold col1; simpa using R5)
  clear R3 R4 R5 B3 hG hP
  go_upto_region 6 with fail
  generalize (w3.setCell ⟨G, y, none⟩ (.int .i64 1)).setCell ⟨G, z, none⟩ (.int .i64 2) = w5 at *
  clear f1 f2 c2 e1 e2 b1 b2
  have kk : K = D.length := unhide HK
  go_wp2_with fail
  go_loopw [6] (fun iv wr => ∃ m : Nat, m ≤ K ∧ iv = .int .i64 ((m : Int) - 1) ∧ Hid (RwI G wr (.slice (some ⟨G, 0, none⟩) n n) (colF (D.drop m) (col1 n ((x : Int), (y : Int), (z : Int))))) ∧ Hid (Below w1.heap.size w1 wr)) (fun iv _ => ((intOf iv) + 1).toNat)
  case atStart => exact ⟨K, Nat.le_refl _, by go_num, hide (by rw [kk, List.drop_length]; exact unhide HC), B5⟩
  case round =>
    clear HC B5
    obtain ⟨m, hm, rfl, HC, HW⟩ := hrel
    by_cases hm0 : m = 0
    · subst hm0
      have HF := hide ((unhide HC).mono (Nat.le_trans (unhide HB).size (unhide BG)))
      rw [List.drop_zero] at HF
      clear HC kk
      go_wp2
      go_ret
      exact ⟨_, rfl, below_on (unhide HB) (unhide HW), unhide HF⟩
    · obtain ⟨p, hp⟩ : ∃ p, m = p + 1 := ⟨m - 1, by omega⟩
      have ip : (m : Int) - 1 = (p : Int) := by omega
      rw [ip]
      have pD : p < D.length := by omega
      have pK : (p : Int) < (K1 : Int) := by omega
      have wp1 : IntKind.i64.wrap ((p : Int) - 1) = (p : Int) - 1 := by rw [IntKind.wrap_i64]; omega
      obtain ⟨x', y', z', eq, hx, hy, hz⟩ := unhide ND p pD
      have CF := colF_drop pD (col1 n ((x : Int), (y : Int), (z : Int)))
      rw [eq, ← hp] at CF
      have bd1 := colF_bd n ((x : Int), (y : Int), (z : Int)) (D.drop m)
      have bt := bd_top (D.drop m).length (by rw [List.length_drop]; omega)
      have ba := bd1 x'
      have bb := bd1 z'
      have tc := unhide TC p (by simp; omega)
      rw [List.getElem_append_left pD, eq] at tc
      have t0 := ((unhide HW).cell (p := ⟨g3, p * 3, none⟩) hg3).trans tc.1
      have t1 := ((unhide HW).cell (p := ⟨g3, p * 3 + 1, none⟩) hg3).trans tc.2.1
      have t2 := ((unhide HW).cell (p := ⟨g3, p * 3 + 2, none⟩) hg3).trans tc.2.2
      have lC : (colF (D.drop m) (col1 n ((x : Int), (y : Int), (z : Int)))).length = n := by rw [colF_len, col1_len]
      have ca := (unhide HC).at11 (i := x') (by rw [lC]; exact hx)
      have cb := (unhide HC).at11 (i := z') (by rw [lC]; exact hz)
      obtain ⟨vy, cy⟩ : ∃ v, wr.cell? ⟨G, y', none⟩ = some v := ⟨_, (unhide HC).at11 (i := y') (by rw [lC]; exact hy)⟩
      have fy : wr.frozen? ⟨G, y', none⟩ = false := by have h := (unhide HC).row; rw [lC] at h; exact h.frozenAt y'
      have CO : Hid (∀ C : List Int, colO ((x' : Int), (y' : Int), (z' : Int)) C = C.set y' (3 - C.getD x' 0 - C.getD z' 0)) := hide (fun C => by simp [colO])
      rw [unhide CO] at CF
      generalize colF (D.drop m) (col1 n ((x : Int), (y : Int), (z : Int))) = C at *
      generalize C.getD x' 0 = A at *
      generalize C.getD z' 0 = Bv at *
      have w3a : IntKind.i64.wrap (3 - A) = 3 - A := by rw [IntKind.wrap_i64]; omega
      have w3b : IntKind.i64.wrap (3 - A - Bv) = 3 - A - Bv := by rw [IntKind.wrap_i64]; omega
      have hx' : (x' : Int) < (n : Int) := by omega
      have hy' : (y' : Int) < (n : Int) := by omega
      have hz' : (z' : Int) < (n : Int) := by omega
      have hpm : p ≤ K := by omega
      have p0 : (0 : Int) ≤ (p : Int) := by omega
      have ng : ¬ (g3 = G) := by have := unhide BG; omega
      have CFH := hide CF
      have HM := hide hm
      clear ba bb bd1 bt tc CO eq pD hp ip CF lC hx hy hz hm hm0 kk
      go_upto_region 9 with fail
      go_region
      have RN := ((unhide HC).put11 y' (3 - A - Bv)).later (Below.refl _ _).drew
      rw [← unhide CFH] at RN
      have HN := hide RN
      have BN := hide ((((But.refl G (G + 1) wr).set (p := ⟨G, y', none⟩) (Nat.le_refl _) (Nat.lt_succ_self _) (.int .i64 (3 - A - Bv))).below (unhide HW) (unhide BG) (unhide HW).size).drew)
      clear RN HC HW t0 t1 t2 ca cb cy fy
      generalize (wr.setCell ⟨G, y', none⟩ (.int .i64 (3 - A - Bv))).drew = w7 at *
      go_wp2
      go_roundw
      case rel => exact ⟨p, hpm, by go_num, HN, BN⟩
      case measure => (try simp [intOf]); (try omega)
end Go.Proofs.Ytblhjeepelgdaaa
namespace Go.Proofs.Ytblhjeepelgdaaa
open Go.RowKit Go.ChangeMaps
set_option linter.unusedVariables false
set_option maxRecDepth 100000
set_option linter.unusedSimpArgs false

set_option maxHeartbeats 4000000 in
theorem lastTI (g K K1 c : Nat) (x y z : Int) (w : World) (hK : K1 = K + 1) (h256 : K1 ≤ 256) (h0 : w.cell? ⟨g, K * 3, none⟩ = some (.int .i64 x)) (h1 : w.cell? ⟨g, K * 3 + 1, none⟩ = some (.int .i64 y)) (h2 : w.cell? ⟨g, K * 3 + 2, none⟩ = some (.int .i64 z)) :
    Calls Try.prog 88 #[.slice (some ⟨g, 0, none⟩) K1 c] w fun e w' => e = .returned (.agg #[.int .i64 x, .int .i64 y, .int .i64 z]) ∧ Below w.heap.size w w' := by
  have w1 : IntKind.i64.wrap ((K1 : Int) - 1) = (K : Int) := by rw [IntKind.wrap_i64]; omega
  have lt : (K : Int) < (K1 : Int) := by omega
  have gl := World.block_lt_of_cell? _ _ h0
  have ne : ¬ (g = w.heap.size) := by simp at gl; omega
  have al : Below w.heap.size w (w.alloc (.cells #[.int .i64 0, .int .i64 0, .int .i64 0] 33)) := (Below.refl _ _).alloc (Nat.le_refl _) _
  have k0 := (al.cell (p := ⟨g, K * 3, none⟩) gl).trans h0
  have k1 := (al.cell (p := ⟨g, K * 3 + 1, none⟩) gl).trans h1
  have k2 := (al.cell (p := ⟨g, K * 3 + 2, none⟩) gl).trans h2
  clear hK al
  go_enter Try.func88, Try.ntmps88
  go_wp2
  refine bodyPost_ret (v := .agg #[.int .i64 x, .int .i64 y, .int .i64 z]) (by simp [results, Try.results88, go_sem]) rfl ?_
  refine ⟨rfl, ?_⟩
  exact (Below.refl _ _).alloc (Nat.le_refl _) _
set_option maxHeartbeats 16000000 in
theorem colI11 (a : Option Addr) (n c : Nat) (l : List (Int × Int)) (w : World) (h : SlP w a l) (hn : l.length = n) (hp : ipB l = true) :
    Calls Try.prog 47 #[.slice a n c] w fun e w' => ∃ v, e = .returned v ∧ Below w.heap.size w w' ∧ RwI w.heap.size w' v (clV (cutL l (sgZ (arS l l.length)) (n - 3) (List.range n)) n) := by
  obtain ⟨k0, hk0, kz0, kz1, kz2⟩ := info_parts Try.info3
  have wp := way_parts (ip_parts hp).1
  have h3 : 3 ≤ n := by omega
  have h12 : n ≤ 12 := by omega
  have CC := hide (cutI a n c l w h hn hp)
  obtain ⟨D, x, y, z, hT, hDl, hxy, hyz, hzn, hD⟩ := cut_nums (l := l) (t := sgZ (arS l l.length)) (n := n) (n - 3) (List.range n) (by simp; omega) (fun x hx => List.mem_range.1 hx) List.pairwise_lt_range
  rw [hT] at CC ⊢
  rw [clV_snoc]
  have hmk : ∀ w, (Instr.makeSlice 25 (.int .i64 (n : Int)) (.int .i64 (n : Int))).run Try.prog w = .ok (.slice (some ⟨w.heap.size, 0, none⟩) n n) (w.alloc (.cells (madeCells #[.int .i64 0] n) 3)) := by
    intro w
    have := run_make (P := Try.prog) w 25 3 k0 (.int .i64 0) Try.underlying25 hk0 kz0 .i64 .i64 (n : Int) (n : Int) (by omega) (by omega) (by rw [kz2]; omega) (by omega)
    rw [this, kz1]
    simp [Value.cells]
  have DK := hide hDl
  obtain ⟨K, hK⟩ : ∃ K, K = D.length := ⟨_, rfl⟩
  have K9 : K ≤ 9 := by omega
  have ND : Hid (∀ p (hp : p < D.length), NumT n D[p]) := hide (fun p hp => hD _ (List.getElem_mem hp))
  have HK := hide hK
  have w1K : IntKind.i64.wrap (((K + 1 : Nat) : Int) - 1) = (K : Int) := by rw [IntKind.wrap_i64]; omega
  have w2K : IntKind.i64.wrap (((K + 1 : Nat) : Int) - 2) = (K : Int) - 1 := by rw [IntKind.wrap_i64]; omega
  obtain ⟨K1, hK1⟩ : ∃ K1, K1 = K + 1 := ⟨_, rfl⟩
  rw [← hK1] at w1K w2K
  have lK : (K : Int) < (K1 : Int) := by omega
  clear h hn hp wp hT hDl hD
  go_enter Try.func47, Try.ntmps47
  go_wp2_with fail
  refine (unhide CC).mono ?_
  rintro e w1 ⟨v3, rfl, hb, rt⟩
  obtain ⟨g3, c3, rfl, hg3, TC⟩ : ∃ g3 c3, v3 = .slice (some ⟨g3, 0, none⟩) K1 c3 ∧ g3 < w1.heap.size ∧ Hid (∀ i (hi : i < (D ++ [((x : Int), (y : Int), (z : Int))]).length), w1.cell? ⟨g3, i * 3, none⟩ = some (.int .i64 (D ++ [((x : Int), (y : Int), (z : Int))])[i].1) ∧ w1.cell? ⟨g3, i * 3 + 1, none⟩ = some (.int .i64 (D ++ [((x : Int), (y : Int), (z : Int))])[i].2.1) ∧ w1.cell? ⟨g3, i * 3 + 2, none⟩ = some (.int .i64 (D ++ [((x : Int), (y : Int), (z : Int))])[i].2.2)) := by
    rcases rt.open with ⟨_, e⟩ | ⟨g3, c3, e, _, h2, _, _, h6⟩
    · have := congrArg List.length e; simp at this
    · refine ⟨g3, c3, ?_, h2, hide h6⟩
      rw [e, hK1, hK]; simp
  have HB := hide hb
  clear hb rt CC
  have hkK : K < (D ++ [((x : Int), (y : Int), (z : Int))]).length := by rw [hK]; simp
  have L0 := unhide TC K hkK
  have eK : (D ++ [((x : Int), (y : Int), (z : Int))])[K] = ((x : Int), (y : Int), (z : Int)) := by simp [hK]
  rw [eK] at L0
  have CL := hide (fun w' (k : Below w1.heap.size w1 w') => lastTI g3 K K1 c3 (x : Int) (y : Int) (z : Int) w' hK1 (by omega) ((k.cell (p := ⟨g3, K * 3, none⟩) hg3).trans L0.1) ((k.cell (p := ⟨g3, K * 3 + 1, none⟩) hg3).trans L0.2.1) ((k.cell (p := ⟨g3, K * 3 + 2, none⟩) hg3).trans L0.2.2))
  clear hK hK1 hkK L0 eK
  have xn : (x : Int) < (n : Int) := by omega
  have yn : (y : Int) < (n : Int) := by omega
  have zn : (z : Int) < (n : Int) := by omega
  go_wp2_with fail
  refine (unhide CL _ (Below.refl _ _)).mono ?_
  rintro e w2 ⟨rfl, hb⟩
  have B2 := hide hb
  clear hb CL
  go_upto_region 3 with fail
  have al : Below w2.heap.size w2 (w2.alloc (.cells #[.int .i64 (x : Int), .int .i64 (y : Int), .int .i64 (z : Int)] 33)) := (Below.refl _ _).alloc (Nat.le_refl _) _
  have b0 : (w2.alloc (.cells #[.int .i64 (x : Int), .int .i64 (y : Int), .int .i64 (z : Int)] 33)).cell? ⟨w2.heap.size, 0, none⟩ = some (.int .i64 (x : Int)) := by simp [go_sem]
  have b1 : (w2.alloc (.cells #[.int .i64 (x : Int), .int .i64 (y : Int), .int .i64 (z : Int)] 33)).cell? ⟨w2.heap.size, 1, none⟩ = some (.int .i64 (y : Int)) := by simp [go_sem]
  have b2 : (w2.alloc (.cells #[.int .i64 (x : Int), .int .i64 (y : Int), .int .i64 (z : Int)] 33)).cell? ⟨w2.heap.size, 2, none⟩ = some (.int .i64 (z : Int)) := by simp [go_sem]
  have B3 := hide (below_on (unhide B2) al)
  have lt3 : w2.heap.size < (w2.alloc (.cells #[.int .i64 (x : Int), .int .i64 (y : Int), .int .i64 (z : Int)] 33)).heap.size := by simp
  clear al
  generalize w2.alloc (.cells #[.int .i64 (x : Int), .int .i64 (y : Int), .int .i64 (z : Int)] 33) = w3 at *
  obtain ⟨P, hP⟩ : ∃ P, P = w2.heap.size := ⟨_, rfl⟩
  rw [← hP] at b0 b1 b2 lt3 ⊢
  clear hP
  have R4 := madeN w3 n (by unfold maxLen; omega)
  have al : Below w3.heap.size w3 (w3.alloc (.cells (madeCells #[.int .i64 0] n) 3)) := (Below.refl _ _).alloc (Nat.le_refl _) _
  replace b0 := (al.cell (p := ⟨P, 0, none⟩) lt3).trans b0
  replace b1 := (al.cell (p := ⟨P, 1, none⟩) lt3).trans b1
  replace b2 := (al.cell (p := ⟨P, 2, none⟩) lt3).trans b2
  have B4 := hide (below_on (unhide B3) al)
  have gw : w1.heap.size ≤ w3.heap.size := (unhide B3).size
  clear al
  go_upto_region 4 with fail
  generalize w3.alloc (.cells (madeCells #[.int .i64 0] n) 3) = w4 at *
  obtain ⟨G, hG⟩ : ∃ G, G = w3.heap.size := ⟨_, rfl⟩
  rw [← hG] at R4 gw lt3 ⊢
  have nPG : ¬ (P = G) := by omega
  have nGP : ¬ (G = P) := by omega
  have BG : Hid (w1.heap.size ≤ G) := hide gw
  clear hG
  have fz : ∀ o, w4.frozen? ⟨G, o, none⟩ = false := fun o => by have h := R4.row; rw [List.length_replicate] at h; exact h.frozenAt o
  obtain ⟨v0, e0⟩ : ∃ v, w4.cell? ⟨G, x, none⟩ = some v := ⟨_, R4.at11 (i := x) (by simp; omega)⟩
  obtain ⟨v1, e1⟩ : ∃ v, w4.cell? ⟨G, y, none⟩ = some v := ⟨_, R4.at11 (i := y) (by simp; omega)⟩
  obtain ⟨v2, e2⟩ : ∃ v, w4.cell? ⟨G, z, none⟩ = some v := ⟨_, R4.at11 (i := z) (by simp; omega)⟩
  have nxy : ¬ (x = y) := by omega
  have nyx : ¬ (y = x) := by omega
  have nxz : ¬ (x = z) := by omega
  have nzx : ¬ (z = x) := by omega
  have nyz : ¬ (y = z) := by omega
  have nzy : ¬ (z = y) := by omega
  have R7 := (((R4.put11 x 0).put11 y 1).put11 z 2).later (Below.refl _ _).drew
  have B5 := hide ((((((But.refl G (G + 1) w4).set (p := ⟨G, x, none⟩) (Nat.le_refl _) (Nat.lt_succ_self _) (.int .i64 0)).set (p := ⟨G, y, none⟩) (Nat.le_refl _) (Nat.lt_succ_self _) (.int .i64 1)).set (p := ⟨G, z, none⟩) (Nat.le_refl _) (Nat.lt_succ_self _) (.int .i64 2)).below (unhide B4) (unhide BG) (unhide B4).size).drew)
  have er : (List.replicate n (0 : Int)).set x 0 = List.replicate n 0 := by
    apply List.ext_getElem?
    intro j
    rw [List.getElem?_set, List.getElem?_replicate, List.length_replicate]
    by_cases e : x = j
    · subst e; rw [if_pos rfl]
    · rw [if_neg e]
  rw [er] at R7
  have HC : Hid (RwI G ((((w4.setCell ⟨G, x, none⟩ (.int .i64 0)).setCell ⟨G, y, none⟩ (.int .i64 1)).setCell ⟨G, z, none⟩ (.int .i64 2)).drew) (.slice (some ⟨G, 0, none⟩) n n) (col1 n ((x : Int), (y : Int), (z : Int)))) := hide (by unfold col1; simpa using R7)
  clear R7 R4 B4 er
  go_region
  generalize ((((w4.setCell ⟨G, x, none⟩ (.int .i64 0)).setCell ⟨G, y, none⟩ (.int .i64 1)).setCell ⟨G, z, none⟩ (.int .i64 2)).drew) = w5 at *
  clear fz e0 e1 e2 b0 b1 b2 nxy nyx nxz nzx nyz nzy
  have kk : K = D.length := unhide HK
  go_wp2_with fail
  go_loopw [6] (fun iv wr => ∃ m : Nat, m ≤ K ∧ iv = .int .i64 ((m : Int) - 1) ∧ Hid (RwI G wr (.slice (some ⟨G, 0, none⟩) n n) (colF (D.drop m) (col1 n ((x : Int), (y : Int), (z : Int))))) ∧ Hid (Below w1.heap.size w1 wr)) (fun iv _ => ((intOf iv) + 1).toNat)
  case atStart => exact ⟨K, Nat.le_refl _, by go_num, hide (by rw [kk, List.drop_length]; exact unhide HC), B5⟩
  case round =>
    clear HC B5
    obtain ⟨m, hm, rfl, HC, HW⟩ := hrel
    by_cases hm0 : m = 0
    · subst hm0
      have HF := hide ((unhide HC).mono (Nat.le_trans (unhide HB).size (unhide BG)))
      rw [List.drop_zero] at HF
      clear HC kk
      go_wp2
      go_ret
      exact ⟨_, rfl, below_on (unhide HB) (unhide HW), unhide HF⟩
    · obtain ⟨p, hp⟩ : ∃ p, m = p + 1 := ⟨m - 1, by omega⟩
      have ip : (m : Int) - 1 = (p : Int) := by omega
      rw [ip]
      have pD : p < D.length := by omega
      have pK : (p : Int) < (K1 : Int) := by omega
      have wp1 : IntKind.i64.wrap ((p : Int) - 1) = (p : Int) - 1 := by rw [IntKind.wrap_i64]; omega
      obtain ⟨x', y', z', eq, hx, hy, hz⟩ := unhide ND p pD
      have CF := colF_drop pD (col1 n ((x : Int), (y : Int), (z : Int)))
      rw [eq, ← hp] at CF
      have bd1 := colF_bd n ((x : Int), (y : Int), (z : Int)) (D.drop m)
      have bt := bd_top (D.drop m).length (by rw [List.length_drop]; omega)
      have ba := bd1 x'
      have bb := bd1 z'
      have tc := unhide TC p (by simp; omega)
      rw [List.getElem_append_left pD, eq] at tc
      have t0 := ((unhide HW).cell (p := ⟨g3, p * 3, none⟩) hg3).trans tc.1
      have t1 := ((unhide HW).cell (p := ⟨g3, p * 3 + 1, none⟩) hg3).trans tc.2.1
      have t2 := ((unhide HW).cell (p := ⟨g3, p * 3 + 2, none⟩) hg3).trans tc.2.2
      have lC : (colF (D.drop m) (col1 n ((x : Int), (y : Int), (z : Int)))).length = n := by rw [colF_len, col1_len]
      have ca := (unhide HC).at11 (i := x') (by rw [lC]; exact hx)
      have cb := (unhide HC).at11 (i := z') (by rw [lC]; exact hz)
      obtain ⟨vy, cy⟩ : ∃ v, wr.cell? ⟨G, y', none⟩ = some v := ⟨_, (unhide HC).at11 (i := y') (by rw [lC]; exact hy)⟩
      have fy : wr.frozen? ⟨G, y', none⟩ = false := by have h := (unhide HC).row; rw [lC] at h; exact h.frozenAt y'
      have CO : Hid (∀ C : List Int, colO ((x' : Int), (y' : Int), (z' : Int)) C = C.set y' (3 - C.getD x' 0 - C.getD z' 0)) := hide (fun C => by simp [colO])
      rw [unhide CO] at CF
      generalize colF (D.drop m) (col1 n ((x : Int), (y : Int), (z : Int))) = C at *
      generalize C.getD x' 0 = A at *
      generalize C.getD z' 0 = Bv at *
      have w3a : IntKind.i64.wrap (3 - A) = 3 - A := by rw [IntKind.wrap_i64]; omega
      have w3b : IntKind.i64.wrap (3 - A - Bv) = 3 - A - Bv := by rw [IntKind.wrap_i64]; omega
      have hx' : (x' : Int) < (n : Int) := by omega
      have hy' : (y' : Int) < (n : Int) := by omega
      have hz' : (z' : Int) < (n : Int) := by omega
      have hpm : p ≤ K := by omega
      have p0 : (0 : Int) ≤ (p : Int) := by omega
      have ng : ¬ (g3 = G) := by have := unhide BG; omega
      have CFH := hide CF
      have HM := hide hm
      clear ba bb bd1 bt tc CO eq pD hp ip CF hx hy hz hm hm0 kk
      go_upto_region 9 with fail
      have al : Below wr.heap.size wr (wr.alloc (.cells #[.int .i64 (x' : Int), .int .i64 (y' : Int), .int .i64 (z' : Int)] 33)) := (Below.refl _ _).alloc (Nat.le_refl _) _
      have q0 : (wr.alloc (.cells #[.int .i64 (x' : Int), .int .i64 (y' : Int), .int .i64 (z' : Int)] 33)).cell? ⟨wr.heap.size, 0, none⟩ = some (.int .i64 (x' : Int)) := by simp [go_sem]
      have q1 : (wr.alloc (.cells #[.int .i64 (x' : Int), .int .i64 (y' : Int), .int .i64 (z' : Int)] 33)).cell? ⟨wr.heap.size, 1, none⟩ = some (.int .i64 (y' : Int)) := by simp [go_sem]
      have q2 : (wr.alloc (.cells #[.int .i64 (x' : Int), .int .i64 (y' : Int), .int .i64 (z' : Int)] 33)).cell? ⟨wr.heap.size, 2, none⟩ = some (.int .i64 (z' : Int)) := by simp [go_sem]
      have gw := World.block_lt_of_cell? _ _ ca
      replace ca := (al.cell (p := ⟨G, x', none⟩) gw).trans ca
      replace cb := (al.cell (p := ⟨G, z', none⟩) gw).trans cb
      replace cy := (al.cell (p := ⟨G, y', none⟩) gw).trans cy
      have HCA := (unhide HC).later al
      have fy' : (wr.alloc (.cells #[.int .i64 (x' : Int), .int .i64 (y' : Int), .int .i64 (z' : Int)] 33)).frozen? ⟨G, y', none⟩ = false := by have h := HCA.row; rw [lC] at h; exact h.frozenAt y'
      replace HC := hide HCA
      replace HW := hide (below_on (unhide HW) al)
      have nGP : ¬ (G = wr.heap.size) := by simp at gw; omega
      have nPG : ¬ (wr.heap.size = G) := by simp at gw; omega
      clear al HCA fy t0 t1 t2 gw lC
      generalize wr.alloc (.cells #[.int .i64 (x' : Int), .int .i64 (y' : Int), .int .i64 (z' : Int)] 33) = wA at *
      generalize wr.heap.size = PB at *
      go_region
      have RN := ((unhide HC).put11 y' (3 - A - Bv)).later (Below.refl _ _).drew
      rw [← unhide CFH] at RN
      have HN := hide RN
      have BN := hide ((((But.refl G (G + 1) wA).set (p := ⟨G, y', none⟩) (Nat.le_refl _) (Nat.lt_succ_self _) (.int .i64 (3 - A - Bv))).below (unhide HW) (unhide BG) (unhide HW).size).drew)
      clear RN HC HW q0 q1 q2 ca cb cy fy'
      generalize (wA.setCell ⟨G, y', none⟩ (.int .i64 (3 - A - Bv))).drew = w7 at *
      go_wp2
      go_roundw
      case rel => exact ⟨p, hpm, by go_num, HN, BN⟩
      case measure => (try simp [intOf]); (try omega)
end Go.Proofs.Ytblhjeepelgdaaa
