/- slices.Reverse over a row of points of one's own. No condition beyond those typed. -/
import Derived.Test.YtgoiodhofbkkdaaRs10
namespace Go.Proofs.Ytgoiodhofbkkdaa
open Go.RowKit
set_option linter.unusedVariables false
set_option maxRecDepth 100000
set_option linter.unusedSimpArgs false

theorem flat_set : ∀ (L : List (Int × Int)) (k : Nat) (q : Int × Int), flatP (L.set k q) = ((flatP L).set (k * 2) (.int .i64 q.1)).set (k * 2 + 1) (.int .i64 q.2)
  | [], k, q => by simp [flatP]
  | p :: L, 0, q => by simp [flatP]
  | p :: L, k + 1, q => by
    rw [List.set_cons_succ, show flatP (p :: L.set k q) = .int .i64 p.1 :: .int .i64 p.2 :: flatP (L.set k q) by simp [flatP], flat_set L k q, show flatP (p :: L) = .int .i64 p.1 :: .int .i64 p.2 :: flatP L by simp [flatP], show (k + 1) * 2 = k * 2 + 1 + 1 by omega]
    rfl
theorem RwP.put {B g n c : Nat} {w : World} {L : List (Int × Int)} (h : RwP B w (.slice (some ⟨g, 0, none⟩) n c) L) (k : Nat) (q : Int × Int) : RwP B ((w.setCell ⟨g, k * 2, none⟩ (.int .i64 q.1)).setCell ⟨g, k * 2 + 1, none⟩ (.int .i64 q.2)) (.slice (some ⟨g, 0, none⟩) n c) (L.set k q) := by
  obtain rfl : L.length = n := h.raw.1
  refine ⟨?_⟩
  rw [flat_set, List.length_set]
  exact (World.ownsRow.stored (World.ownsRow.stored h.row (k * 2) (.int .i64 q.1)).1 (k * 2 + 1) (.int .i64 q.2)).1
def swp (L : List (Int × Int)) (k : Nat) : List (Int × Int) := (L.set k (L.getD (L.length - 1 - k) (0, 0))).set (L.length - 1 - k) (L.getD k (0, 0))
def rvK (L : List (Int × Int)) : Nat → List (Int × Int)
  | 0 => L
  | k + 1 => swp (rvK L k) k
theorem swp_len (L : List (Int × Int)) (k : Nat) : (swp L k).length = L.length := by simp [swp]
theorem rvK_len (L : List (Int × Int)) : ∀ k, (rvK L k).length = L.length
  | 0 => rfl
  | k + 1 => by rw [rvK, swp_len, rvK_len L k]
theorem rvK_get (L : List (Int × Int)) : ∀ k, 2 * k ≤ L.length → ∀ x, x < L.length → (rvK L k).getD x (0, 0) = if x < k ∨ L.length - 1 - x < k then L.getD (L.length - 1 - x) (0, 0) else L.getD x (0, 0)
  | 0, _, x, hx => by simp [rvK]
  | k + 1, hk, x, hx => by
    have ih := rvK_get L k (by omega)
    have e1 := ih k (by omega)
    have e2 := ih (L.length - 1 - k) (by omega)
    have e3 := ih x hx
    rw [if_neg (by omega)] at e1
    rw [if_neg (by omega)] at e2
    unfold rvK swp
    rw [rvK_len, e1, e2]
    simp only [List.getD_eq_getElem?_getD, List.getElem?_set, List.length_set, rvK_len] at e3 ⊢
    by_cases h1 : L.length - 1 - k = x
    · rw [if_pos h1, if_pos (by omega), if_pos (by omega), show L.length - 1 - x = k by omega]; rfl
    · rw [if_neg h1]
      by_cases h2 : k = x
      · rw [if_pos h2, if_pos (by omega), if_pos (by omega), ← h2]; rfl
      · rw [if_neg h2, e3]
        by_cases h3 : x < k ∨ L.length - 1 - x < k
        · rw [if_pos h3, if_pos (by omega)]
        · rw [if_neg h3, if_neg (by omega)]
theorem rvK_all {L : List (Int × Int)} {k : Nat} (h1 : 2 * k ≤ L.length) (h2 : L.length ≤ 2 * k + 1) : rvK L k = L.reverse := by
  apply List.ext_getElem (by rw [rvK_len]; simp)
  intro x hx hy
  have hx' : x < L.length := by rw [rvK_len] at hx; exact hx
  have := rvK_get L k h1 x hx'
  rw [getD_gt hx] at this
  rw [this, List.getElem_reverse]
  split
  · rw [getD_gt (by omega)]
  · rw [getD_gt (by omega)]
    congr 1
    omega
theorem grown_setc {w : World} {g k : Nat} {x : Value} : w.grownBy (w.setCell ⟨g, k, none⟩ x) (some g) :=
  ⟨rfl, rfl, rfl, by simp [World.setCell], fun j _ hne => set_other (fun e => hne (by rw [e]))⟩
set_option maxHeartbeats 4000000 in
theorem revI (B g n c : Nat) (L : List (Int × Int)) (w : World) (h : RwP B w (.slice (some ⟨g, 0, none⟩) n c) L) (hl : n ≤ 100) :
    Calls Try.prog 80 #[.slice (some ⟨g, 0, none⟩) n c] w fun e w' => (∃ r, e = .returned r) ∧ RwP B w' (.slice (some ⟨g, 0, none⟩) n c) L.reverse ∧ w.grownBy w' (some g) := by
  have HW := hide h
  have HN := hide h.raw.1
  clear h
  have i0 : IntKind.i64.wrap ((n : Int) - 1) = (n : Int) - 1 := by rw [IntKind.wrap_i64]; omega
  go_enter Try.func80, Try.ntmps80
  go_wp2
  go_loopw [2, 3] (fun iv jv wr => ∃ k : Nat, 2 * k ≤ n ∧ iv = .int .i64 k ∧ jv = .int .i64 ((n : Int) - 1 - (k : Int)) ∧ Hid (RwP B wr (.slice (some ⟨g, 0, none⟩) n c) (rvK L k)) ∧ Hid (w.grownBy wr (some g))) (fun iv _ _ => n - (intOf iv).toNat)
  case atStart => exact ⟨0, by omega, rfl, by go_num, HW, hide (grown_below (Below.refl _ _) _)⟩
  case round =>
    obtain ⟨k, hk, rfl, rfl, HR, HG⟩ := hrel
    by_cases hlt : 2 * k + 1 < n
    · obtain ⟨j, hj⟩ : ∃ j : Nat, j = n - 1 - k := ⟨_, rfl⟩
      have hjI : (n : Int) - 1 - (k : Int) = (j : Int) := by omega
      have hkj : k < j := by omega
      have hjn : j < n := by omega
      rw [hjI]
      have ES : Hid (rvK L (k + 1) = ((rvK L k).set k ((rvK L k).getD j (0, 0))).set j ((rvK L k).getD k (0, 0))) := hide (by rw [rvK, swp, rvK_len, unhide HN, hj])
      have a0 := (unhide HR).at_ (i := k) (by rw [rvK_len, unhide HN]; omega)
      have b0 := (unhide HR).at_ (i := j) (by rw [rvK_len, unhide HN]; omega)
      have fr : ∀ o, wr.frozen? ⟨g, o, none⟩ = false := fun o => by have h := (unhide HR).row; rw [rvK_len, unhide HN] at h; exact h.frozenAt o
      have EJ : Hid ((j : Int) - 1 = (n : Int) - 1 - ((k + 1 : Nat) : Int)) := hide (by omega)
      clear hj hjI
      generalize (rvK L k).getD k (0, 0) = p at *
      generalize (rvK L k).getD j (0, 0) = q at *
      have c0 := a0.1
      have c1 := a0.2
      have d0 := b0.1
      have d1 := b0.2
      have lt1 : (k : Int) < (j : Int) := by omega
      have lt2 : (k : Int) < (n : Int) := by omega
      have lt3 : (j : Int) < (n : Int) := by omega
      have ne1 : ¬ (k * 2 = j * 2) := by omega
      have ne2 : ¬ (k * 2 + 1 = j * 2) := by omega
      have ne3 : ¬ (k * 2 = j * 2 + 1) := by omega
      have ne4 : ¬ (k * 2 + 1 = j * 2 + 1) := by omega
      have i1 : IntKind.i64.wrap ((j : Int) - 1) = (j : Int) - 1 := by rw [IntKind.wrap_i64]; omega
      clear a0 b0
      go_upto_region 3 with fail
      go_region
      have R1 := (unhide HR).put k q
      have R2 := R1.put j p
      have G1 : wr.grownBy (((((wr.setCell ⟨g, k * 2, none⟩ (.int .i64 q.1)).setCell ⟨g, k * 2 + 1, none⟩ (.int .i64 q.2)).setCell ⟨g, j * 2, none⟩ (.int .i64 p.1)).setCell ⟨g, j * 2 + 1, none⟩ (.int .i64 p.2)).drew) (some g) := grown_trans (grown_trans (grown_trans (grown_trans grown_setc grown_setc) grown_setc) grown_setc) grown_drew
      have HR2 := hide (R2.later (Below.refl _ _).drew)
      have HG2 := hide (grown_trans (unhide HG) G1)
      clear R1 R2 G1 HR HG c0 c1 d0 d1 fr
      generalize (((((wr.setCell ⟨g, k * 2, none⟩ (.int .i64 q.1)).setCell ⟨g, k * 2 + 1, none⟩ (.int .i64 q.2)).setCell ⟨g, j * 2, none⟩ (.int .i64 p.1)).setCell ⟨g, j * 2 + 1, none⟩ (.int .i64 p.2)).drew) = w4 at *
      go_wp2
      go_roundw
      case rel => exact ⟨k + 1, by omega, by go_num, by rw [← unhide EJ], by rw [unhide ES]; exact HR2, HG2⟩
      case measure => simp [intOf]; omega
    · have nl : ¬ ((k : Int) < (n : Int) - 1 - (k : Int)) := by omega
      have ER : Hid (rvK L k = L.reverse) := hide (rvK_all (by rw [unhide HN]; omega) (by rw [unhide HN]; omega))
      rw [unhide ER] at HR
      go_wp2
      go_end0
      exact ⟨⟨_, rfl⟩, unhide HR, unhide HG⟩
end Go.Proofs.Ytgoiodhofbkkdaa
