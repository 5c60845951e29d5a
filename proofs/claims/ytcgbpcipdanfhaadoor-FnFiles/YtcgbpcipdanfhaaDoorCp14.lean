/- CropOf of the program. No condition beyond those typed. Written by mkcp14.py. -/
import Derived.Test.YtcgbpcipdanfhaaDoorWn14
import Derived.Maps.AppendAt
namespace Go.Proofs.YtcgbpcipdanfhaaDoor
open Go.RowKit Go.ChangeMaps
set_option linter.unusedVariables false
set_option maxRecDepth 100000
set_option linter.unusedSimpArgs false

/-- Beyond a byte. -/
def byo (x : Int) : Bool := decide (x < 0) || decide (255 < x)
theorem byoI (x : Int) (w : World) : Calls Tryd.prog 41 #[.int .i64 x] w fun e w' => e = .returned (.bool (byo x)) ∧ Below w.heap.size w w' := by
  by_cases h : x < 0
  · have hd : decide (x < 0) = true := decide_eq_true h
    go_enter Tryd.func41, Tryd.ntmps41
    go_wp2
    go_ret
    exact ⟨by unfold byo; rw [hd]; rfl, Below.refl _ _⟩
  · have hd : decide (x < 0) = false := decide_eq_false h
    go_enter Tryd.func41, Tryd.ntmps41
    go_wp2
    go_ret
    exact ⟨by unfold byo; rw [hd]; rfl, Below.refl _ _⟩
set_option maxHeartbeats 2000000 in
theorem indexByo (a : Option Addr) (n c : Nat) (xs : List Int) (w : World) (h : Arg w a n c xs) :
    Calls Tryd.prog 69 #[.slice a n c, .func (Fn.func 41) #[] #[]] w fun e w' => ∃ r : Int, e = .returned (.int .i64 r) ∧ Below w.heap.size w w' ∧ decide (0 ≤ r) = xs.any byo ∧ -1 ≤ r ∧ r ≤ 9223372036854775807 := by
  have HS := hide h.sl
  have HN := hide h.len
  have hm : n ≤ maxLen := Nat.le_trans h.cap h.top
  clear h
  unfold maxLen at hm
  go_enter Tryd.func69, Tryd.ntmps69
  go_wp2
  go_loopw [8] (fun iv wr => ∃ (i : Nat), i ≤ n ∧ iv = .int .i64 i ∧ Hid ((xs.take i).any byo = false) ∧ Hid (Below w.heap.size w wr)) (fun iv _ => n - (intOf iv).toNat)
  case atStart => exact ⟨0, Nat.zero_le _, rfl, hide (by simp), hide (Below.refl _ _)⟩
  case round =>
    obtain ⟨i, hi, rfl, EA, HB⟩ := hrel
    by_cases hlt : i < n
    · have hlt' : (i : Int) < (n : Int) := by omega
      rcases unhide HS with e | ⟨b, off, rfl, hb, hc⟩
      · exact absurd (unhide HN) (by rw [e]; simp; omega)
      have e0 := hc i (by rw [unhide HN]; exact hlt)
      obtain ⟨y, hy⟩ : ∃ y, y = xs.getD i 0 := ⟨_, rfl⟩
      rw [← hy] at e0
      have MY : Hid (y ∈ xs) := hide (by rw [hy, getD_at14 (by rw [unhide HN]; exact hlt)]; exact List.getElem_mem _)
      have EY := hide hy
      clear hy
      have E0 : wr.cell? ⟨b, off + i, none⟩ = some (.int .i64 y) := ((unhide HB).cell (p := ⟨b, off + i, none⟩) hb).trans e0
      clear e0 hc
      have TK : Hid (xs.take (i + 1) = xs.take i ++ [y]) := hide (by have h := take_succ14 (xs := xs) (i := i) (by rw [unhide HN]; exact hlt); rw [← unhide EY] at h; exact h)
      have CC := hide (fun w1 => byoI y w1)
      cases hp : byo y
      · rw [hp] at CC
        go_wp2_with fail
        refine (unhide CC _).mono ?_
        rintro e w1 ⟨rfl, hb1⟩
        have HB1 := hide (below_on (unhide HB) hb1)
        clear hb1 E0 CC
        go_wp2
        go_roundw
        case rel => exact ⟨i + 1, by omega, by go_num, hide (by rw [unhide TK, List.any_append, unhide EA]; simp only [List.any_cons, List.any_nil]; rw [hp]; rfl), HB1⟩
        case measure => simp [intOf]; omega
      · rw [hp] at CC
        have AN := hide (show xs.any byo = true from List.any_eq_true.2 ⟨y, unhide MY, hp⟩)
        go_wp2_with fail
        refine (unhide CC _).mono ?_
        rintro e w1 ⟨rfl, hb1⟩
        have HB1 := hide (below_on (unhide HB) hb1)
        clear hb1 E0 CC
        go_wp2
        go_ret
        exact ⟨_, rfl, unhide HB1, by rw [unhide AN]; exact decide_eq_true (by omega), by omega, by omega⟩
    · obtain rfl : i = n := by omega
      have EL := hide (show xs.any byo = false from by have := unhide EA; rw [← unhide HN, List.take_length] at this; exact this)
      go_wp2
      go_ret
      exact ⟨_, rfl, unhide HB, by rw [unhide EL]; rfl, by omega, by omega⟩
theorem containsByo (a : Option Addr) (n c : Nat) (xs : List Int) (w : World) (h : Arg w a n c xs) :
    Calls Tryd.prog 40 #[.slice a n c, .func (Fn.func 41) #[] #[]] w fun e w' => e = .returned (.bool (xs.any byo)) ∧ Below w.heap.size w w' := by
  have HS := hide h
  clear h
  go_enter Tryd.func40, Tryd.ntmps40
  go_wp2_with fail
  refine (indexByo a n c xs _ (unhide HS)).mono ?_
  rintro e w1 ⟨r, rfl, hb1, hr, r0, r1⟩
  have HB1 := hide hb1
  have HR := hide hr
  clear hb1 hr
  go_wp2
  go_ret
  exact ⟨by rw [← unhide HR]; rfl, unhide HB1⟩
/-- A window that lies within another one. -/
def inW (x y u v x2 y2 u2 v2 : Int) : Bool := (decide (x ≤ x2) && decide (x2 + u2 ≤ x + u)) && (decide (y ≤ y2) && decide (y2 + v2 ≤ y + v))
/-- The rows of a part, one behind the other. -/
def cr (xs : List Int) (b s m : Nat) : Nat → List Int
  | 0 => []
  | k + 1 => cr xs b s m k ++ (xs.drop (b + k * s)).take m
theorem cr_len {xs : List Int} {b s m : Nat} : ∀ k, (∀ j, j < k → b + j * s + m ≤ xs.length) → (cr xs b s m k).length = k * m
  | 0, _ => by simp [cr]
  | k + 1, h => by
    have h1 := h k (Nat.lt_succ_self k)
    rw [cr, List.length_append, cr_len k (fun j hj => h j (by omega)), List.length_take, List.length_drop, Nat.succ_mul]
    omega
theorem gW_in {x y u v : Int} (h : gW x y u v = true) : (-20 ≤ x ∧ x ≤ 20) ∧ (-20 ≤ y ∧ y ≤ 20) ∧ (1 ≤ u ∧ u ≤ 8) ∧ (1 ≤ v ∧ v ≤ 8) := by
  unfold gW inR at h
  simp only [Bool.and_eq_true, decide_eq_true_eq] at h
  omega
theorem inW_in {x y u v x2 y2 u2 v2 : Int} (h : inW x y u v x2 y2 u2 v2 = true) : (x ≤ x2 ∧ x2 + u2 ≤ x + u) ∧ (y ≤ y2 ∧ y2 + v2 ≤ y + v) := by
  unfold inW at h
  simp only [Bool.and_eq_true, decide_eq_true_eq] at h
  exact h
/-- What CropOf tells. -/
def crB (xs : List Int) (x y u v x2 y2 u2 v2 : Int) : Bool := gW x y u v && (gW x2 y2 u2 v2 && (inW x y u v x2 y2 u2 v2 && (((xs.length : Int) == u * v) && !xs.any byo)))
def crV (xs : List Int) (x y u v x2 y2 u2 v2 : Int) : List Int := if crB xs x y u v x2 y2 u2 v2 = true then cr xs (((y2 - y) * u + (x2 - x)).toNat) u.toNat u2.toNat v2.toNat else []
theorem mul_in {u v : Int} (h1 : 1 ≤ u ∧ u ≤ 8) (h2 : 1 ≤ v ∧ v ≤ 8) : 1 ≤ u * v ∧ u * v ≤ 64 := by
  have a : u = 1 ∨ u = 2 ∨ u = 3 ∨ u = 4 ∨ u = 5 ∨ u = 6 ∨ u = 7 ∨ u = 8 := by omega
  rcases a with rfl | rfl | rfl | rfl | rfl | rfl | rfl | rfl <;> omega
theorem news14 {w : World} {b off : Nat} {xs : List Int} (hc : ∀ i, i < xs.length → w.cell? ⟨b, off + i, none⟩ = some (.int .i64 (xs.getD i 0))) (f m : Nat) (hs : f + m ≤ xs.length) :
    ∀ j u, (((xs.drop f).take m).map (Value.int .i64))[j]? = some u → w.cell? ((⟨b, off + f, none⟩ : Addr).add j) = some u := by
  intro j u hj
  rw [List.getElem?_map] at hj
  have hj2 : j < m := by
    rcases Nat.lt_or_ge j m with k | k
    · exact k
    · rw [List.getElem?_eq_none (by simp; omega)] at hj; cases hj
  rw [List.getElem?_take_of_lt hj2, List.getElem?_drop] at hj
  have e := hc (f + j) (by omega)
  rw [List.getD_eq_getElem?_getD, List.getElem?_eq_getElem (by omega)] at e
  rw [List.getElem?_eq_getElem (by omega)] at hj
  simp only [Option.map_some, Option.some.injEq] at hj
  have ad : (⟨b, off + f, none⟩ : Addr).add j = ⟨b, off + (f + j), none⟩ := by
    unfold Addr.add
    split
    · rename_i h; subst h; rfl
    · simp only [Addr.mk.injEq, and_true, true_and]; omega
  rw [ad, e, ← hj]
  rfl
theorem cr_eq (xs : List Int) (x y : Int) (dx dy U U2 V2 : Nat) : cr xs (((y + (dy : Int) - y) * (U : Int) + (x + (dx : Int) - x)).toNat) ((U : Int)).toNat ((U2 : Int)).toNat ((V2 : Int)).toNat = cr xs (dy * U + dx) U U2 V2 := by
  have e1 : y + (dy : Int) - y = (dy : Int) := by omega
  have e2 : x + (dx : Int) - x = (dx : Int) := by omega
  have e3 : (dy : Int) * (U : Int) + (dx : Int) = ((dy * U + dx : Nat) : Int) := by simp
  rw [e1, e2, e3]
  rfl
end Go.Proofs.YtcgbpcipdanfhaaDoor
