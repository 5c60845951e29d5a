/- CropOf of the program. No condition beyond those typed. Written by mkcp14.py. -/
import Derived.Test.YtakhgfecjghkpaaWn14
import Derived.Maps.AppendAt
namespace Go.Proofs.Ytakhgfecjghkpaa
open Go.RowKit Go.ChangeMaps
set_option linter.unusedVariables false
set_option maxRecDepth 100000
set_option linter.unusedSimpArgs false

/-- Beyond a byte. -/
def byo (x : Int) : Bool := decide (x < 0) || decide (255 < x)
theorem byoI (x : Int) (w : World) : Calls Try.prog 82 #[.int .i64 x] w fun e w' => e = .returned (.bool (byo x)) ∧ Below w.heap.size w w' := by
  by_cases h : x < 0
  · have hd : decide (x < 0) = true := decide_eq_true h
    go_enter Try.func82, Try.ntmps82
    go_wp2
    go_ret
    exact ⟨by unfold byo; rw [hd]; rfl, Below.refl _ _⟩
  · have hd : decide (x < 0) = false := decide_eq_false h
    go_enter Try.func82, Try.ntmps82
    go_wp2
    go_ret
    exact ⟨by unfold byo; rw [hd]; rfl, Below.refl _ _⟩
set_option maxHeartbeats 2000000 in
theorem indexByo (a : Option Addr) (n c : Nat) (xs : List Int) (w : World) (h : Arg w a n c xs) :
    Calls Try.prog 101 #[.slice a n c, .func (Fn.func 82) #[] #[]] w fun e w' => ∃ r : Int, e = .returned (.int .i64 r) ∧ Below w.heap.size w w' ∧ decide (0 ≤ r) = xs.any byo ∧ -1 ≤ r ∧ r ≤ 9223372036854775807 := by
  have HS := hide h.sl
  have HN := hide h.len
  have hm : n ≤ maxLen := Nat.le_trans h.cap h.top
  clear h
  unfold maxLen at hm
  go_enter Try.func101, Try.ntmps101
  go_wp2
  go_loopw [8] (fun iv wr => ∃ (i : Nat), i ≤ n ∧ iv = .int .i64 i ∧ Hid ((xs.take i).any byo = false) ∧ Hid (Below w.heap.size w wr)) (fun iv _ => n - (intOf iv).toNat)
  case atStart => exact ⟨0, Nat.zero_le _, rfl, hide (by simp), hide (Below.refl _ _)⟩
  case round =>
    obtain ⟨i, hi, rfl, EA, HB⟩ := hrel
    by_cases hlt : i < n
    · have hlt' : (i : Int) < (n : Int) := by omega
      rcases unhide HS with e | ⟨b, off, rfl, hb, hc⟩
      · exact absurd (unhide HN) (by rw [e]; simp; omega)
      have e0 := hc i (by rw [unhide HN]; exact hlt)
      obtain ⟨y, hy⟩ : ∃ y, y = xs.getD i 0 := ⟨_, rfl⟩
      rw [← hy] at e0
      have MY : Hid (y ∈ xs) := hide (by rw [hy, getD_at14 (by rw [unhide HN]; exact hlt)]; exact List.getElem_mem _)
      have EY := hide hy
      clear hy
      have E0 : wr.cell? ⟨b, off + i, none⟩ = some (.int .i64 y) := ((unhide HB).cell (p := ⟨b, off + i, none⟩) hb).trans e0
      clear e0 hc
      have TK : Hid (xs.take (i + 1) = xs.take i ++ [y]) := hide (by have h := take_succ14 (xs := xs) (i := i) (by rw [unhide HN]; exact hlt); rw [← unhide EY] at h; exact h)
      have CC := hide (fun w1 => byoI y w1)
      cases hp : byo y
      · rw [hp] at CC
        go_wp2_with fail
        refine (unhide CC _).mono ?_
        rintro e w1 ⟨rfl, hb1⟩
        have HB1 := hide (below_on (unhide HB) hb1)
        clear hb1 E0 CC
        go_wp2
        go_roundw
        case rel => exact ⟨i + 1, by omega, by go_num, hide (by rw [unhide TK, List.any_append, unhide EA]; simp only [List.any_cons, List.any_nil]; rw [hp]; rfl), HB1⟩
        case measure => simp [intOf]; omega
      · rw [hp] at CC
        have AN := hide (show xs.any byo = true from List.any_eq_true.2 ⟨y, unhide MY, hp⟩)
        go_wp2_with fail
        refine (unhide CC _).mono ?_
        rintro e w1 ⟨rfl, hb1⟩
        have HB1 := hide (below_on (unhide HB) hb1)
        clear hb1 E0 CC
        go_wp2
        go_ret
        exact ⟨_, rfl, unhide HB1, by rw [unhide AN]; exact decide_eq_true (by omega), by omega, by omega⟩
    · obtain rfl : i = n := by omega
      have EL := hide (show xs.any byo = false from by have := unhide EA; rw [← unhide HN, List.take_length] at this; exact this)
      go_wp2
      go_ret
      exact ⟨_, rfl, unhide HB, by rw [unhide EL]; rfl, by omega, by omega⟩
theorem containsByo (a : Option Addr) (n c : Nat) (xs : List Int) (w : World) (h : Arg w a n c xs) :
    Calls Try.prog 81 #[.slice a n c, .func (Fn.func 82) #[] #[]] w fun e w' => e = .returned (.bool (xs.any byo)) ∧ Below w.heap.size w w' := by
  have HS := hide h
  clear h
  go_enter Try.func81, Try.ntmps81
  go_wp2_with fail
  refine (indexByo a n c xs _ (unhide HS)).mono ?_
  rintro e w1 ⟨r, rfl, hb1, hr, r0, r1⟩
  have HB1 := hide hb1
  have HR := hide hr
  clear hb1 hr
  go_wp2
  go_ret
  exact ⟨by rw [← unhide HR]; rfl, unhide HB1⟩
/-- A window that lies within another one. -/
def inW (x y u v x2 y2 u2 v2 : Int) : Bool := (decide (x ≤ x2) && decide (x2 + u2 ≤ x + u)) && (decide (y ≤ y2) && decide (y2 + v2 ≤ y + v))
/-- The rows of a part, one behind the other. -/
def cr (xs : List Int) (b s m : Nat) : Nat → List Int
  | 0 => []
  | k + 1 => cr xs b s m k ++ (xs.drop (b + k * s)).take m
theorem cr_len {xs : List Int} {b s m : Nat} : ∀ k, (∀ j, j < k → b + j * s + m ≤ xs.length) → (cr xs b s m k).length = k * m
  | 0, _ => by simp [cr]
  | k + 1, h => by
    have h1 := h k (Nat.lt_succ_self k)
    rw [cr, List.length_append, cr_len k (fun j hj => h j (by omega)), List.length_take, List.length_drop, Nat.succ_mul]
    omega
theorem gW_in {x y u v : Int} (h : gW x y u v = true) : (-20 ≤ x ∧ x ≤ 20) ∧ (-20 ≤ y ∧ y ≤ 20) ∧ (1 ≤ u ∧ u ≤ 8) ∧ (1 ≤ v ∧ v ≤ 8) := by
  unfold gW inR at h
  simp only [Bool.and_eq_true, decide_eq_true_eq] at h
  omega
theorem inW_in {x y u v x2 y2 u2 v2 : Int} (h : inW x y u v x2 y2 u2 v2 = true) : (x ≤ x2 ∧ x2 + u2 ≤ x + u) ∧ (y ≤ y2 ∧ y2 + v2 ≤ y + v) := by
  unfold inW at h
  simp only [Bool.and_eq_true, decide_eq_true_eq] at h
  exact h
/-- What CropOf tells. -/
def crB (xs : List Int) (x y u v x2 y2 u2 v2 : Int) : Bool := gW x y u v && (gW x2 y2 u2 v2 && (inW x y u v x2 y2 u2 v2 && (((xs.length : Int) == u * v) && !xs.any byo)))
def crV (xs : List Int) (x y u v x2 y2 u2 v2 : Int) : List Int := if crB xs x y u v x2 y2 u2 v2 = true then cr xs (((y2 - y) * u + (x2 - x)).toNat) u.toNat u2.toNat v2.toNat else []
theorem mul_in {u v : Int} (h1 : 1 ≤ u ∧ u ≤ 8) (h2 : 1 ≤ v ∧ v ≤ 8) : 1 ≤ u * v ∧ u * v ≤ 64 := by
  have a : u = 1 ∨ u = 2 ∨ u = 3 ∨ u = 4 ∨ u = 5 ∨ u = 6 ∨ u = 7 ∨ u = 8 := by omega
  rcases a with rfl | rfl | rfl | rfl | rfl | rfl | rfl | rfl <;> omega
theorem lieI (f d g e : Int) (w : World) (h0 : -100 ≤ f ∧ f ≤ 100) (h1 : -100 ≤ d ∧ d ≤ 100) (h2 : -100 ≤ g ∧ g ≤ 100) (h3 : -100 ≤ e ∧ e ≤ 100) :
    Calls Try.prog 80 #[.int .i64 f, .int .i64 d, .int .i64 g, .int .i64 e] w fun e' w' => e' = .returned (.bool (decide (g ≤ f) && decide (f + d ≤ g + e))) ∧ w' = w := by
  have i1 : IntKind.i64.wrap (f + d) = f + d := by rw [IntKind.wrap_i64]; omega
  have i2 : IntKind.i64.wrap (g + e) = g + e := by rw [IntKind.wrap_i64]; omega
  clear h0 h1 h2 h3
  cases d1 : decide (g ≤ f) <;> cases d2 : decide (f + d ≤ g + e) <;>
    (go_enter Try.func80, Try.ntmps80
     go_wp2
     go_ret
     exact ⟨rfl, rfl⟩)
theorem partOfI (x y u v x2 y2 u2 v2 : Int) (w : World) (hx : -100 ≤ x ∧ x ≤ 100) (hy : -100 ≤ y ∧ y ≤ 100) (hu : -100 ≤ u ∧ u ≤ 100) (hv : -100 ≤ v ∧ v ≤ 100) (hx2 : -100 ≤ x2 ∧ x2 ≤ 100) (hy2 : -100 ≤ y2 ∧ y2 ≤ 100) (hu2 : -100 ≤ u2 ∧ u2 ≤ 100) (hv2 : -100 ≤ v2 ∧ v2 ≤ 100) :
    Calls Try.prog 49 #[.agg #[.int .i64 x2, .int .i64 y2, .int .i64 u2, .int .i64 v2], .agg #[.int .i64 x, .int .i64 y, .int .i64 u, .int .i64 v]] w fun e w' => e = .returned (.bool (inW x y u v x2 y2 u2 v2)) ∧ Below w.heap.size w w' := by
  have C1 := hide (fun w => lieI x2 u2 x u w hx2 hu2 hx hu)
  have C2 := hide (fun w => lieI y2 v2 y v w hy2 hv2 hy hv)
  clear hx hy hu hv hx2 hy2 hu2 hv2
  unfold inW
  generalize (decide (y ≤ y2) && decide (y2 + v2 ≤ y + v)) = r at *
  cases h1 : (decide (x ≤ x2) && decide (x2 + u2 ≤ x + u))
  · rw [h1] at C1
    go_enter Try.func49, Try.ntmps49
    go_wp2_with fail
    refine (unhide C1 _).mono ?_
    rintro e w1 ⟨rfl, rfl⟩
    go_wp2_with fail
    go_ret
    exact ⟨rfl, (((Below.refl _ _).alloc (Nat.le_refl _) _).alloc (by simp) _)⟩
  · rw [h1] at C1
    go_enter Try.func49, Try.ntmps49
    go_wp2_with fail
    refine (unhide C1 _).mono ?_
    rintro e w1 ⟨rfl, rfl⟩
    go_wp2_with fail
    refine (unhide C2 _).mono ?_
    rintro e w2 ⟨rfl, rfl⟩
    go_wp2_with fail
    go_ret
    exact ⟨rfl, (((Below.refl _ _).alloc (Nat.le_refl _) _).alloc (by simp) _)⟩
theorem bytesOfI (a : Option Addr) (n c : Nat) (xs : List Int) (x y u v : Int) (w : World) (h : Arg w a n c xs) (hu : 1 ≤ u ∧ u ≤ 8) (hv : 1 ≤ v ∧ v ≤ 8) :
    Calls Try.prog 50 #[.slice a n c, .agg #[.int .i64 x, .int .i64 y, .int .i64 u, .int .i64 v]] w fun e w' => e = .returned (.bool (((n : Int) == u * v) && !xs.any byo)) ∧ Below w.heap.size w w' := by
  have hm : n ≤ maxLen := Nat.le_trans h.cap h.top
  have iw : IntKind.i64.wrap (u * v) = u * v := by have := mul_in hu hv; rw [IntKind.wrap_i64]; omega
  have CC := hide (fun w1 (k : Arg w1 a n c xs) => containsByo a n c xs w1 k)
  have HA := hide h
  generalize xs.any byo = r at *
  clear h hu hv
  unfold maxLen at hm
  cases h1 : ((n : Int) == u * v)
  · have h2 : ¬ ((n : Int) = u * v) := by simpa using h1
    go_enter Try.func50, Try.ntmps50
    go_wp2
    go_ret
    exact ⟨rfl, (Below.refl _ _).alloc (Nat.le_refl _) _⟩
  · have h2 : (n : Int) = u * v := by simpa using h1
    go_enter Try.func50, Try.ntmps50
    have bl : Below w.heap.size w (w.alloc (.cells #[.int .i64 x, .int .i64 y, .int .i64 u, .int .i64 v] 25)) := (Below.refl _ _).alloc (Nat.le_refl _) _
    replace HA := hide ((unhide HA).later bl)
    have HB := hide bl
    clear bl
    go_wp2_with fail
    refine (unhide CC _ (unhide HA)).mono ?_
    rintro e w1 ⟨rfl, hb⟩
    replace HB := hide (below_on (unhide HB) hb)
    clear hb
    go_wp2_with fail
    go_ret
    exact ⟨rfl, unhide HB⟩
theorem news14 {w : World} {b off : Nat} {xs : List Int} (hc : ∀ i, i < xs.length → w.cell? ⟨b, off + i, none⟩ = some (.int .i64 (xs.getD i 0))) (f m : Nat) (hs : f + m ≤ xs.length) :
    ∀ j u, (((xs.drop f).take m).map (Value.int .i64))[j]? = some u → w.cell? ((⟨b, off + f, none⟩ : Addr).add j) = some u := by
  intro j u hj
  rw [List.getElem?_map] at hj
  have hj2 : j < m := by
    rcases Nat.lt_or_ge j m with k | k
    · exact k
    · rw [List.getElem?_eq_none (by simp; omega)] at hj; cases hj
  rw [List.getElem?_take_of_lt hj2, List.getElem?_drop] at hj
  have e := hc (f + j) (by omega)
  rw [List.getD_eq_getElem?_getD, List.getElem?_eq_getElem (by omega)] at e
  rw [List.getElem?_eq_getElem (by omega)] at hj
  simp only [Option.map_some, Option.some.injEq] at hj
  have ad : (⟨b, off + f, none⟩ : Addr).add j = ⟨b, off + (f + j), none⟩ := by
    unfold Addr.add
    split
    · rename_i h; subst h; rfl
    · simp only [Addr.mk.injEq, and_true, true_and]; omega
  rw [ad, e, ← hj]
  rfl
set_option maxHeartbeats 8000000 in
theorem cropI (x y X Y : Int) (dx dy U V U2 V2 : Nat) (a : Option Addr) (n c : Nat) (xs : List Int) (w : World) (h : Arg w a n c xs) (hx : -20 ≤ x ∧ x ≤ 20) (hy : -20 ≤ y ∧ y ≤ 20) (hX : X = x + dx) (hY : Y = y + dy)
    (hU : 1 ≤ U ∧ U ≤ 8) (hV : 1 ≤ V ∧ V ≤ 8) (hU2 : 1 ≤ U2 ∧ dx + U2 ≤ U) (hV2 : 1 ≤ V2 ∧ dy + V2 ≤ V) (hn : n = U * V) :
    Calls Try.prog 51 #[.agg #[.int .i64 X, .int .i64 Y, .int .i64 (U2 : Int), .int .i64 (V2 : Int)], .agg #[.int .i64 x, .int .i64 y, .int .i64 (U : Int), .int .i64 (V : Int)], .slice a n c] w fun e w' => ∃ r, e = .returned r ∧ Below w.heap.size w w' ∧ RwI w.heap.size w' r (cr xs (dy * U + dx) U U2 V2) := by
  obtain ⟨i0, hi, hz0, hz1, hz2⟩ := info_parts Try.info3
  have ROW : Hid (∀ k, k < V2 → dy * U + dx + k * U + U2 ≤ n ∧ (dy + k) * U + dx = dy * U + dx + k * U) := hide (fun k hk => by
    have e : (dy + k) * U = dy * U + k * U := Nat.add_mul _ _ _
    have l : (dy + k + 1) * U ≤ V * U := Nat.mul_le_mul_right U (by omega)
    have e2 : (dy + k + 1) * U = dy * U + k * U + U := by rw [Nat.add_mul, e]; omega
    rw [hn, Nat.mul_comm U V]
    omega)
  have n64 : n ≤ 64 := by rw [hn]; exact Nat.mul_le_mul hU.2 hV.2
  have HS := hide h.sl
  have HA := hide h
  have HN := hide h.len
  have hcap : n ≤ c := h.cap
  have htop : c ≤ maxLen := h.top
  unfold maxLen at htop
  obtain ⟨M, hM⟩ : ∃ M, M = U2 * V2 := ⟨_, rfl⟩
  have M64 : M ≤ 64 := by rw [hM]; exact Nat.mul_le_mul (show U2 ≤ 8 by omega) (show V2 ≤ 8 by omega)
  have eM : (M : Int) = (U2 : Int) * (V2 : Int) := by rw [hM]; simp
  have iwm : IntKind.i64.wrap ((U2 : Int) * (V2 : Int)) = (M : Int) := by rw [← eM, IntKind.wrap_i64]; omega
  obtain ⟨Y9, hY9⟩ : ∃ Y9 : Int, Y9 = y + dy + V2 := ⟨_, rfl⟩
  have iw9 : IntKind.i64.wrap (Y + (V2 : Int)) = Y9 := by rw [hY9, hY, IntKind.wrap_i64]; omega
  have CLN : Hid (∀ k, k ≤ V2 → (cr xs (dy * U + dx) U U2 k).length = k * U2) := hide (fun k hk => cr_len k (fun j hj => by have := (unhide ROW j (by omega)).1; rw [h.len]; exact this))
  have EM := hide eM
  have HX := hide hX
  have HY := hide hY
  have HY9 := hide hY9
  clear h hX hY hY9 eM hM hn
  go_enter Try.func51, Try.ntmps51
  go_upto_region 1 with fail
  have hb : Below w.heap.size w ((w.alloc (.cells #[.int .i64 X, .int .i64 Y, .int .i64 (U2 : Int), .int .i64 (V2 : Int)] 25)).alloc (.cells #[.int .i64 x, .int .i64 y, .int .i64 (U : Int), .int .i64 (V : Int)] 25)) := (((Below.refl _ _).alloc (by simp) _).alloc (by simp) _)
  have k0_0 : ((w.alloc (.cells #[.int .i64 X, .int .i64 Y, .int .i64 (U2 : Int), .int .i64 (V2 : Int)] 25)).alloc (.cells #[.int .i64 x, .int .i64 y, .int .i64 (U : Int), .int .i64 (V : Int)] 25)).cell? ⟨w.heap.size, 0, none⟩ = some (.int .i64 X) := by simp [go_sem]
  have k0_1 : ((w.alloc (.cells #[.int .i64 X, .int .i64 Y, .int .i64 (U2 : Int), .int .i64 (V2 : Int)] 25)).alloc (.cells #[.int .i64 x, .int .i64 y, .int .i64 (U : Int), .int .i64 (V : Int)] 25)).cell? ⟨w.heap.size, 1, none⟩ = some (.int .i64 Y) := by simp [go_sem]
  have k0_2 : ((w.alloc (.cells #[.int .i64 X, .int .i64 Y, .int .i64 (U2 : Int), .int .i64 (V2 : Int)] 25)).alloc (.cells #[.int .i64 x, .int .i64 y, .int .i64 (U : Int), .int .i64 (V : Int)] 25)).cell? ⟨w.heap.size, 2, none⟩ = some (.int .i64 (U2 : Int)) := by simp [go_sem]
  have k0_3 : ((w.alloc (.cells #[.int .i64 X, .int .i64 Y, .int .i64 (U2 : Int), .int .i64 (V2 : Int)] 25)).alloc (.cells #[.int .i64 x, .int .i64 y, .int .i64 (U : Int), .int .i64 (V : Int)] 25)).cell? ⟨w.heap.size, 3, none⟩ = some (.int .i64 (V2 : Int)) := by simp [go_sem]
  have k1_0 : ((w.alloc (.cells #[.int .i64 X, .int .i64 Y, .int .i64 (U2 : Int), .int .i64 (V2 : Int)] 25)).alloc (.cells #[.int .i64 x, .int .i64 y, .int .i64 (U : Int), .int .i64 (V : Int)] 25)).cell? ⟨w.heap.size + 1, 0, none⟩ = some (.int .i64 x) := by simp [go_sem]
  have k1_1 : ((w.alloc (.cells #[.int .i64 X, .int .i64 Y, .int .i64 (U2 : Int), .int .i64 (V2 : Int)] 25)).alloc (.cells #[.int .i64 x, .int .i64 y, .int .i64 (U : Int), .int .i64 (V : Int)] 25)).cell? ⟨w.heap.size + 1, 1, none⟩ = some (.int .i64 y) := by simp [go_sem]
  have k1_2 : ((w.alloc (.cells #[.int .i64 X, .int .i64 Y, .int .i64 (U2 : Int), .int .i64 (V2 : Int)] 25)).alloc (.cells #[.int .i64 x, .int .i64 y, .int .i64 (U : Int), .int .i64 (V : Int)] 25)).cell? ⟨w.heap.size + 1, 2, none⟩ = some (.int .i64 (U : Int)) := by simp [go_sem]
  have szw0 : w.heap.size + 2 ≤ ((w.alloc (.cells #[.int .i64 X, .int .i64 Y, .int .i64 (U2 : Int), .int .i64 (V2 : Int)] 25)).alloc (.cells #[.int .i64 x, .int .i64 y, .int .i64 (U : Int), .int .i64 (V : Int)] 25)).heap.size := by simp
  have HB := hide hb
  clear hb
  generalize ((w.alloc (.cells #[.int .i64 X, .int .i64 Y, .int .i64 (U2 : Int), .int .i64 (V2 : Int)] 25)).alloc (.cells #[.int .i64 x, .int .i64 y, .int .i64 (U : Int), .int .i64 (V : Int)] 25)) = w0 at *
  have szW := (unhide HB).size
  have N0 : w.heap.size + 2 ≤ w0.heap.size := szw0
  have M0 : (0 : Int) ≤ (M : Int) := by omega
  go_wp2_with (at_make; refine wpList_make_own _ rfl _ _ 28 rfl w0.heap.size 3 i0 (.int .i64 0) 1 Try.underlying28 hi hz0 hz1 .i64 .i64 _ M rfl rfl rfl ?c1 ?c2 ?c3 ?_)
  case c1 => rw [hz2]; omega
  case c2 => unfold maxLen; omega
  case c3 => exact Nat.le_refl _
  intro w1 hown hgrow
  have P0 : Hid (RwI w0.heap.size w1 (.slice (some ⟨w0.heap.size, 0, none⟩) 0 M) []) := hide ⟨by simpa using hown⟩
  have hb1 : Below w0.heap.size w0 w1 := (Below.refl _ _).grown hgrow (Nat.le_refl _) (fun k e => by cases e)
  have BW := hide hb1
  clear hown hgrow
  have K0_0 := hide k0_0
  clear k0_0
  have K0_1 := hide k0_1
  clear k0_1
  have K0_2 := hide k0_2
  clear k0_2
  have K0_3 := hide k0_3
  clear k0_3
  have K1_0 := hide k1_0
  clear k1_0
  have K1_1 := hide k1_1
  clear k1_1
  have K1_2 := hide k1_2
  clear k1_2
  have KY := (unhide BW).size
  have k0_1 := cell_later hb1 (unhide K0_1)
  go_wp2
  clear k0_1
  go_loopw [7, 8] (fun rv yv wr => ∃ (k : Nat) (Yk : Int), k ≤ V2 ∧ yv = .int .i64 Yk ∧ Hid (Yk = y + dy + k) ∧ Hid (RwI w0.heap.size wr rv (cr xs (dy * U + dx) U U2 k)) ∧ Hid (Below w0.heap.size w0 wr)) (fun _ yv _ => (Y9 - intOf yv).toNat)
  case atStart => exact ⟨0, Y, Nat.zero_le _, rfl, hide (by rw [unhide HY]; simp), P0, BW⟩
  case round =>
    clear P0 BW hb1 KY
    obtain ⟨k, Yk, hk, rfl, HYk, HR, HW⟩ := hrel
    have k0_0 : wr.cell? ⟨w.heap.size, 0, none⟩ = some (.int .i64 X) := cell_later (unhide HW) (unhide K0_0)
    have k0_1 : wr.cell? ⟨w.heap.size, 1, none⟩ = some (.int .i64 Y) := cell_later (unhide HW) (unhide K0_1)
    have k0_2 : wr.cell? ⟨w.heap.size, 2, none⟩ = some (.int .i64 (U2 : Int)) := cell_later (unhide HW) (unhide K0_2)
    have k0_3 : wr.cell? ⟨w.heap.size, 3, none⟩ = some (.int .i64 (V2 : Int)) := cell_later (unhide HW) (unhide K0_3)
    have k1_0 : wr.cell? ⟨w.heap.size + 1, 0, none⟩ = some (.int .i64 x) := cell_later (unhide HW) (unhide K1_0)
    have k1_1 : wr.cell? ⟨w.heap.size + 1, 1, none⟩ = some (.int .i64 y) := cell_later (unhide HW) (unhide K1_1)
    have k1_2 : wr.cell? ⟨w.heap.size + 1, 2, none⟩ = some (.int .i64 (U : Int)) := cell_later (unhide HW) (unhide K1_2)
    have yk := unhide HYk
    have y9 := unhide HY9
    by_cases hlt : k < V2
    · have c1 : Yk < Y9 := by omega
      obtain ⟨f, hf⟩ : ∃ f, f = dy * U + dx + k * U := ⟨_, rfl⟩
      obtain ⟨f2, hf2⟩ : ∃ f2, f2 = f + U2 := ⟨_, rfl⟩
      obtain ⟨r, hr⟩ : ∃ r, r = (dy + k) * U := ⟨_, rfl⟩
      have RO := unhide ROW k hlt
      have hfr : f = r + dx := by omega
      have f2n : f2 ≤ n := by omega
      obtain ⟨q, hq⟩ : ∃ q : Int, q = (dy : Int) + k := ⟨_, rfl⟩
      have iw1 : IntKind.i64.wrap (Yk - y) = q := by rw [IntKind.wrap_i64]; omega
      have iw2 : IntKind.i64.wrap (q * (U : Int)) = (r : Int) := by
        have e : q * (U : Int) = (r : Int) := by rw [hq, hr]; simp
        rw [e, IntKind.wrap_i64]; omega
      obtain ⟨z, hz⟩ : ∃ z : Int, z = (r : Int) + X := ⟨_, rfl⟩
      have hx0 := unhide HX
      have iw3 : IntKind.i64.wrap ((r : Int) + X) = z := by rw [IntKind.wrap_i64]; omega
      have iw4 : IntKind.i64.wrap (z - x) = (f : Int) := by rw [IntKind.wrap_i64]; omega
      have iw5 : IntKind.i64.wrap ((f : Int) + (U2 : Int)) = (f2 : Int) := by rw [IntKind.wrap_i64]; omega
      obtain ⟨Yk2, hYk2⟩ : ∃ Y2 : Int, Y2 = Yk + 1 := ⟨_, rfl⟩
      have iw6 : IntKind.i64.wrap (Yk + 1) = Yk2 := by rw [IntKind.wrap_i64]; omega
      have ff : (f : Int) ≤ (f2 : Int) := by omega
      have f2c : (f2 : Int) ≤ (c : Int) := by omega
      have fc' : (f : Int) ≤ (c : Int) := by omega
      have HQ := hide hYk2
      have kc2 : ¬ ((c : Int) = (f : Int)) := by omega
      have kc3 : ¬ (c - f = 0) := by omega
      have HYk2 := hide (show Yk2 = y + dy + ((k + 1 : Nat) : Int) by omega)
      have FF := hide (show f2 - f = U2 by omega)
      have CR : Hid (cr xs (dy * U + dx) U U2 (k + 1) = cr xs (dy * U + dx) U U2 k ++ (xs.drop f).take U2) := hide (by rw [cr, hf])
      rcases unhide HS with e | ⟨b, off, rfl, hb, hc⟩
      · exact absurd (unhide HN) (by rw [e]; simp; omega)
      have bw : b < w0.heap.size := by omega
      have NW := hide (news14 (w := wr) (b := b) (off := off) (xs := xs) (fun i hi => ((unhide HW).cell (p := ⟨b, off + i, none⟩) bw).trans (((unhide HB).cell (p := ⟨b, off + i, none⟩) hb).trans (hc i hi))) f U2 (by rw [unhide HN]; omega))
      have TL : ((xs.drop f).take U2).length = f2 - f := by rw [List.length_take, List.length_drop, unhide HN]; omega
      have CL2 := unhide CLN k (by omega)
      have cl64 : k * U2 ≤ 64 := Nat.mul_le_mul (show k ≤ 8 by omega) (show U2 ≤ 8 by omega)
      have szr := (unhide HW).size
      clear yk y9 RO hfr hq hr hz hx0 hYk2 hf hf2
      go_wp2_with (at_builtin; refine wpList_append_own_at _ rfl (.tmp 40) (.tmp 47) 28 rfl w0.heap.size 3 i0 (.int .i64 0) 1 8 Try.underlying28 hi hz0 hz1 hz2 rfl (by decide) _ _ _ rfl (unhide HR).row ⟨b, off + f, none⟩ (f2 - f) _ (((xs.drop f).take U2).map (Value.int .i64)) rfl (by rw [List.length_map, TL]; omega) (unhide NW) (fun u hu => by obtain ⟨x, _, rfl⟩ := List.mem_map.1 hu; rfl) (by unfold maxLen; omega) (by omega) szr ?_)
      intro v' w6 hown hgr _ _
      have R6 : Hid (RwI w0.heap.size w6 v' (cr xs (dy * U + dx) U U2 (k + 1))) := hide (by
        rw [unhide CR]
        refine ⟨?_⟩
        rw [List.map_append, List.length_append, TL, List.map_take, List.map_drop, CL2]
        exact hown)
      have B6 := hide ((unhide HW).grown hgr szr (unhide HR).blk)
      clear hown hgr
      go_wp2
      go_roundw
      case rel => exact ⟨k + 1, Yk2, by omega, rfl, HYk2, R6, B6⟩
      case measure => have := unhide HQ; simp [intOf]; omega
    · have c1 : ¬ (Yk < Y9) := by omega
      obtain rfl : k = V2 := by omega
      clear yk y9
      go_wp2
      go_ret
      exact ⟨_, rfl, below_on (unhide HB) (unhide HW), (unhide HR).mono szW⟩
theorem cr_eq (xs : List Int) (x y : Int) (dx dy U U2 V2 : Nat) : cr xs (((y + (dy : Int) - y) * (U : Int) + (x + (dx : Int) - x)).toNat) ((U : Int)).toNat ((U2 : Int)).toNat ((V2 : Int)).toNat = cr xs (dy * U + dx) U U2 V2 := by
  have e1 : y + (dy : Int) - y = (dy : Int) := by omega
  have e2 : x + (dx : Int) - x = (dx : Int) := by omega
  have e3 : (dy : Int) * (U : Int) + (dx : Int) = ((dy * U + dx : Nat) : Int) := by simp
  rw [e1, e2, e3]
  rfl
set_option maxHeartbeats 8000000 in
theorem CropI (a : Option Addr) (n c : Nat) (xs : List Int) (x y u v x2 y2 u2 v2 : Int) (w : World) (h : Arg w a n c xs) (h1 : n ≤ 1048576) :
    Calls Try.prog 25 #[.agg #[.int .i64 x, .int .i64 y, .int .i64 u, .int .i64 v], .slice a n c, .agg #[.int .i64 x2, .int .i64 y2, .int .i64 u2, .int .i64 v2]] w fun e w' => ∃ a' n' c', e = .returned (.tuple #[.slice a' n' c', .bool (crB xs x y u v x2 y2 u2 v2)]) ∧ Below w.heap.size w w' ∧ RtI w.heap.size w' a' n' c' (crV xs x y u v x2 y2 u2 v2) ∧ n' ≤ 1048576 := by
  have hn := h.len
  have HA := hide h
  clear h
  have C0 := hide (fun w => goodWI x y u v w)
  cases b0 : gW x y u v
  · have hB : crB xs x y u v x2 y2 u2 v2 = false := by unfold crB; rw [b0]; simp
    have hV : crV xs x y u v x2 y2 u2 v2 = [] := by unfold crV; rw [hB]; rfl
    rw [hB, hV]
    clear hB hV
    rw [b0] at C0
    clear hn b0
    skip
    have B0 := hide (show Below w.heap.size w ((w.alloc (.cells #[.int .i64 x, .int .i64 y, .int .i64 u, .int .i64 v] 25)).alloc (.cells #[.int .i64 x2, .int .i64 y2, .int .i64 u2, .int .i64 v2] 25)) from (((Below.refl _ _).alloc (by simp) _).alloc (by simp) _))
    go_enter Try.func25, Try.ntmps25
    replace HA := hide ((unhide HA).later (unhide B0))
    go_wp2_with fail
    refine (unhide C0 _).mono ?_
    rintro e w1 ⟨rfl, hb⟩
    have k0_0 : w1.cell? ⟨w.heap.size, 0, none⟩ = some (.int .i64 x) := cell_later hb (by simp [go_sem])
    have k0_1 : w1.cell? ⟨w.heap.size, 1, none⟩ = some (.int .i64 y) := cell_later hb (by simp [go_sem])
    have k0_2 : w1.cell? ⟨w.heap.size, 2, none⟩ = some (.int .i64 u) := cell_later hb (by simp [go_sem])
    have k0_3 : w1.cell? ⟨w.heap.size, 3, none⟩ = some (.int .i64 v) := cell_later hb (by simp [go_sem])
    have k1_0 : w1.cell? ⟨w.heap.size + 1, 0, none⟩ = some (.int .i64 x2) := cell_later hb (by simp [go_sem])
    have k1_1 : w1.cell? ⟨w.heap.size + 1, 1, none⟩ = some (.int .i64 y2) := cell_later hb (by simp [go_sem])
    have k1_2 : w1.cell? ⟨w.heap.size + 1, 2, none⟩ = some (.int .i64 u2) := cell_later hb (by simp [go_sem])
    have k1_3 : w1.cell? ⟨w.heap.size + 1, 3, none⟩ = some (.int .i64 v2) := cell_later hb (by simp [go_sem])
    replace HA := hide ((unhide HA).later hb)
    have HB := hide (below_on (unhide B0) hb)
    clear hb
    go_wp2_with fail
    go_ret2
    exact ⟨none, 0, 0, rfl, unhide HB, ⟨rfl, .inl rfl⟩, by omega⟩
  · skip
    have C1 := hide (fun w => goodWI x2 y2 u2 v2 w)
    cases b1 : gW x2 y2 u2 v2
    · have hB : crB xs x y u v x2 y2 u2 v2 = false := by unfold crB; rw [b0, b1]; simp
      have hV : crV xs x y u v x2 y2 u2 v2 = [] := by unfold crV; rw [hB]; rfl
      rw [hB, hV]
      clear hB hV
      rw [b0] at C0
      rw [b1] at C1
      clear hn b0 b1
      skip
      have B0 := hide (show Below w.heap.size w ((w.alloc (.cells #[.int .i64 x, .int .i64 y, .int .i64 u, .int .i64 v] 25)).alloc (.cells #[.int .i64 x2, .int .i64 y2, .int .i64 u2, .int .i64 v2] 25)) from (((Below.refl _ _).alloc (by simp) _).alloc (by simp) _))
      go_enter Try.func25, Try.ntmps25
      replace HA := hide ((unhide HA).later (unhide B0))
      go_wp2_with fail
      refine (unhide C0 _).mono ?_
      rintro e w1 ⟨rfl, hb⟩
      have k0_0 : w1.cell? ⟨w.heap.size, 0, none⟩ = some (.int .i64 x) := cell_later hb (by simp [go_sem])
      have k0_1 : w1.cell? ⟨w.heap.size, 1, none⟩ = some (.int .i64 y) := cell_later hb (by simp [go_sem])
      have k0_2 : w1.cell? ⟨w.heap.size, 2, none⟩ = some (.int .i64 u) := cell_later hb (by simp [go_sem])
      have k0_3 : w1.cell? ⟨w.heap.size, 3, none⟩ = some (.int .i64 v) := cell_later hb (by simp [go_sem])
      have k1_0 : w1.cell? ⟨w.heap.size + 1, 0, none⟩ = some (.int .i64 x2) := cell_later hb (by simp [go_sem])
      have k1_1 : w1.cell? ⟨w.heap.size + 1, 1, none⟩ = some (.int .i64 y2) := cell_later hb (by simp [go_sem])
      have k1_2 : w1.cell? ⟨w.heap.size + 1, 2, none⟩ = some (.int .i64 u2) := cell_later hb (by simp [go_sem])
      have k1_3 : w1.cell? ⟨w.heap.size + 1, 3, none⟩ = some (.int .i64 v2) := cell_later hb (by simp [go_sem])
      replace HA := hide ((unhide HA).later hb)
      have HB := hide (below_on (unhide B0) hb)
      clear hb
      go_wp2_with fail
      refine (unhide C1 _).mono ?_
      rintro e w2 ⟨rfl, hb⟩
      replace k0_0 := cell_later hb k0_0
      replace k0_1 := cell_later hb k0_1
      replace k0_2 := cell_later hb k0_2
      replace k0_3 := cell_later hb k0_3
      replace k1_0 := cell_later hb k1_0
      replace k1_1 := cell_later hb k1_1
      replace k1_2 := cell_later hb k1_2
      replace k1_3 := cell_later hb k1_3
      replace HA := hide ((unhide HA).later hb)
      replace HB := hide (below_on (unhide HB) hb)
      clear hb
      go_wp2_with fail
      go_ret2
      exact ⟨none, 0, 0, rfl, unhide HB, ⟨rfl, .inl rfl⟩, by omega⟩
    · skip
      have g0 := gW_in b0
      have g1 := gW_in b1
      have C2 := hide (fun w => partOfI x y u v x2 y2 u2 v2 w (by omega) (by omega) (by omega) (by omega) (by omega) (by omega) (by omega) (by omega))
      cases b2 : inW x y u v x2 y2 u2 v2
      · have hB : crB xs x y u v x2 y2 u2 v2 = false := by unfold crB; rw [b0, b1, b2]; simp
        have hV : crV xs x y u v x2 y2 u2 v2 = [] := by unfold crV; rw [hB]; rfl
        rw [hB, hV]
        clear hB hV
        rw [b0] at C0
        rw [b1] at C1
        rw [b2] at C2
        clear hn g0 g1 b0 b1 b2
        skip
        have B0 := hide (show Below w.heap.size w ((w.alloc (.cells #[.int .i64 x, .int .i64 y, .int .i64 u, .int .i64 v] 25)).alloc (.cells #[.int .i64 x2, .int .i64 y2, .int .i64 u2, .int .i64 v2] 25)) from (((Below.refl _ _).alloc (by simp) _).alloc (by simp) _))
        go_enter Try.func25, Try.ntmps25
        replace HA := hide ((unhide HA).later (unhide B0))
        go_wp2_with fail
        refine (unhide C0 _).mono ?_
        rintro e w1 ⟨rfl, hb⟩
        have k0_0 : w1.cell? ⟨w.heap.size, 0, none⟩ = some (.int .i64 x) := cell_later hb (by simp [go_sem])
        have k0_1 : w1.cell? ⟨w.heap.size, 1, none⟩ = some (.int .i64 y) := cell_later hb (by simp [go_sem])
        have k0_2 : w1.cell? ⟨w.heap.size, 2, none⟩ = some (.int .i64 u) := cell_later hb (by simp [go_sem])
        have k0_3 : w1.cell? ⟨w.heap.size, 3, none⟩ = some (.int .i64 v) := cell_later hb (by simp [go_sem])
        have k1_0 : w1.cell? ⟨w.heap.size + 1, 0, none⟩ = some (.int .i64 x2) := cell_later hb (by simp [go_sem])
        have k1_1 : w1.cell? ⟨w.heap.size + 1, 1, none⟩ = some (.int .i64 y2) := cell_later hb (by simp [go_sem])
        have k1_2 : w1.cell? ⟨w.heap.size + 1, 2, none⟩ = some (.int .i64 u2) := cell_later hb (by simp [go_sem])
        have k1_3 : w1.cell? ⟨w.heap.size + 1, 3, none⟩ = some (.int .i64 v2) := cell_later hb (by simp [go_sem])
        replace HA := hide ((unhide HA).later hb)
        have HB := hide (below_on (unhide B0) hb)
        clear hb
        go_wp2_with fail
        refine (unhide C1 _).mono ?_
        rintro e w2 ⟨rfl, hb⟩
        replace k0_0 := cell_later hb k0_0
        replace k0_1 := cell_later hb k0_1
        replace k0_2 := cell_later hb k0_2
        replace k0_3 := cell_later hb k0_3
        replace k1_0 := cell_later hb k1_0
        replace k1_1 := cell_later hb k1_1
        replace k1_2 := cell_later hb k1_2
        replace k1_3 := cell_later hb k1_3
        replace HA := hide ((unhide HA).later hb)
        replace HB := hide (below_on (unhide HB) hb)
        clear hb
        go_wp2_with fail
        refine (unhide C2 _).mono ?_
        rintro e w3 ⟨rfl, hb⟩
        replace k0_0 := cell_later hb k0_0
        replace k0_1 := cell_later hb k0_1
        replace k0_2 := cell_later hb k0_2
        replace k0_3 := cell_later hb k0_3
        replace k1_0 := cell_later hb k1_0
        replace k1_1 := cell_later hb k1_1
        replace k1_2 := cell_later hb k1_2
        replace k1_3 := cell_later hb k1_3
        replace HA := hide ((unhide HA).later hb)
        replace HB := hide (below_on (unhide HB) hb)
        clear hb
        go_wp2_with fail
        go_ret2
        exact ⟨none, 0, 0, rfl, unhide HB, ⟨rfl, .inl rfl⟩, by omega⟩
      · skip
        have C3 := hide (fun w (k : Arg w a n c xs) => bytesOfI a n c xs x y u v w k g0.2.2.1 g0.2.2.2)
        rw [show ((n : Int) == u * v) = ((xs.length : Int) == u * v) by rw [hn]] at C3
        cases b3 : (((xs.length : Int) == u * v) && !xs.any byo)
        · have hB : crB xs x y u v x2 y2 u2 v2 = false := by unfold crB; rw [b0, b1, b2, b3]; simp
          have hV : crV xs x y u v x2 y2 u2 v2 = [] := by unfold crV; rw [hB]; rfl
          rw [hB, hV]
          clear hB hV
          rw [b0] at C0
          rw [b1] at C1
          rw [b2] at C2
          rw [b3] at C3
          clear hn g0 g1 b0 b1 b2 b3
          skip
          have B0 := hide (show Below w.heap.size w ((w.alloc (.cells #[.int .i64 x, .int .i64 y, .int .i64 u, .int .i64 v] 25)).alloc (.cells #[.int .i64 x2, .int .i64 y2, .int .i64 u2, .int .i64 v2] 25)) from (((Below.refl _ _).alloc (by simp) _).alloc (by simp) _))
          go_enter Try.func25, Try.ntmps25
          replace HA := hide ((unhide HA).later (unhide B0))
          go_wp2_with fail
          refine (unhide C0 _).mono ?_
          rintro e w1 ⟨rfl, hb⟩
          have k0_0 : w1.cell? ⟨w.heap.size, 0, none⟩ = some (.int .i64 x) := cell_later hb (by simp [go_sem])
          have k0_1 : w1.cell? ⟨w.heap.size, 1, none⟩ = some (.int .i64 y) := cell_later hb (by simp [go_sem])
          have k0_2 : w1.cell? ⟨w.heap.size, 2, none⟩ = some (.int .i64 u) := cell_later hb (by simp [go_sem])
          have k0_3 : w1.cell? ⟨w.heap.size, 3, none⟩ = some (.int .i64 v) := cell_later hb (by simp [go_sem])
          have k1_0 : w1.cell? ⟨w.heap.size + 1, 0, none⟩ = some (.int .i64 x2) := cell_later hb (by simp [go_sem])
          have k1_1 : w1.cell? ⟨w.heap.size + 1, 1, none⟩ = some (.int .i64 y2) := cell_later hb (by simp [go_sem])
          have k1_2 : w1.cell? ⟨w.heap.size + 1, 2, none⟩ = some (.int .i64 u2) := cell_later hb (by simp [go_sem])
          have k1_3 : w1.cell? ⟨w.heap.size + 1, 3, none⟩ = some (.int .i64 v2) := cell_later hb (by simp [go_sem])
          replace HA := hide ((unhide HA).later hb)
          have HB := hide (below_on (unhide B0) hb)
          clear hb
          go_wp2_with fail
          refine (unhide C1 _).mono ?_
          rintro e w2 ⟨rfl, hb⟩
          replace k0_0 := cell_later hb k0_0
          replace k0_1 := cell_later hb k0_1
          replace k0_2 := cell_later hb k0_2
          replace k0_3 := cell_later hb k0_3
          replace k1_0 := cell_later hb k1_0
          replace k1_1 := cell_later hb k1_1
          replace k1_2 := cell_later hb k1_2
          replace k1_3 := cell_later hb k1_3
          replace HA := hide ((unhide HA).later hb)
          replace HB := hide (below_on (unhide HB) hb)
          clear hb
          go_wp2_with fail
          refine (unhide C2 _).mono ?_
          rintro e w3 ⟨rfl, hb⟩
          replace k0_0 := cell_later hb k0_0
          replace k0_1 := cell_later hb k0_1
          replace k0_2 := cell_later hb k0_2
          replace k0_3 := cell_later hb k0_3
          replace k1_0 := cell_later hb k1_0
          replace k1_1 := cell_later hb k1_1
          replace k1_2 := cell_later hb k1_2
          replace k1_3 := cell_later hb k1_3
          replace HA := hide ((unhide HA).later hb)
          replace HB := hide (below_on (unhide HB) hb)
          clear hb
          go_wp2_with fail
          refine (unhide C3 _ (unhide HA)).mono ?_
          rintro e w4 ⟨rfl, hb⟩
          replace k0_0 := cell_later hb k0_0
          replace k0_1 := cell_later hb k0_1
          replace k0_2 := cell_later hb k0_2
          replace k0_3 := cell_later hb k0_3
          replace k1_0 := cell_later hb k1_0
          replace k1_1 := cell_later hb k1_1
          replace k1_2 := cell_later hb k1_2
          replace k1_3 := cell_later hb k1_3
          replace HA := hide ((unhide HA).later hb)
          replace HB := hide (below_on (unhide HB) hb)
          clear hb
          go_wp2_with fail
          go_ret2
          exact ⟨none, 0, 0, rfl, unhide HB, ⟨rfl, .inl rfl⟩, by omega⟩
        · skip
          have hB : crB xs x y u v x2 y2 u2 v2 = true := by unfold crB; rw [b0, b1, b2, b3]; rfl
          have hV : crV xs x y u v x2 y2 u2 v2 = cr xs (((y2 - y) * u + (x2 - x)).toNat) u.toNat u2.toNat v2.toNat := by unfold crV; rw [hB]; rfl
          rw [hB, hV]
          have g2 := inW_in b2
          have g3 : (xs.length : Int) = u * v := by
            have := (Bool.and_eq_true _ _ ▸ b3 : _ ∧ _).1
            simpa using this
          rw [b0] at C0
          rw [b1] at C1
          rw [b2] at C2
          rw [b3] at C3
          clear b0 b1 b2 b3 hB hV
          obtain ⟨U, rfl⟩ : ∃ U : Nat, u = (U : Int) := ⟨u.toNat, by omega⟩
          obtain ⟨V, rfl⟩ : ∃ V : Nat, v = (V : Int) := ⟨v.toNat, by omega⟩
          obtain ⟨U2, rfl⟩ : ∃ U2 : Nat, u2 = (U2 : Int) := ⟨u2.toNat, by omega⟩
          obtain ⟨V2, rfl⟩ : ∃ V2 : Nat, v2 = (V2 : Int) := ⟨v2.toNat, by omega⟩
          obtain ⟨dx, rfl⟩ : ∃ dx : Nat, x2 = x + (dx : Int) := ⟨(x2 - x).toNat, by omega⟩
          obtain ⟨dy, rfl⟩ : ∃ dy : Nat, y2 = y + (dy : Int) := ⟨(y2 - y).toNat, by omega⟩
          rw [cr_eq]
          have nUV : n = U * V := by
            have e : ((n : Nat) : Int) = ((U * V : Nat) : Int) := by rw [← hn, g3]; simp
            omega
          obtain ⟨X, hX⟩ : ∃ X : Int, X = x + (dx : Int) := ⟨_, rfl⟩
          obtain ⟨Y, hY⟩ : ∃ Y : Int, Y = y + (dy : Int) := ⟨_, rfl⟩
          have ROW : (cr xs (dy * U + dx) U U2 V2).length ≤ 1048576 := by
            have e : (cr xs (dy * U + dx) U U2 V2).length = V2 * U2 := cr_len V2 (fun j hj => by
              have l : (dy + j + 1) * U ≤ V * U := Nat.mul_le_mul_right U (by omega)
              have e2 : (dy + j + 1) * U = dy * U + j * U + U := by rw [Nat.add_mul, Nat.add_mul]; omega
              rw [hn, nUV, Nat.mul_comm U V]
              omega)
            have := Nat.mul_le_mul (show V2 ≤ 8 by omega) (show U2 ≤ 8 by omega)
            omega
          have C4 := hide (fun w (k : Arg w a n c xs) => cropI x y X Y dx dy U V U2 V2 a n c xs w k g0.1 g0.2.1 hX hY (by omega) (by omega) (by omega) (by omega) nUV)
          rw [← hX, ← hY] at C1 C2 ⊢
          clear hX hY g0 g1 g2 g3 nUV hn
          generalize cr xs (dy * U + dx) U U2 V2 = R at *
          skip
          have B0 := hide (show Below w.heap.size w ((w.alloc (.cells #[.int .i64 x, .int .i64 y, .int .i64 (U : Int), .int .i64 (V : Int)] 25)).alloc (.cells #[.int .i64 X, .int .i64 Y, .int .i64 (U2 : Int), .int .i64 (V2 : Int)] 25)) from (((Below.refl _ _).alloc (by simp) _).alloc (by simp) _))
          go_enter Try.func25, Try.ntmps25
          replace HA := hide ((unhide HA).later (unhide B0))
          go_wp2_with fail
          refine (unhide C0 _).mono ?_
          rintro e w1 ⟨rfl, hb⟩
          have k0_0 : w1.cell? ⟨w.heap.size, 0, none⟩ = some (.int .i64 x) := cell_later hb (by simp [go_sem])
          have k0_1 : w1.cell? ⟨w.heap.size, 1, none⟩ = some (.int .i64 y) := cell_later hb (by simp [go_sem])
          have k0_2 : w1.cell? ⟨w.heap.size, 2, none⟩ = some (.int .i64 (U : Int)) := cell_later hb (by simp [go_sem])
          have k0_3 : w1.cell? ⟨w.heap.size, 3, none⟩ = some (.int .i64 (V : Int)) := cell_later hb (by simp [go_sem])
          have k1_0 : w1.cell? ⟨w.heap.size + 1, 0, none⟩ = some (.int .i64 X) := cell_later hb (by simp [go_sem])
          have k1_1 : w1.cell? ⟨w.heap.size + 1, 1, none⟩ = some (.int .i64 Y) := cell_later hb (by simp [go_sem])
          have k1_2 : w1.cell? ⟨w.heap.size + 1, 2, none⟩ = some (.int .i64 (U2 : Int)) := cell_later hb (by simp [go_sem])
          have k1_3 : w1.cell? ⟨w.heap.size + 1, 3, none⟩ = some (.int .i64 (V2 : Int)) := cell_later hb (by simp [go_sem])
          replace HA := hide ((unhide HA).later hb)
          have HB := hide (below_on (unhide B0) hb)
          clear hb
          go_wp2_with fail
          refine (unhide C1 _).mono ?_
          rintro e w2 ⟨rfl, hb⟩
          replace k0_0 := cell_later hb k0_0
          replace k0_1 := cell_later hb k0_1
          replace k0_2 := cell_later hb k0_2
          replace k0_3 := cell_later hb k0_3
          replace k1_0 := cell_later hb k1_0
          replace k1_1 := cell_later hb k1_1
          replace k1_2 := cell_later hb k1_2
          replace k1_3 := cell_later hb k1_3
          replace HA := hide ((unhide HA).later hb)
          replace HB := hide (below_on (unhide HB) hb)
          clear hb
          go_wp2_with fail
          refine (unhide C2 _).mono ?_
          rintro e w3 ⟨rfl, hb⟩
          replace k0_0 := cell_later hb k0_0
          replace k0_1 := cell_later hb k0_1
          replace k0_2 := cell_later hb k0_2
          replace k0_3 := cell_later hb k0_3
          replace k1_0 := cell_later hb k1_0
          replace k1_1 := cell_later hb k1_1
          replace k1_2 := cell_later hb k1_2
          replace k1_3 := cell_later hb k1_3
          replace HA := hide ((unhide HA).later hb)
          replace HB := hide (below_on (unhide HB) hb)
          clear hb
          go_wp2_with fail
          refine (unhide C3 _ (unhide HA)).mono ?_
          rintro e w4 ⟨rfl, hb⟩
          replace k0_0 := cell_later hb k0_0
          replace k0_1 := cell_later hb k0_1
          replace k0_2 := cell_later hb k0_2
          replace k0_3 := cell_later hb k0_3
          replace k1_0 := cell_later hb k1_0
          replace k1_1 := cell_later hb k1_1
          replace k1_2 := cell_later hb k1_2
          replace k1_3 := cell_later hb k1_3
          replace HA := hide ((unhide HA).later hb)
          replace HB := hide (below_on (unhide HB) hb)
          clear hb
          go_wp2_with fail
          refine (unhide C4 _ (unhide HA)).mono ?_
          rintro e w5 ⟨r, rfl, hb, rw_⟩
          have sz4 := (unhide HB).size
          clear k0_0 k0_1 k0_2 k0_3 k1_0 k1_1 k1_2 k1_3
          replace HA := hide ((unhide HA).later hb)
          have R5 := hide (rw_)
          replace HB := hide (below_on (unhide HB) hb)
          clear hb
          clear rw_
          obtain ⟨a', c', rfl, rt⟩ := (unhide R5).rt
          go_wp2_with fail
          go_ret2
          exact ⟨a', _, c', rfl, unhide HB, rt.mono sz4, ROW⟩
end Go.Proofs.Ytakhgfecjghkpaa
