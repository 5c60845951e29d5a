/- IsTriangulation of the program by value. No condition beyond those typed. Written by mkit11.py. -/
import Derived.Test.YtblhjeepelgdaaaPkZ12
import Derived.Test.YtblhjeepelgdaaaPkB12
namespace Go.Proofs.Ytblhjeepelgdaaa
open Go.RowKit
set_option linter.unusedVariables false
set_option maxRecDepth 100000
set_option linter.unusedSimpArgs false

def pAt (l : List (Int × Int)) (k : Int) : Int × Int := l.getD k.toNat (0, 0)
def tcr (l : List (Int × Int)) (x : Int × Int × Int) : Int := crs (pAt l x.1) (pAt l x.2.1) (pAt l x.2.2)
def tgB (l : List (Int × Int)) (x : Int × Int × Int) : Bool := trB l.length x && (sgZ (tcr l x) == sgZ (arS l l.length))
def tsum (l : List (Int × Int)) : List (Int × Int × Int) → Int
  | [] => 0
  | x :: T => tcr l x + tsum l T
noncomputable def itgV (l : List (Int × Int)) (T : List (Int × Int × Int)) : Bool := ipB l && (decide (T.length + 2 = l.length) && (T.all (tgB l) && (tsum l T == arS l l.length)))
theorem tsum_app (l : List (Int × Int)) : ∀ T U, tsum l (T ++ U) = tsum l T + tsum l U
  | [], U => by simp [tsum]
  | x :: T, U => by
    have := tsum_app l T U
    show tcr l x + tsum l (T ++ U) = tcr l x + tsum l T + tsum l U
    omega
theorem cn_nat {n : Nat} {k : Int} (h : cnB n k = true) : ∃ q : Nat, k = q ∧ q < n := by
  unfold cnB at h
  have := (Bool.and_eq_true _ _).mp h
  have h1 := of_decide_eq_true this.1
  have h2 := of_decide_eq_true this.2
  exact ⟨k.toNat, by omega, by omega⟩
theorem tr_nat {n : Nat} {x : Int × Int × Int} (h : trB n x = true) : ∃ p q r : Nat, x = ((p : Int), (q : Int), (r : Int)) ∧ p < n ∧ q < n ∧ r < n := by
  unfold trB at h
  simp only [Bool.and_eq_true] at h
  obtain ⟨p, hp, p'⟩ := cn_nat h.1.1
  obtain ⟨q, hq, q'⟩ := cn_nat h.1.2
  obtain ⟨r, hr, r'⟩ := cn_nat h.2
  obtain ⟨x1, x2, x3⟩ := x
  simp only at hp hq hr
  subst hp hq hr
  exact ⟨p, q, r, rfl, p', q', r'⟩
theorem tcr_nat (l : List (Int × Int)) (p q r : Nat) : tcr l ((p : Int), (q : Int), (r : Int)) = crs (l.getD p (0, 0)) (l.getD q (0, 0)) (l.getD r (0, 0)) := rfl
theorem tsum_bd {l : List (Int × Int)} (hg : ∀ p ∈ l, Near p) : ∀ T : List (Int × Int × Int), (∀ x ∈ T, tgB l x = true) → -((T.length : Int) * 80000000000) ≤ tsum l T ∧ tsum l T ≤ (T.length : Int) * 80000000000
  | [], _ => by simp [tsum]
  | x :: T, h => by
    have k := tsum_bd hg T (fun y hy => h y (List.mem_cons_of_mem _ hy))
    have hx := h x (List.mem_cons_self ..)
    unfold tgB at hx
    obtain ⟨p, q, r, rfl, h1, h2, h3⟩ := tr_nat ((Bool.and_eq_true _ _).mp hx).1
    have b := crs_bd (near_at hg h1) (near_at hg h2) (near_at hg h3)
    rw [← tcr_nat] at b
    show -(((T.length + 1 : Nat) : Int) * 80000000000) ≤ tcr l _ + tsum l T ∧ tcr l _ + tsum l T ≤ ((T.length + 1 : Nat) : Int) * 80000000000
    omega
theorem ipB_way {l : List (Int × Int)} (h : ipB l = true) : (3 ≤ l.length ∧ l.length ≤ 12) ∧ ∀ p ∈ l, Near p := way_parts (ip_parts h).1
theorem takeT {T : List (Int × Int × Int)} {i : Nat} (h : i < T.length) : T.take (i + 1) = T.take i ++ [T[i]] := (List.take_append_getElem h).symm
set_option maxHeartbeats 8000000 in
theorem IsTriangulationS (a : Option Addr) (n c : Nat) (l : List (Int × Int)) (b : Option Addr) (m d : Nat) (T : List (Int × Int × Int)) (w : World) (h : ArP w a n c l) (h' : ArT w b m d T) (h1 : n ≤ 1048576) (h2 : m ≤ 1048576) :
    Calls Try.prog 36 #[.slice a n c, .slice b m d] w fun e w' => e = .returned (.tuple #[.bool (itgV l T), .bool (ipB l)]) ∧ Below w.heap.size w w' := by
  have hn := h.len
  have hm := h'.len
  have CG := hide (fun w (k : SlP w a l) => gswS a n c l w k hn h1)
  have HS := hide h.sl
  cases hp : ipB l
  · rw [hp] at CG
    have EV : itgV l T = false := by unfold itgV; rw [hp]; rfl
    rw [EV]
    clear hp h h' hn hm EV
    go_enter Try.func36, Try.ntmps36
    go_wp2_with fail
    refine (unhide CG _ (unhide HS)).mono ?_
    rintro e w1 ⟨rfl, hb⟩
    go_wp2_with fail
    go_ret2
    exact ⟨rfl, hb⟩
  · rw [hp] at CG
    have wp := ipB_way hp
    have n12 : n ≤ 12 := by omega
    have n3 : 3 ≤ n := by omega
    have ws : IntKind.i64.wrap ((n : Int) - 2) = (n : Int) - 2 := by rw [IntKind.wrap_i64]; omega
    by_cases hk : m + 2 = n
    rotate_left
    · have EV : itgV l T = false := by unfold itgV; rw [hp, hm, hn, decide_eq_false hk]; rfl
      rw [EV]
      have dd : ((m : Int) != (n : Int) - 2) = true := by simp; omega
      clear hp h h' hn hm EV wp hk n12 n3
      go_enter Try.func36, Try.ntmps36
      go_wp2_with fail
      refine (unhide CG _ (unhide HS)).mono ?_
      rintro e w1 ⟨rfl, hb⟩
      go_wp2_with fail
      go_ret2
      exact ⟨rfl, hb⟩
    · have EV : Hid (itgV l T = (T.all (tgB l) && (tsum l T == arS l l.length))) := hide (by unfold itgV; rw [hp, hm, hn, decide_eq_true hk]; rfl)
      have dd : ((m : Int) != (n : Int) - 2) = false := by simp; omega
      have CA := hide (fun w (k : SlP w a l) => areaS a n c l w k hn n12 wp.2)
      have SL := h.sl
      rcases SL with e | ⟨q, off, rfl, hq, hc⟩
      · subst e; simp at hn; omega
      have HC : Hid (∀ k, k < n → w.cell? ⟨q, off + k * 2, none⟩ = some (.int .i64 (l.getD k (0, 0)).1) ∧ w.cell? ⟨q, off + k * 2 + 1, none⟩ = some (.int .i64 (l.getD k (0, 0)).2)) := hide (fun k hk => by
        have := hc k (by omega)
        rw [List.getD_eq_getElem?_getD, List.getElem?_eq_getElem (by omega)]
        exact this)
      have ST := h'.sl
      rcases ST with e | ⟨r, of2, rfl, hr, hd⟩
      · subst e; simp at hm; omega
      have HD : Hid (∀ k (hk : k < T.length), w.cell? ⟨r, of2 + k * 3, none⟩ = some (.int .i64 T[k].1) ∧ w.cell? ⟨r, of2 + k * 3 + 1, none⟩ = some (.int .i64 T[k].2.1) ∧ w.cell? ⟨r, of2 + k * 3 + 2, none⟩ = some (.int .i64 T[k].2.2)) := hide hd
      have HG := hide wp.2
      have HN := hide hn
      have HM := hide hm
      have HK := hide hk
      have m10 : m ≤ 10 := by omega
      have C0 := hide (fun w x => triOfS (some ⟨q, off, none⟩) n c x w)
      have CO := hide (fun (x y z : Int × Int) w (hx : Near x) (hy : Near y) (hz : Near z) => orientS8 x y z w hx hy hz)
      have CX := hide (fun (x y z : Int × Int) w (hx : Near x) (hy : Near y) (hz : Near z) => crossS x y z w hx hy hz)
      have TB := hide (fun x => (by unfold tgB; rw [hn] : tgB l x = (trB n x && (sgZ (tcr l x) == sgZ (arS l l.length)))))
      have NO := hide (fun (x : Int × Int × Int) (hx : x ∈ T) (k : tgB l x = false) => (by rw [unhide EV]; rw [show T.all (tgB l) = false from List.all_eq_false.2 ⟨x, hx, by rw [k]; decide⟩]; rfl : itgV l T = false))
      have YES := hide (fun (k : ∀ x ∈ T, tgB l x = true) => (by rw [unhide EV, List.all_eq_true.2 k]; rfl : itgV l T = (tsum l T == arS l l.length)))
      clear hp h h' hn hm wp hk hc hd EV h1 h2
      generalize arS l l.length = A at *
      generalize itgV l T = V at *
      go_enter Try.func36, Try.ntmps36
      go_wp2_with fail
      refine (unhide CG _ (unhide HS)).mono ?_
      rintro e w1 ⟨rfl, hb⟩
      have HB := hide hb
      clear hb CG
      go_wp2_with fail
      go_loopw [6, 20] (fun sv iv wr => ∃ i : Nat, i ≤ m ∧ iv = .int .i64 i ∧ sv = .int .i64 (tsum l (T.take i)) ∧ Hid (∀ x ∈ T.take i, tgB l x = true) ∧ Hid (Below w.heap.size w wr)) (fun _ iv _ => m - (intOf iv).toNat)
      case atStart => exact ⟨0, Nat.zero_le _, rfl, rfl, hide (by simp), HB⟩
      case round =>
        clear HB
        obtain ⟨i, hi, rfl, rfl, HT, HB⟩ := hrel
        by_cases hlt : i < m
        · have hlt' : (i : Int) < (m : Int) := by omega
          have iT : i < T.length := by rw [unhide HM]; exact hlt
          have hx := unhide HD i iT
          have bs := tsum_bd (unhide HG) _ (unhide HT)
          have bl : (T.take i).length ≤ 10 := by rw [List.length_take]; have := unhide HK; omega
          have NOi := hide (unhide NO T[i] (List.getElem_mem iT))
          have TBi := hide (unhide TB T[i])
          have ES := hide (by rw [takeT iT, tsum_app]; simp [tsum] : tsum l (T.take (i + 1)) = tsum l (T.take i) + tcr l T[i])
          have HTn : Hid (tgB l T[i] = true → ∀ x ∈ T.take (i + 1), tgB l x = true) := hide (fun k x hx => by
            rw [takeT iT, List.mem_append] at hx
            rcases hx with hx | hx
            · exact unhide HT x hx
            · simp at hx; subst hx; exact k)
          generalize tsum l (T.take i) = s0 at *
          generalize (T.take i).length = bi at *
          generalize T[i] = x at *
          have D0 : wr.cell? ⟨r, of2 + i * 3, none⟩ = some (.int .i64 x.1) := ((unhide HB).cell (p := ⟨r, of2 + i * 3, none⟩) hr).trans hx.1
          have D1 : wr.cell? ⟨r, of2 + i * 3 + 1, none⟩ = some (.int .i64 x.2.1) := ((unhide HB).cell (p := ⟨r, of2 + i * 3 + 1, none⟩) hr).trans hx.2.1
          have D2 : wr.cell? ⟨r, of2 + i * 3 + 2, none⟩ = some (.int .i64 x.2.2) := ((unhide HB).cell (p := ⟨r, of2 + i * 3 + 2, none⟩) hr).trans hx.2.2
          clear hx HT NO YES TB HD
          cases ht : trB n x
          · have NV := unhide NOi (by rw [unhide TBi, ht]; rfl)
            subst NV
            have C0x := hide (fun w => unhide C0 w x)
            rw [ht] at C0x
            clear NOi TBi ES HTn bs bl HC HG C0 CO CX CA
            have bx := (Below.refl wr.heap.size wr).alloc (Nat.le_refl _) (.cells #[.int .i64 x.1, .int .i64 x.2.1, .int .i64 x.2.2] 33)
            replace HB := hide (below_on (unhide HB) bx)
            have X0 : (wr.alloc (.cells #[.int .i64 x.1, .int .i64 x.2.1, .int .i64 x.2.2] 33)).cell? ⟨wr.heap.size, 0, none⟩ = some (.int .i64 x.1) := by simp [go_sem]
            have X1 : (wr.alloc (.cells #[.int .i64 x.1, .int .i64 x.2.1, .int .i64 x.2.2] 33)).cell? ⟨wr.heap.size, 1, none⟩ = some (.int .i64 x.2.1) := by simp [go_sem]
            have X2 : (wr.alloc (.cells #[.int .i64 x.1, .int .i64 x.2.1, .int .i64 x.2.2] 33)).cell? ⟨wr.heap.size, 2, none⟩ = some (.int .i64 x.2.2) := by simp [go_sem]
            go_upto_region 9 with fail
            generalize wr.alloc (.cells #[.int .i64 x.1, .int .i64 x.2.1, .int .i64 x.2.2] 33) = wb at *
            clear D0 D1 D2 bx
            generalize wr.heap.size = PX at *
            refine wp_region_held_drew (S := fun w' => w'.cell? ⟨PX, 0, none⟩ = some (.int .i64 x.1) ∧ w'.cell? ⟨PX, 1, none⟩ = some (.int .i64 x.2.1) ∧ w'.cell? ⟨PX, 2, none⟩ = some (.int .i64 x.2.2)) (by kernel_rfl) ⟨X0, X1, X2⟩ (fun hHeld => ?_)
            simp only [List.size_toArray, List.length_cons, List.length_nil, Nat.reduceAdd, Array.replicate_succ, Array.replicate_zero, List.push_toArray, List.nil_append, List.cons_append]
            refine wpAnyH_take (i := 0) (v := .slice (some ⟨q, off, none⟩) n c) rfl (by kernel_rfl) (by kernel_rfl) (by kernel_rfl) (fun _ _ _ h => h) (Or.inl ⟨by rfl, by intro w hSw; (try dsimp only at hSw); go_simp⟩) hHeld ?_
            simp only [List.getElem_toArray, List.getElem_cons_zero, List.getElem_cons_succ, Act.put, List.setIfInBounds_toArray, List.set_cons_zero, List.set_cons_succ]
            refine wpAnyH_take (i := 1) (v := .agg #[.int .i64 x.1, .int .i64 x.2.1, .int .i64 x.2.2]) rfl (by kernel_rfl) (by kernel_rfl) (by kernel_rfl) (fun _ _ _ h => h) (Or.inl ⟨by rfl, by intro w hSw; (try dsimp only at hSw); go_simp⟩) hHeld ?_
            simp only [List.getElem_toArray, List.getElem_cons_zero, List.getElem_cons_succ, Act.put, List.setIfInBounds_toArray, List.set_cons_zero, List.set_cons_succ]
            refine wpAnyH_ready (rs := [2]) (by kernel_rfl) (by simp) (AllReadyH.cons rfl (fun K hK => ?_) AllReadyH.nil)
            go_simp
            refine (unhide C0x _).mono ?_
            rintro e w2 ⟨rfl, hb1⟩
            have hbx := below_of_drew hb1
            replace X0 := cell_later hbx X0
            replace X1 := cell_later hbx X1
            replace X2 := cell_later hbx X2
            replace HB := hide (below_on (unhide HB) hbx)
            refine hK.out _ _ ⟨X0, X1, X2⟩ (fun hHeld2 => ?_)
            clear hK K hb1 hbx hHeld
            have hHeld := hHeld2
            clear hHeld2
            simp only [Act.put, List.setIfInBounds_toArray, List.set_cons_zero, List.set_cons_succ]
            refine wpAnyH_take (i := 3) (v := .bool true) rfl (by kernel_rfl) (by kernel_rfl) (by kernel_rfl) (fun _ _ _ h => h) (Or.inl ⟨by rfl, by intro w hSw; (try dsimp only at hSw); go_simp⟩) hHeld ?_
            simp only [List.getElem_toArray, List.getElem_cons_zero, List.getElem_cons_succ, Act.put, List.setIfInBounds_toArray, List.set_cons_zero, List.set_cons_succ]
            refine wpAnyH_take (i := 4) (v := .bool true) rfl (by kernel_rfl) (by kernel_rfl) (by kernel_rfl) (fun _ _ _ h => h) (Or.inl ⟨by rfl, by intro w hSw; (try dsimp only at hSw); go_simp⟩) hHeld ?_
            simp only [List.getElem_toArray, List.getElem_cons_zero, List.getElem_cons_succ, Act.put, List.setIfInBounds_toArray, List.set_cons_zero, List.set_cons_succ]
            refine wpAnyH_take (i := 5) (v := undef) rfl (by kernel_rfl) (by kernel_rfl) (by kernel_rfl) (fun _ _ _ h => h) (Or.inr ⟨by kernel_rfl, rfl⟩) hHeld ?_
            simp only [List.getElem_toArray, List.getElem_cons_zero, List.getElem_cons_succ, Act.put, List.setIfInBounds_toArray, List.set_cons_zero, List.set_cons_succ]
            refine wpAnyH_take (i := 6) (v := undef) rfl (by kernel_rfl) (by kernel_rfl) (by kernel_rfl) (fun _ _ _ h => h) (Or.inr ⟨by kernel_rfl, rfl⟩) hHeld ?_
            simp only [List.getElem_toArray, List.getElem_cons_zero, List.getElem_cons_succ, Act.put, List.setIfInBounds_toArray, List.set_cons_zero, List.set_cons_succ]
            refine wpAnyH_take (i := 7) (v := undef) rfl (by kernel_rfl) (by kernel_rfl) (by kernel_rfl) (fun _ _ _ h => h) (Or.inr ⟨by kernel_rfl, rfl⟩) hHeld ?_
            simp only [List.getElem_toArray, List.getElem_cons_zero, List.getElem_cons_succ, Act.put, List.setIfInBounds_toArray, List.set_cons_zero, List.set_cons_succ]
            refine wpAnyH_take (i := 8) (v := undef) rfl (by kernel_rfl) (by kernel_rfl) (by kernel_rfl) (fun _ _ _ h => h) (Or.inr ⟨by kernel_rfl, rfl⟩) hHeld ?_
            simp only [List.getElem_toArray, List.getElem_cons_zero, List.getElem_cons_succ, Act.put, List.setIfInBounds_toArray, List.set_cons_zero, List.set_cons_succ]
            refine wpAnyH_take (i := 9) (v := undef) rfl (by kernel_rfl) (by kernel_rfl) (by kernel_rfl) (fun _ _ _ h => h) (Or.inr ⟨by kernel_rfl, rfl⟩) hHeld ?_
            simp only [List.getElem_toArray, List.getElem_cons_zero, List.getElem_cons_succ, Act.put, List.setIfInBounds_toArray, List.set_cons_zero, List.set_cons_succ]
            refine wpAnyH_take (i := 10) (v := undef) rfl (by kernel_rfl) (by kernel_rfl) (by kernel_rfl) (fun _ _ _ h => h) (Or.inr ⟨by kernel_rfl, rfl⟩) hHeld ?_
            simp only [List.getElem_toArray, List.getElem_cons_zero, List.getElem_cons_succ, Act.put, List.setIfInBounds_toArray, List.set_cons_zero, List.set_cons_succ]
            refine wpAnyH_take (i := 11) (v := undef) rfl (by kernel_rfl) (by kernel_rfl) (by kernel_rfl) (fun _ _ _ h => h) (Or.inr ⟨by kernel_rfl, rfl⟩) hHeld ?_
            simp only [List.getElem_toArray, List.getElem_cons_zero, List.getElem_cons_succ, Act.put, List.setIfInBounds_toArray, List.set_cons_zero, List.set_cons_succ]
            refine wpAnyH_take (i := 12) (v := undef) rfl (by kernel_rfl) (by kernel_rfl) (by kernel_rfl) (fun _ _ _ h => h) (Or.inr ⟨by kernel_rfl, rfl⟩) hHeld ?_
            simp only [List.getElem_toArray, List.getElem_cons_zero, List.getElem_cons_succ, Act.put, List.setIfInBounds_toArray, List.set_cons_zero, List.set_cons_succ]
            refine wpAnyH_take (i := 13) (v := undef) rfl (by kernel_rfl) (by kernel_rfl) (by kernel_rfl) (fun _ _ _ h => h) (Or.inr ⟨by kernel_rfl, rfl⟩) hHeld ?_
            simp only [List.getElem_toArray, List.getElem_cons_zero, List.getElem_cons_succ, Act.put, List.setIfInBounds_toArray, List.set_cons_zero, List.set_cons_succ]
            refine wpAnyH_take (i := 14) (v := undef) rfl (by kernel_rfl) (by kernel_rfl) (by kernel_rfl) (fun _ _ _ h => h) (Or.inr ⟨by kernel_rfl, rfl⟩) hHeld ?_
            simp only [List.getElem_toArray, List.getElem_cons_zero, List.getElem_cons_succ, Act.put, List.setIfInBounds_toArray, List.set_cons_zero, List.set_cons_succ]
            refine wpAnyH_take (i := 15) (v := undef) rfl (by kernel_rfl) (by kernel_rfl) (by kernel_rfl) (fun _ _ _ h => h) (Or.inr ⟨by kernel_rfl, rfl⟩) hHeld ?_
            simp only [List.getElem_toArray, List.getElem_cons_zero, List.getElem_cons_succ, Act.put, List.setIfInBounds_toArray, List.set_cons_zero, List.set_cons_succ]
            refine wpAnyH_take (i := 16) (v := undef) rfl (by kernel_rfl) (by kernel_rfl) (by kernel_rfl) (fun _ _ _ h => h) (Or.inr ⟨by kernel_rfl, rfl⟩) hHeld ?_
            simp only [List.getElem_toArray, List.getElem_cons_zero, List.getElem_cons_succ, Act.put, List.setIfInBounds_toArray, List.set_cons_zero, List.set_cons_succ]
            refine wpAnyH_take (i := 17) (v := undef) rfl (by kernel_rfl) (by kernel_rfl) (by kernel_rfl) (fun _ _ _ h => h) (Or.inr ⟨by kernel_rfl, rfl⟩) hHeld ?_
            simp only [List.getElem_toArray, List.getElem_cons_zero, List.getElem_cons_succ, Act.put, List.setIfInBounds_toArray, List.set_cons_zero, List.set_cons_succ]
            refine wpAnyH_take (i := 18) (v := undef) rfl (by kernel_rfl) (by kernel_rfl) (by kernel_rfl) (fun _ _ _ h => h) (Or.inr ⟨by kernel_rfl, rfl⟩) hHeld ?_
            simp only [List.getElem_toArray, List.getElem_cons_zero, List.getElem_cons_succ, Act.put, List.setIfInBounds_toArray, List.set_cons_zero, List.set_cons_succ]
            refine wpAnyH_take (i := 19) (v := undef) rfl (by kernel_rfl) (by kernel_rfl) (by kernel_rfl) (fun _ _ _ h => h) (Or.inr ⟨by kernel_rfl, rfl⟩) hHeld ?_
            simp only [List.getElem_toArray, List.getElem_cons_zero, List.getElem_cons_succ, Act.put, List.setIfInBounds_toArray, List.set_cons_zero, List.set_cons_succ]
            refine wpAnyH_take (i := 20) (v := undef) rfl (by kernel_rfl) (by kernel_rfl) (by kernel_rfl) (fun _ _ _ h => h) (Or.inr ⟨by kernel_rfl, rfl⟩) hHeld ?_
            simp only [List.getElem_toArray, List.getElem_cons_zero, List.getElem_cons_succ, Act.put, List.setIfInBounds_toArray, List.set_cons_zero, List.set_cons_succ]
            refine wpAnyH_take (i := 21) (v := undef) rfl (by kernel_rfl) (by kernel_rfl) (by kernel_rfl) (fun _ _ _ h => h) (Or.inr ⟨by kernel_rfl, rfl⟩) hHeld ?_
            simp only [List.getElem_toArray, List.getElem_cons_zero, List.getElem_cons_succ, Act.put, List.setIfInBounds_toArray, List.set_cons_zero, List.set_cons_succ]
            refine wpAnyH_take (i := 22) (v := undef) rfl (by kernel_rfl) (by kernel_rfl) (by kernel_rfl) (fun _ _ _ h => h) (Or.inr ⟨by kernel_rfl, rfl⟩) hHeld ?_
            simp only [List.getElem_toArray, List.getElem_cons_zero, List.getElem_cons_succ, Act.put, List.setIfInBounds_toArray, List.set_cons_zero, List.set_cons_succ]
            refine wpAnyH_take (i := 23) (v := undef) rfl (by kernel_rfl) (by kernel_rfl) (by kernel_rfl) (fun _ _ _ h => h) (Or.inr ⟨by kernel_rfl, rfl⟩) hHeld ?_
            simp only [List.getElem_toArray, List.getElem_cons_zero, List.getElem_cons_succ, Act.put, List.setIfInBounds_toArray, List.set_cons_zero, List.set_cons_succ]
            refine wpAnyH_take (i := 24) (v := undef) rfl (by kernel_rfl) (by kernel_rfl) (by kernel_rfl) (fun _ _ _ h => h) (Or.inr ⟨by kernel_rfl, rfl⟩) hHeld ?_
            simp only [List.getElem_toArray, List.getElem_cons_zero, List.getElem_cons_succ, Act.put, List.setIfInBounds_toArray, List.set_cons_zero, List.set_cons_succ]
            refine wpAnyH_take (i := 25) (v := .bool true) rfl (by kernel_rfl) (by kernel_rfl) (by kernel_rfl) (fun _ _ _ h => h) (Or.inl ⟨by rfl, by intro w hSw; (try dsimp only at hSw); go_simp⟩) hHeld ?_
            simp only [List.getElem_toArray, List.getElem_cons_zero, List.getElem_cons_succ, Act.put, List.setIfInBounds_toArray, List.set_cons_zero, List.set_cons_succ]
            refine wpAnyH_done (by kernel_rfl) ?_ _
            clear hHeld
            go_wp2_with fail
            go_ret2
            exact ⟨rfl, unhide HB⟩
          · obtain ⟨ka, kb, kc, rfl, ja, jb, jc⟩ := tr_nat ht
            have NA := near_at (unhide HG) (show ka < l.length by rw [unhide HN]; exact ja)
            have NB := near_at (unhide HG) (show kb < l.length by rw [unhide HN]; exact jb)
            have NC := near_at (unhide HG) (show kc < l.length by rw [unhide HN]; exact jc)
            have cb := crs_bd NA NB NC
            have A_ := unhide HC _ ja
            have B_ := unhide HC _ jb
            have C_ := unhide HC _ jc
            have C0x : Hid (∀ w, Calls Try.prog 61 #[.slice (some ⟨q, off, none⟩) n c, .agg #[.int .i64 (ka : Int), .int .i64 (kb : Int), .int .i64 (kc : Int)]] w fun e w' => e = .returned (.bool true) ∧ Below w.heap.size w w') := hide (fun w => by have := unhide C0 w ((ka : Int), (kb : Int), (kc : Int)); rw [ht] at this; exact this)
            have COx := hide (fun w => unhide CO _ _ _ w NA NB NC)
            have CXx := hide (fun w => unhide CX _ _ _ w NA NB NC)
            replace TBi : Hid (tgB l ((ka : Int), (kb : Int), (kc : Int)) = (sgZ (crs (l.getD ka (0, 0)) (l.getD kb (0, 0)) (l.getD kc (0, 0))) == sgZ A)) := hide (by rw [unhide TBi, ht, tcr_nat]; rfl)
            rw [tcr_nat] at ES
            replace ES := hide ES
            generalize l.getD ka (0, 0) = pa at *
            generalize l.getD kb (0, 0) = pb at *
            generalize l.getD kc (0, 0) = pc at *
            generalize sgZ (crs pa pb pc) = s at *
            generalize crs pa pb pc = C at *
            have iw : IntKind.i64.wrap (s0 + C) = s0 + C := by rw [IntKind.wrap_i64]; omega
            dsimp only at D0 D1 D2
            have ja' : (ka : Int) < (n : Int) := by omega
            have jb' : (kb : Int) < (n : Int) := by omega
            have jc' : (kc : Int) < (n : Int) := by omega
            clear cb bs NA NB NC C0 CO CX HG ht
            have A0 : wr.cell? ⟨q, off + ka * 2, none⟩ = some (.int .i64 pa.1) := ((unhide HB).cell (p := ⟨q, off + ka * 2, none⟩) hq).trans A_.1
            have A1 : wr.cell? ⟨q, off + ka * 2 + 1, none⟩ = some (.int .i64 pa.2) := ((unhide HB).cell (p := ⟨q, off + ka * 2 + 1, none⟩) hq).trans A_.2
            have B0 : wr.cell? ⟨q, off + kb * 2, none⟩ = some (.int .i64 pb.1) := ((unhide HB).cell (p := ⟨q, off + kb * 2, none⟩) hq).trans B_.1
            have B1 : wr.cell? ⟨q, off + kb * 2 + 1, none⟩ = some (.int .i64 pb.2) := ((unhide HB).cell (p := ⟨q, off + kb * 2 + 1, none⟩) hq).trans B_.2
            have C0 : wr.cell? ⟨q, off + kc * 2, none⟩ = some (.int .i64 pc.1) := ((unhide HB).cell (p := ⟨q, off + kc * 2, none⟩) hq).trans C_.1
            have C1 : wr.cell? ⟨q, off + kc * 2 + 1, none⟩ = some (.int .i64 pc.2) := ((unhide HB).cell (p := ⟨q, off + kc * 2 + 1, none⟩) hq).trans C_.2
            have HSr := hide ((unhide HS).later (unhide HB))
            clear A_ B_ C_ HC
            have bx := (Below.refl wr.heap.size wr).alloc (Nat.le_refl _) (.cells #[.int .i64 (ka : Int), .int .i64 (kb : Int), .int .i64 (kc : Int)] 33)
            replace HB := hide (below_on (unhide HB) bx)
            have X0 : (wr.alloc (.cells #[.int .i64 (ka : Int), .int .i64 (kb : Int), .int .i64 (kc : Int)] 33)).cell? ⟨wr.heap.size, 0, none⟩ = some (.int .i64 (ka : Int)) := by simp [go_sem]
            have X1 : (wr.alloc (.cells #[.int .i64 (ka : Int), .int .i64 (kb : Int), .int .i64 (kc : Int)] 33)).cell? ⟨wr.heap.size, 1, none⟩ = some (.int .i64 (kb : Int)) := by simp [go_sem]
            have X2 : (wr.alloc (.cells #[.int .i64 (ka : Int), .int .i64 (kb : Int), .int .i64 (kc : Int)] 33)).cell? ⟨wr.heap.size, 2, none⟩ = some (.int .i64 (kc : Int)) := by simp [go_sem]
            replace HSr := hide ((unhide HSr).later bx)
            replace A0 := cell_later bx A0
            replace A1 := cell_later bx A1
            replace B0 := cell_later bx B0
            replace B1 := cell_later bx B1
            replace C0 := cell_later bx C0
            replace C1 := cell_later bx C1
            go_upto_region 9 with fail
            generalize wr.alloc (.cells #[.int .i64 (ka : Int), .int .i64 (kb : Int), .int .i64 (kc : Int)] 33) = wb at *
            clear D0 D1 D2 bx
            generalize wr.heap.size = PX at *
            have HX0 : Hid True := hide trivial
            go_region_held3 (fun w' => w'.cell? ⟨PX, 0, none⟩ = some (.int .i64 (ka : Int)) ∧ w'.cell? ⟨PX, 1, none⟩ = some (.int .i64 (kb : Int)) ∧ w'.cell? ⟨PX, 2, none⟩ = some (.int .i64 (kc : Int)) ∧ w'.cell? ⟨q, off + ka * 2, none⟩ = some (.int .i64 pa.1) ∧ w'.cell? ⟨q, off + ka * 2 + 1, none⟩ = some (.int .i64 pa.2) ∧ w'.cell? ⟨q, off + kb * 2, none⟩ = some (.int .i64 pb.1) ∧ w'.cell? ⟨q, off + kb * 2 + 1, none⟩ = some (.int .i64 pb.2) ∧ w'.cell? ⟨q, off + kc * 2, none⟩ = some (.int .i64 pc.1) ∧ w'.cell? ⟨q, off + kc * 2 + 1, none⟩ = some (.int .i64 pc.2))
              (with_reducible (first | exact ⟨X0, X1, X2, A0, A1, B0, B1, C0, C1⟩ | exact ⟨cdP X0, cdP X1, cdP X2, cdP A0, cdP A1, cdP B0, cdP B1, cdP C0, cdP C1⟩ | fail))
              (first
              | (have chk := HX0; go_at_call 61; refine (unhide C0x _).mono ?_; rintro e w2 ⟨rfl, hb1⟩; have hbx := below_of_drew hb1; replace X0 := cell_later hbx X0; replace X1 := cell_later hbx X1; replace X2 := cell_later hbx X2; replace A0 := cell_later hbx A0; replace A1 := cell_later hbx A1; replace B0 := cell_later hbx B0; replace B1 := cell_later hbx B1; replace C0 := cell_later hbx C0; replace C1 := cell_later hbx C1; replace HSr := hide ((unhide HSr).later hbx); replace HB := hide (below_on (unhide HB) hbx); clear hb1 hbx; clear HX0 chk; have HX1 : Hid True := hide trivial)
              | (have chk := HX1; go_at_call 72; refine (unhide COx _).mono ?_; rintro e w3 ⟨rfl, hb1⟩; have hbx := hb1; replace X0 := cell_later hbx X0; replace X1 := cell_later hbx X1; replace X2 := cell_later hbx X2; replace A0 := cell_later hbx A0; replace A1 := cell_later hbx A1; replace B0 := cell_later hbx B0; replace B1 := cell_later hbx B1; replace C0 := cell_later hbx C0; replace C1 := cell_later hbx C1; replace HSr := hide ((unhide HSr).later hbx); replace HB := hide (below_on (unhide HB) hbx); clear hb1 hbx; clear HX1 chk; have HX2 : Hid True := hide trivial)
              | (have chk := HX2; go_at_call 65; refine (unhide CA _ (unhide HSr)).mono ?_; rintro e w4 ⟨rfl, hb1⟩; have hbx := hb1; replace X0 := cell_later hbx X0; replace X1 := cell_later hbx X1; replace X2 := cell_later hbx X2; replace A0 := cell_later hbx A0; replace A1 := cell_later hbx A1; replace B0 := cell_later hbx B0; replace B1 := cell_later hbx B1; replace C0 := cell_later hbx C0; replace C1 := cell_later hbx C1; replace HSr := hide ((unhide HSr).later hbx); replace HB := hide (below_on (unhide HB) hbx); clear hb1 hbx; clear HX2 chk; have HX3 : Hid True := hide trivial)
              | (have chk := HX3; go_at_call 64; refine (signS8 A _).mono ?_; rintro e w5 ⟨rfl, rfl⟩; clear HX3 chk)
              | fail)
            by_cases hs : s = sgZ A
            · have ds : (s != sgZ A) = false := by simp [hs]
              have HT1 := hide (unhide HTn (by rw [unhide TBi]; simp [hs]))
              clear hs HTn TBi NOi COx C0x
              rw [ds]
              clear ds
              go_upto_region 11 with fail
              have HX0 : Hid True := hide trivial
              go_region_held3 (fun w' => w'.cell? ⟨PX, 0, none⟩ = some (.int .i64 (ka : Int)) ∧ w'.cell? ⟨PX, 1, none⟩ = some (.int .i64 (kb : Int)) ∧ w'.cell? ⟨PX, 2, none⟩ = some (.int .i64 (kc : Int)) ∧ w'.cell? ⟨q, off + ka * 2, none⟩ = some (.int .i64 pa.1) ∧ w'.cell? ⟨q, off + ka * 2 + 1, none⟩ = some (.int .i64 pa.2) ∧ w'.cell? ⟨q, off + kb * 2, none⟩ = some (.int .i64 pb.1) ∧ w'.cell? ⟨q, off + kb * 2 + 1, none⟩ = some (.int .i64 pb.2) ∧ w'.cell? ⟨q, off + kc * 2, none⟩ = some (.int .i64 pc.1) ∧ w'.cell? ⟨q, off + kc * 2 + 1, none⟩ = some (.int .i64 pc.2))
                (with_reducible (first | exact ⟨X0, X1, X2, A0, A1, B0, B1, C0, C1⟩ | exact ⟨cdP X0, cdP X1, cdP X2, cdP A0, cdP A1, cdP B0, cdP B1, cdP C0, cdP C1⟩ | fail))
                (first
                | (have chk := HX0; go_at_call 73; refine (unhide CXx _).mono ?_; rintro e w6 ⟨rfl, hb1⟩; have hbx := below_of_drew hb1; replace X0 := cell_later hbx X0; replace X1 := cell_later hbx X1; replace X2 := cell_later hbx X2; replace A0 := cell_later hbx A0; replace A1 := cell_later hbx A1; replace B0 := cell_later hbx B0; replace B1 := cell_later hbx B1; replace C0 := cell_later hbx C0; replace C1 := cell_later hbx C1; replace HSr := hide ((unhide HSr).later hbx); replace HB := hide (below_on (unhide HB) hbx); clear hb1 hbx; clear HX0 chk)
                | fail)
              go_wp2_with fail
              go_roundw
              case rel => exact ⟨i + 1, by omega, by go_num, by rw [unhide ES], HT1, HB⟩
              case measure => simp [intOf]; omega
            · have ds : (s != sgZ A) = true := by simp [hs]
              have NV := unhide NOi (by rw [unhide TBi]; simp [hs])
              subst NV
              rw [ds]
              clear ds hs HTn TBi NOi
              go_wp2_with fail
              go_ret2
              exact ⟨rfl, unhide HB⟩
        · obtain rfl : i = m := by omega
          have ta : T.take i = T := List.take_of_length_le (by rw [unhide HM]; omega)
          rw [ta] at HT
          have VY := unhide YES (unhide HT)
          rw [ta]
          generalize tsum l T = s0 at *
          have HSr := hide ((unhide HS).later (unhide HB))
          clear HT ta NO YES TB HD
          go_wp2_with fail
          refine (unhide CA _ (unhide HSr)).mono ?_
          rintro e w9 ⟨rfl, hb⟩
          replace HB := hide (below_on (unhide HB) hb)
          clear hb
          go_wp2_with fail
          go_ret2
          exact ⟨by rw [VY]; first | rfl | simp | (cases hz : (s0 == A) <;> simp_all), unhide HB⟩
end Go.Proofs.Ytblhjeepelgdaaa
namespace Go.Proofs.Ytblhjeepelgdaaa
open Go.RowKit
set_option linter.unusedVariables false
set_option maxRecDepth 100000
set_option linter.unusedSimpArgs false

theorem ar_three (a b c : Int × Int) : arS [a, b, c] 3 = crs a b c := by
  simp [arS, nxt, crs]
  grind
theorem area3 (pa pb pc : Int × Int) (W : World) (ha : Near pa) (hb : Near pb) (hc : Near pc) :
    Calls Try.prog 84 #[.slice (some ⟨W.heap.size, 0, none⟩) 3 3] (W.alloc (.cells #[.int .i64 pa.1, .int .i64 pa.2, .int .i64 pb.1, .int .i64 pb.2, .int .i64 pc.1, .int .i64 pc.2] 59)).drew fun e w' => e = .returned (.int .i64 (crs pa pb pc)) ∧ Below W.heap.size W w' := by
  have k : SlP (W.alloc (.cells #[.int .i64 pa.1, .int .i64 pa.2, .int .i64 pb.1, .int .i64 pb.2, .int .i64 pc.1, .int .i64 pc.2] 59)) (some ⟨W.heap.size, 0, none⟩) [pa, pb, pc] := by
    refine .inr ⟨W.heap.size, 0, rfl, by simp, fun i hi => ?_⟩
    rcases i with _ | _ | _ | i
    · exact ⟨by simp [go_sem], by simp [go_sem]⟩
    · exact ⟨by simp [go_sem], by simp [go_sem]⟩
    · exact ⟨by simp [go_sem], by simp [go_sem]⟩
    · simp at hi; omega
  refine (areaI _ 3 3 [pa, pb, pc] _ (k.later (Below.refl _ _).drew) rfl (by omega) (by omega) (fun p hp => ?_)).mono ?_
  · simp at hp
    rcases hp with rfl | rfl | rfl <;> assumption
  · rintro e w' ⟨rfl, hw⟩
    exact ⟨by rw [show [pa, pb, pc].length = 3 from rfl, ar_three], ((Below.refl _ _).alloc (Nat.le_refl _) _).trans ((below_of_drew hw).mono (by simp))⟩
set_option maxHeartbeats 8000000 in
theorem itI (a : Option Addr) (n c : Nat) (l : List (Int × Int)) (b : Option Addr) (m d : Nat) (T : List (Int × Int × Int)) (w : World) (h : ArP w a n c l) (h' : ArT w b m d T) (hp : ipB l = true) :
    Calls Try.prog 74 #[.slice a n c, .slice b m d] w fun e w' => e = .returned (.bool (itgV l T)) ∧ Below w.heap.size w w' := by
  have hn := h.len
  have hm := h'.len
  have HS := hide h.sl
  have wp := ipB_way hp
  have tn := ip_turn hp
  have n12 : n ≤ 12 := by omega
  have n3 : 3 ≤ n := by omega
  have ws : IntKind.i64.wrap ((n : Int) - 2) = (n : Int) - 2 := by rw [IntKind.wrap_i64]; omega
  have CG := hide (fun w (k : SlP w a l) => turnWI a n c l w k hn (by omega) n12 wp.2 tn.1)
  by_cases hk : m + 2 = n
  rotate_left
  · have EV : itgV l T = false := by unfold itgV; rw [hp, hm, hn, decide_eq_false hk]; rfl
    rw [EV]
    have dd : ((m : Int) != (n : Int) - 2) = true := by simp; omega
    clear hp h h' hn hm EV wp hk n12 n3 tn
    go_enter Try.func74, Try.ntmps74
    go_wp2_with fail
    go_ret
    exact ⟨rfl, Below.refl _ _⟩
  · have EV : Hid (itgV l T = (T.all (tgB l) && (tsum l T == arS l l.length))) := hide (by unfold itgV; rw [hp, hm, hn, decide_eq_true hk]; rfl)
    have dd : ((m : Int) != (n : Int) - 2) = false := by simp; omega
    have CA := hide (fun w (k : SlP w a l) => areaI a n c l w k hn (by omega) n12 wp.2)
    have SL := h.sl
    rcases SL with e | ⟨q, off, rfl, hq, hc⟩
    · subst e; simp at hn; omega
    have HC : Hid (∀ k, k < n → w.cell? ⟨q, off + k * 2, none⟩ = some (.int .i64 (l.getD k (0, 0)).1) ∧ w.cell? ⟨q, off + k * 2 + 1, none⟩ = some (.int .i64 (l.getD k (0, 0)).2)) := hide (fun k hk => by
      have := hc k (by omega)
      rw [List.getD_eq_getElem?_getD, List.getElem?_eq_getElem (by omega)]
      exact this)
    have ST := h'.sl
    rcases ST with e | ⟨r, of2, rfl, hr, hd⟩
    · subst e; simp at hm; omega
    have HD : Hid (∀ k (hk : k < T.length), w.cell? ⟨r, of2 + k * 3, none⟩ = some (.int .i64 T[k].1) ∧ w.cell? ⟨r, of2 + k * 3 + 1, none⟩ = some (.int .i64 T[k].2.1) ∧ w.cell? ⟨r, of2 + k * 3 + 2, none⟩ = some (.int .i64 T[k].2.2)) := hide hd
    have HG := hide wp.2
    have HN := hide hn
    have HM := hide hm
    have HK := hide hk
    have m10 : m ≤ 10 := by omega
    have C0 := hide (fun w x => triOfI (some ⟨q, off, none⟩) n c x w)
    have CO := hide (fun (x y z : Int × Int) w (hx : Near x) (hy : Near y) (hz : Near z) => turnI x y z w hx hy hz)
    have CX := hide (fun (x y z : Int × Int) w (hx : Near x) (hy : Near y) (hz : Near z) => area3 x y z w hx hy hz)
    have TB := hide (fun x => (by unfold tgB; rw [hn] : tgB l x = (trB n x && (sgZ (tcr l x) == sgZ (arS l l.length)))))
    have NO := hide (fun (x : Int × Int × Int) (hx : x ∈ T) (k : tgB l x = false) => (by rw [unhide EV]; rw [show T.all (tgB l) = false from List.all_eq_false.2 ⟨x, hx, by rw [k]; decide⟩]; rfl : itgV l T = false))
    have YES := hide (fun (k : ∀ x ∈ T, tgB l x = true) => (by rw [unhide EV, List.all_eq_true.2 k]; rfl : itgV l T = (tsum l T == arS l l.length)))
    clear hp h h' hn hm wp hk hc hd EV tn
    generalize arS l l.length = A at *
    generalize itgV l T = V at *
    go_enter Try.func74, Try.ntmps74
    go_wp2_with fail
    refine (unhide CG _ (unhide HS)).mono ?_
    rintro e w1 ⟨rfl, hb⟩
    have HB := hide hb
    clear hb CG
    go_wp2_with fail
    go_loopw [6, 19] (fun sv iv wr => ∃ i : Nat, i ≤ m ∧ iv = .int .i64 i ∧ sv = .int .i64 (tsum l (T.take i)) ∧ Hid (∀ x ∈ T.take i, tgB l x = true) ∧ Hid (Below w.heap.size w wr)) (fun _ iv _ => m - (intOf iv).toNat)
    case atStart => exact ⟨0, Nat.zero_le _, rfl, rfl, hide (by simp), HB⟩
    case round =>
      clear HB
      obtain ⟨i, hi, rfl, rfl, HT, HB⟩ := hrel
      by_cases hlt : i < m
      · have hlt' : (i : Int) < (m : Int) := by omega
        have iT : i < T.length := by rw [unhide HM]; exact hlt
        have hx := unhide HD i iT
        have bs := tsum_bd (unhide HG) _ (unhide HT)
        have bl : (T.take i).length ≤ 10 := by rw [List.length_take]; have := unhide HK; omega
        have NOi := hide (unhide NO T[i] (List.getElem_mem iT))
        have TBi := hide (unhide TB T[i])
        have ES := hide (by rw [takeT iT, tsum_app]; simp [tsum] : tsum l (T.take (i + 1)) = tsum l (T.take i) + tcr l T[i])
        have HTn : Hid (tgB l T[i] = true → ∀ x ∈ T.take (i + 1), tgB l x = true) := hide (fun k x hx => by
          rw [takeT iT, List.mem_append] at hx
          rcases hx with hx | hx
          · exact unhide HT x hx
          · simp at hx; subst hx; exact k)
        generalize tsum l (T.take i) = s0 at *
        generalize (T.take i).length = bi at *
        generalize T[i] = x at *
        have D0 : wr.cell? ⟨r, of2 + i * 3, none⟩ = some (.int .i64 x.1) := ((unhide HB).cell (p := ⟨r, of2 + i * 3, none⟩) hr).trans hx.1
        have D1 : wr.cell? ⟨r, of2 + i * 3 + 1, none⟩ = some (.int .i64 x.2.1) := ((unhide HB).cell (p := ⟨r, of2 + i * 3 + 1, none⟩) hr).trans hx.2.1
        have D2 : wr.cell? ⟨r, of2 + i * 3 + 2, none⟩ = some (.int .i64 x.2.2) := ((unhide HB).cell (p := ⟨r, of2 + i * 3 + 2, none⟩) hr).trans hx.2.2
        clear hx HT NO YES TB HD
        cases ht : trB n x
        · have NV := unhide NOi (by rw [unhide TBi, ht]; rfl)
          subst NV
          have C0x := hide (fun w => unhide C0 w x)
          rw [ht] at C0x
          clear NOi TBi ES HTn bs bl HC HG C0 CO CX CA
          have bx := (Below.refl wr.heap.size wr).alloc (Nat.le_refl _) (.cells #[.int .i64 x.1, .int .i64 x.2.1, .int .i64 x.2.2] 33)
          replace HB := hide (below_on (unhide HB) bx)
          have X0 : (wr.alloc (.cells #[.int .i64 x.1, .int .i64 x.2.1, .int .i64 x.2.2] 33)).cell? ⟨wr.heap.size, 0, none⟩ = some (.int .i64 x.1) := by simp [go_sem]
          have X1 : (wr.alloc (.cells #[.int .i64 x.1, .int .i64 x.2.1, .int .i64 x.2.2] 33)).cell? ⟨wr.heap.size, 1, none⟩ = some (.int .i64 x.2.1) := by simp [go_sem]
          have X2 : (wr.alloc (.cells #[.int .i64 x.1, .int .i64 x.2.1, .int .i64 x.2.2] 33)).cell? ⟨wr.heap.size, 2, none⟩ = some (.int .i64 x.2.2) := by simp [go_sem]
          go_upto_region 7 with fail
          generalize wr.alloc (.cells #[.int .i64 x.1, .int .i64 x.2.1, .int .i64 x.2.2] 33) = wb at *
          clear D0 D1 D2 bx
          generalize wr.heap.size = PX at *
          refine wp_region_held_drew (S := fun w' => w'.cell? ⟨PX, 0, none⟩ = some (.int .i64 x.1) ∧ w'.cell? ⟨PX, 1, none⟩ = some (.int .i64 x.2.1) ∧ w'.cell? ⟨PX, 2, none⟩ = some (.int .i64 x.2.2)) (by kernel_rfl) ⟨X0, X1, X2⟩ (fun hHeld => ?_)
          simp only [List.size_toArray, List.length_cons, List.length_nil, Nat.reduceAdd, Array.replicate_succ, Array.replicate_zero, List.push_toArray, List.nil_append, List.cons_append]
          refine wpAnyH_take (i := 0) (v := .agg #[.int .i64 x.1, .int .i64 x.2.1, .int .i64 x.2.2]) rfl (by kernel_rfl) (by kernel_rfl) (by kernel_rfl) (fun _ _ _ h => h) (Or.inl ⟨by rfl, by intro w hSw; (try dsimp only at hSw); go_simp⟩) hHeld ?_
          simp only [List.getElem_toArray, List.getElem_cons_zero, List.getElem_cons_succ, Act.put, List.setIfInBounds_toArray, List.set_cons_zero, List.set_cons_succ]
          refine wpAnyH_take (i := 1) (v := .slice (some ⟨q, off, none⟩) n c) rfl (by kernel_rfl) (by kernel_rfl) (by kernel_rfl) (fun _ _ _ h => h) (Or.inl ⟨by rfl, by intro w hSw; (try dsimp only at hSw); go_simp⟩) hHeld ?_
          simp only [List.getElem_toArray, List.getElem_cons_zero, List.getElem_cons_succ, Act.put, List.setIfInBounds_toArray, List.set_cons_zero, List.set_cons_succ]
          refine wpAnyH_ready (rs := [2]) (by kernel_rfl) (by simp) (AllReadyH.cons rfl (fun K hK => ?_) AllReadyH.nil)
          go_simp
          refine (unhide C0x _).mono ?_
          rintro e w2 ⟨rfl, hb1⟩
          have hbx := below_of_drew hb1
          replace X0 := cell_later hbx X0
          replace X1 := cell_later hbx X1
          replace X2 := cell_later hbx X2
          replace HB := hide (below_on (unhide HB) hbx)
          refine hK.out _ _ ⟨X0, X1, X2⟩ (fun hHeld2 => ?_)
          clear hK K hb1 hbx hHeld
          have hHeld := hHeld2
          clear hHeld2
          simp only [Act.put, List.setIfInBounds_toArray, List.set_cons_zero, List.set_cons_succ]
          refine wpAnyH_take (i := 3) (v := .bool true) rfl (by kernel_rfl) (by kernel_rfl) (by kernel_rfl) (fun _ _ _ h => h) (Or.inl ⟨by rfl, by intro w hSw; (try dsimp only at hSw); go_simp⟩) hHeld ?_
          simp only [List.getElem_toArray, List.getElem_cons_zero, List.getElem_cons_succ, Act.put, List.setIfInBounds_toArray, List.set_cons_zero, List.set_cons_succ]
          refine wpAnyH_take (i := 4) (v := .bool true) rfl (by kernel_rfl) (by kernel_rfl) (by kernel_rfl) (fun _ _ _ h => h) (Or.inl ⟨by rfl, by intro w hSw; (try dsimp only at hSw); go_simp⟩) hHeld ?_
          simp only [List.getElem_toArray, List.getElem_cons_zero, List.getElem_cons_succ, Act.put, List.setIfInBounds_toArray, List.set_cons_zero, List.set_cons_succ]
          refine wpAnyH_take (i := 5) (v := undef) rfl (by kernel_rfl) (by kernel_rfl) (by kernel_rfl) (fun _ _ _ h => h) (Or.inr ⟨by kernel_rfl, rfl⟩) hHeld ?_
          simp only [List.getElem_toArray, List.getElem_cons_zero, List.getElem_cons_succ, Act.put, List.setIfInBounds_toArray, List.set_cons_zero, List.set_cons_succ]
          refine wpAnyH_take (i := 6) (v := undef) rfl (by kernel_rfl) (by kernel_rfl) (by kernel_rfl) (fun _ _ _ h => h) (Or.inr ⟨by kernel_rfl, rfl⟩) hHeld ?_
          simp only [List.getElem_toArray, List.getElem_cons_zero, List.getElem_cons_succ, Act.put, List.setIfInBounds_toArray, List.set_cons_zero, List.set_cons_succ]
          refine wpAnyH_take (i := 7) (v := undef) rfl (by kernel_rfl) (by kernel_rfl) (by kernel_rfl) (fun _ _ _ h => h) (Or.inr ⟨by kernel_rfl, rfl⟩) hHeld ?_
          simp only [List.getElem_toArray, List.getElem_cons_zero, List.getElem_cons_succ, Act.put, List.setIfInBounds_toArray, List.set_cons_zero, List.set_cons_succ]
          refine wpAnyH_take (i := 8) (v := undef) rfl (by kernel_rfl) (by kernel_rfl) (by kernel_rfl) (fun _ _ _ h => h) (Or.inr ⟨by kernel_rfl, rfl⟩) hHeld ?_
          simp only [List.getElem_toArray, List.getElem_cons_zero, List.getElem_cons_succ, Act.put, List.setIfInBounds_toArray, List.set_cons_zero, List.set_cons_succ]
          refine wpAnyH_take (i := 9) (v := undef) rfl (by kernel_rfl) (by kernel_rfl) (by kernel_rfl) (fun _ _ _ h => h) (Or.inr ⟨by kernel_rfl, rfl⟩) hHeld ?_
          simp only [List.getElem_toArray, List.getElem_cons_zero, List.getElem_cons_succ, Act.put, List.setIfInBounds_toArray, List.set_cons_zero, List.set_cons_succ]
          refine wpAnyH_take (i := 10) (v := undef) rfl (by kernel_rfl) (by kernel_rfl) (by kernel_rfl) (fun _ _ _ h => h) (Or.inr ⟨by kernel_rfl, rfl⟩) hHeld ?_
          simp only [List.getElem_toArray, List.getElem_cons_zero, List.getElem_cons_succ, Act.put, List.setIfInBounds_toArray, List.set_cons_zero, List.set_cons_succ]
          refine wpAnyH_take (i := 11) (v := undef) rfl (by kernel_rfl) (by kernel_rfl) (by kernel_rfl) (fun _ _ _ h => h) (Or.inr ⟨by kernel_rfl, rfl⟩) hHeld ?_
          simp only [List.getElem_toArray, List.getElem_cons_zero, List.getElem_cons_succ, Act.put, List.setIfInBounds_toArray, List.set_cons_zero, List.set_cons_succ]
          refine wpAnyH_take (i := 12) (v := undef) rfl (by kernel_rfl) (by kernel_rfl) (by kernel_rfl) (fun _ _ _ h => h) (Or.inr ⟨by kernel_rfl, rfl⟩) hHeld ?_
          simp only [List.getElem_toArray, List.getElem_cons_zero, List.getElem_cons_succ, Act.put, List.setIfInBounds_toArray, List.set_cons_zero, List.set_cons_succ]
          refine wpAnyH_take (i := 13) (v := undef) rfl (by kernel_rfl) (by kernel_rfl) (by kernel_rfl) (fun _ _ _ h => h) (Or.inr ⟨by kernel_rfl, rfl⟩) hHeld ?_
          simp only [List.getElem_toArray, List.getElem_cons_zero, List.getElem_cons_succ, Act.put, List.setIfInBounds_toArray, List.set_cons_zero, List.set_cons_succ]
          refine wpAnyH_take (i := 14) (v := undef) rfl (by kernel_rfl) (by kernel_rfl) (by kernel_rfl) (fun _ _ _ h => h) (Or.inr ⟨by kernel_rfl, rfl⟩) hHeld ?_
          simp only [List.getElem_toArray, List.getElem_cons_zero, List.getElem_cons_succ, Act.put, List.setIfInBounds_toArray, List.set_cons_zero, List.set_cons_succ]
          refine wpAnyH_take (i := 15) (v := undef) rfl (by kernel_rfl) (by kernel_rfl) (by kernel_rfl) (fun _ _ _ h => h) (Or.inr ⟨by kernel_rfl, rfl⟩) hHeld ?_
          simp only [List.getElem_toArray, List.getElem_cons_zero, List.getElem_cons_succ, Act.put, List.setIfInBounds_toArray, List.set_cons_zero, List.set_cons_succ]
          refine wpAnyH_take (i := 16) (v := undef) rfl (by kernel_rfl) (by kernel_rfl) (by kernel_rfl) (fun _ _ _ h => h) (Or.inr ⟨by kernel_rfl, rfl⟩) hHeld ?_
          simp only [List.getElem_toArray, List.getElem_cons_zero, List.getElem_cons_succ, Act.put, List.setIfInBounds_toArray, List.set_cons_zero, List.set_cons_succ]
          refine wpAnyH_take (i := 17) (v := undef) rfl (by kernel_rfl) (by kernel_rfl) (by kernel_rfl) (fun _ _ _ h => h) (Or.inr ⟨by kernel_rfl, rfl⟩) hHeld ?_
          simp only [List.getElem_toArray, List.getElem_cons_zero, List.getElem_cons_succ, Act.put, List.setIfInBounds_toArray, List.set_cons_zero, List.set_cons_succ]
          refine wpAnyH_take (i := 18) (v := undef) rfl (by kernel_rfl) (by kernel_rfl) (by kernel_rfl) (fun _ _ _ h => h) (Or.inr ⟨by kernel_rfl, rfl⟩) hHeld ?_
          simp only [List.getElem_toArray, List.getElem_cons_zero, List.getElem_cons_succ, Act.put, List.setIfInBounds_toArray, List.set_cons_zero, List.set_cons_succ]
          refine wpAnyH_take (i := 19) (v := undef) rfl (by kernel_rfl) (by kernel_rfl) (by kernel_rfl) (fun _ _ _ h => h) (Or.inr ⟨by kernel_rfl, rfl⟩) hHeld ?_
          simp only [List.getElem_toArray, List.getElem_cons_zero, List.getElem_cons_succ, Act.put, List.setIfInBounds_toArray, List.set_cons_zero, List.set_cons_succ]
          refine wpAnyH_take (i := 20) (v := undef) rfl (by kernel_rfl) (by kernel_rfl) (by kernel_rfl) (fun _ _ _ h => h) (Or.inr ⟨by kernel_rfl, rfl⟩) hHeld ?_
          simp only [List.getElem_toArray, List.getElem_cons_zero, List.getElem_cons_succ, Act.put, List.setIfInBounds_toArray, List.set_cons_zero, List.set_cons_succ]
          refine wpAnyH_take (i := 21) (v := undef) rfl (by kernel_rfl) (by kernel_rfl) (by kernel_rfl) (fun _ _ _ h => h) (Or.inr ⟨by kernel_rfl, rfl⟩) hHeld ?_
          simp only [List.getElem_toArray, List.getElem_cons_zero, List.getElem_cons_succ, Act.put, List.setIfInBounds_toArray, List.set_cons_zero, List.set_cons_succ]
          refine wpAnyH_take (i := 22) (v := undef) rfl (by kernel_rfl) (by kernel_rfl) (by kernel_rfl) (fun _ _ _ h => h) (Or.inr ⟨by kernel_rfl, rfl⟩) hHeld ?_
          simp only [List.getElem_toArray, List.getElem_cons_zero, List.getElem_cons_succ, Act.put, List.setIfInBounds_toArray, List.set_cons_zero, List.set_cons_succ]
          refine wpAnyH_take (i := 23) (v := .bool true) rfl (by kernel_rfl) (by kernel_rfl) (by kernel_rfl) (fun _ _ _ h => h) (Or.inl ⟨by rfl, by intro w hSw; (try dsimp only at hSw); go_simp⟩) hHeld ?_
          simp only [List.getElem_toArray, List.getElem_cons_zero, List.getElem_cons_succ, Act.put, List.setIfInBounds_toArray, List.set_cons_zero, List.set_cons_succ]
          refine wpAnyH_done (by kernel_rfl) ?_ _
          clear hHeld
          go_wp2_with fail
          go_ret
          exact ⟨rfl, unhide HB⟩
        · obtain ⟨ka, kb, kc, rfl, ja, jb, jc⟩ := tr_nat ht
          have NA := near_at (unhide HG) (show ka < l.length by rw [unhide HN]; exact ja)
          have NB := near_at (unhide HG) (show kb < l.length by rw [unhide HN]; exact jb)
          have NC := near_at (unhide HG) (show kc < l.length by rw [unhide HN]; exact jc)
          have cb := crs_bd NA NB NC
          have A_ := unhide HC _ ja
          have B_ := unhide HC _ jb
          have C_ := unhide HC _ jc
          have C0x : Hid (∀ w, Calls Try.prog 55 #[.agg #[.int .i64 (ka : Int), .int .i64 (kb : Int), .int .i64 (kc : Int)], .slice (some ⟨q, off, none⟩) n c] w fun e w' => e = .returned (.bool true) ∧ Below w.heap.size w w') := hide (fun w => by have := unhide C0 w ((ka : Int), (kb : Int), (kc : Int)); rw [ht] at this; exact this)
          have COx := hide (fun w => unhide CO _ _ _ w NA NB NC)
          have CXx := hide (fun w => unhide CX _ _ _ w NA NB NC)
          replace TBi : Hid (tgB l ((ka : Int), (kb : Int), (kc : Int)) = (sgZ (crs (l.getD ka (0, 0)) (l.getD kb (0, 0)) (l.getD kc (0, 0))) == sgZ A)) := hide (by rw [unhide TBi, ht, tcr_nat]; rfl)
          rw [tcr_nat] at ES
          replace ES := hide ES
          generalize l.getD ka (0, 0) = pa at *
          generalize l.getD kb (0, 0) = pb at *
          generalize l.getD kc (0, 0) = pc at *
          generalize sgZ (crs pa pb pc) = s at *
          generalize crs pa pb pc = C at *
          have iw : IntKind.i64.wrap (s0 + C) = s0 + C := by rw [IntKind.wrap_i64]; omega
          dsimp only at D0 D1 D2
          have ja' : (ka : Int) < (n : Int) := by omega
          have jb' : (kb : Int) < (n : Int) := by omega
          have jc' : (kc : Int) < (n : Int) := by omega
          clear cb bs NA NB NC C0 CO CX HG ht
          have A0 : wr.cell? ⟨q, off + ka * 2, none⟩ = some (.int .i64 pa.1) := ((unhide HB).cell (p := ⟨q, off + ka * 2, none⟩) hq).trans A_.1
          have A1 : wr.cell? ⟨q, off + ka * 2 + 1, none⟩ = some (.int .i64 pa.2) := ((unhide HB).cell (p := ⟨q, off + ka * 2 + 1, none⟩) hq).trans A_.2
          have B0 : wr.cell? ⟨q, off + kb * 2, none⟩ = some (.int .i64 pb.1) := ((unhide HB).cell (p := ⟨q, off + kb * 2, none⟩) hq).trans B_.1
          have B1 : wr.cell? ⟨q, off + kb * 2 + 1, none⟩ = some (.int .i64 pb.2) := ((unhide HB).cell (p := ⟨q, off + kb * 2 + 1, none⟩) hq).trans B_.2
          have C0 : wr.cell? ⟨q, off + kc * 2, none⟩ = some (.int .i64 pc.1) := ((unhide HB).cell (p := ⟨q, off + kc * 2, none⟩) hq).trans C_.1
          have C1 : wr.cell? ⟨q, off + kc * 2 + 1, none⟩ = some (.int .i64 pc.2) := ((unhide HB).cell (p := ⟨q, off + kc * 2 + 1, none⟩) hq).trans C_.2
          have HSr := hide ((unhide HS).later (unhide HB))
          clear A_ B_ C_ HC
          have bx := (Below.refl wr.heap.size wr).alloc (Nat.le_refl _) (.cells #[.int .i64 (ka : Int), .int .i64 (kb : Int), .int .i64 (kc : Int)] 33)
          replace HB := hide (below_on (unhide HB) bx)
          have X0 : (wr.alloc (.cells #[.int .i64 (ka : Int), .int .i64 (kb : Int), .int .i64 (kc : Int)] 33)).cell? ⟨wr.heap.size, 0, none⟩ = some (.int .i64 (ka : Int)) := by simp [go_sem]
          have X1 : (wr.alloc (.cells #[.int .i64 (ka : Int), .int .i64 (kb : Int), .int .i64 (kc : Int)] 33)).cell? ⟨wr.heap.size, 1, none⟩ = some (.int .i64 (kb : Int)) := by simp [go_sem]
          have X2 : (wr.alloc (.cells #[.int .i64 (ka : Int), .int .i64 (kb : Int), .int .i64 (kc : Int)] 33)).cell? ⟨wr.heap.size, 2, none⟩ = some (.int .i64 (kc : Int)) := by simp [go_sem]
          replace HSr := hide ((unhide HSr).later bx)
          replace A0 := cell_later bx A0
          replace A1 := cell_later bx A1
          replace B0 := cell_later bx B0
          replace B1 := cell_later bx B1
          replace C0 := cell_later bx C0
          replace C1 := cell_later bx C1
          go_upto_region 7 with fail
          generalize wr.alloc (.cells #[.int .i64 (ka : Int), .int .i64 (kb : Int), .int .i64 (kc : Int)] 33) = wb at *
          clear D0 D1 D2 bx
          generalize wr.heap.size = PX at *
          have HX0 : Hid True := hide trivial
          go_region_held3 (fun w' => w'.cell? ⟨PX, 0, none⟩ = some (.int .i64 (ka : Int)) ∧ w'.cell? ⟨PX, 1, none⟩ = some (.int .i64 (kb : Int)) ∧ w'.cell? ⟨PX, 2, none⟩ = some (.int .i64 (kc : Int)) ∧ w'.cell? ⟨q, off + ka * 2, none⟩ = some (.int .i64 pa.1) ∧ w'.cell? ⟨q, off + ka * 2 + 1, none⟩ = some (.int .i64 pa.2) ∧ w'.cell? ⟨q, off + kb * 2, none⟩ = some (.int .i64 pb.1) ∧ w'.cell? ⟨q, off + kb * 2 + 1, none⟩ = some (.int .i64 pb.2) ∧ w'.cell? ⟨q, off + kc * 2, none⟩ = some (.int .i64 pc.1) ∧ w'.cell? ⟨q, off + kc * 2 + 1, none⟩ = some (.int .i64 pc.2))
            (with_reducible (first | exact ⟨X0, X1, X2, A0, A1, B0, B1, C0, C1⟩ | exact ⟨cdP X0, cdP X1, cdP X2, cdP A0, cdP A1, cdP B0, cdP B1, cdP C0, cdP C1⟩ | fail))
            (first
            | (have chk := HX0; go_at_call 55; refine (unhide C0x _).mono ?_; rintro e w2 ⟨rfl, hb1⟩; have hbx := below_of_drew hb1; replace X0 := cell_later hbx X0; replace X1 := cell_later hbx X1; replace X2 := cell_later hbx X2; replace A0 := cell_later hbx A0; replace A1 := cell_later hbx A1; replace B0 := cell_later hbx B0; replace B1 := cell_later hbx B1; replace C0 := cell_later hbx C0; replace C1 := cell_later hbx C1; replace HSr := hide ((unhide HSr).later hbx); replace HB := hide (below_on (unhide HB) hbx); clear hb1 hbx; clear HX0 chk; have HX1 : Hid True := hide trivial)
            | (have chk := HX1; go_at_call 78; refine (unhide COx _).mono ?_; rintro e w3 ⟨rfl, hb1⟩; have hbx := hb1; replace X0 := cell_later hbx X0; replace X1 := cell_later hbx X1; replace X2 := cell_later hbx X2; replace A0 := cell_later hbx A0; replace A1 := cell_later hbx A1; replace B0 := cell_later hbx B0; replace B1 := cell_later hbx B1; replace C0 := cell_later hbx C0; replace C1 := cell_later hbx C1; replace HSr := hide ((unhide HSr).later hbx); replace HB := hide (below_on (unhide HB) hbx); clear hb1 hbx; clear HX1 chk)
            | fail)
          by_cases hs : s = sgZ A
          · have ds : (s != sgZ A) = false := by simp [hs]
            have HT1 := hide (unhide HTn (by rw [unhide TBi]; simp [hs]))
            clear hs HTn TBi NOi COx C0x
            rw [ds]
            clear ds
            go_upto_region 9 with fail
            go_region_held3 (fun w' => w'.cell? ⟨PX, 0, none⟩ = some (.int .i64 (ka : Int)) ∧ w'.cell? ⟨PX, 1, none⟩ = some (.int .i64 (kb : Int)) ∧ w'.cell? ⟨PX, 2, none⟩ = some (.int .i64 (kc : Int)) ∧ w'.cell? ⟨q, off + ka * 2, none⟩ = some (.int .i64 pa.1) ∧ w'.cell? ⟨q, off + ka * 2 + 1, none⟩ = some (.int .i64 pa.2) ∧ w'.cell? ⟨q, off + kb * 2, none⟩ = some (.int .i64 pb.1) ∧ w'.cell? ⟨q, off + kb * 2 + 1, none⟩ = some (.int .i64 pb.2) ∧ w'.cell? ⟨q, off + kc * 2, none⟩ = some (.int .i64 pc.1) ∧ w'.cell? ⟨q, off + kc * 2 + 1, none⟩ = some (.int .i64 pc.2))
              (with_reducible (first | exact ⟨X0, X1, X2, A0, A1, B0, B1, C0, C1⟩ | exact ⟨cdP X0, cdP X1, cdP X2, cdP A0, cdP A1, cdP B0, cdP B1, cdP C0, cdP C1⟩ | exact ⟨cdP (ca_other X0), cdP (ca_other X1), cdP (ca_other X2), cdP (ca_other A0), cdP (ca_other A1), cdP (ca_other B0), cdP (ca_other B1), cdP (ca_other C0), cdP (ca_other C1)⟩ | fail))
              (first
              | (go_at_call 84; refine (unhide CXx _).mono ?_; rintro e w6 ⟨rfl, hb1⟩; have hbx := hb1; replace X0 := cell_later hbx X0; replace X1 := cell_later hbx X1; replace X2 := cell_later hbx X2; replace A0 := cell_later hbx A0; replace A1 := cell_later hbx A1; replace B0 := cell_later hbx B0; replace B1 := cell_later hbx B1; replace C0 := cell_later hbx C0; replace C1 := cell_later hbx C1; replace HB := hide (below_on (unhide HB) hbx); clear hb1 hbx)
              | fail)
            go_wp2_with fail
            go_roundw
            case rel => exact ⟨i + 1, by omega, by go_num, by rw [unhide ES], HT1, HB⟩
            case measure => simp [intOf]; omega
          · have ds : (s != sgZ A) = true := by simp [hs]
            have NV := unhide NOi (by rw [unhide TBi]; simp [hs])
            subst NV
            rw [ds]
            clear ds hs HTn TBi NOi
            go_wp2_with fail
            go_ret
            exact ⟨rfl, unhide HB⟩
      · obtain rfl : i = m := by omega
        have ta : T.take i = T := List.take_of_length_le (by rw [unhide HM]; omega)
        rw [ta] at HT
        have VY := unhide YES (unhide HT)
        rw [ta]
        generalize tsum l T = s0 at *
        have HSr := hide ((unhide HS).later (unhide HB))
        clear HT ta NO YES TB HD
        go_wp2_with fail
        refine (unhide CA _ (unhide HSr)).mono ?_
        rintro e w9 ⟨rfl, hb⟩
        replace HB := hide (below_on (unhide HB) hb)
        clear hb
        go_wp2_with fail
        go_ret
        exact ⟨by rw [VY]; first | rfl | simp | (cases hz : (s0 == A) <;> simp_all), unhide HB⟩
set_option maxHeartbeats 2000000 in
theorem IsTriangulationI (a : Option Addr) (n c : Nat) (l : List (Int × Int)) (b : Option Addr) (m d : Nat) (T : List (Int × Int × Int)) (w : World) (h : ArP w a n c l) (h' : ArT w b m d T) (h1 : n ≤ 1048576) (h2 : m ≤ 1048576) :
    Calls Try.prog 38 #[.slice a n c, .slice b m d] w fun e w' => e = .returned (.tuple #[.bool (itgV l T), .bool (ipB l)]) ∧ Below w.heap.size w w' := by
  have hn := h.len
  have CG := hide (fun w (k : SlP w a l) => gswI a n c l w k hn h1)
  have HS := hide h
  have HT := hide h'
  cases hp : ipB l
  · rw [hp] at CG
    have EV : itgV l T = false := by unfold itgV; rw [hp]; rfl
    rw [EV]
    clear hp h h' hn EV
    go_enter Try.func38, Try.ntmps38
    go_wp2_with fail
    refine (unhide CG _ (unhide HS).sl).mono ?_
    rintro e w1 ⟨rfl, hb⟩
    go_wp2_with fail
    go_ret2
    exact ⟨rfl, hb⟩
  · rw [hp] at CG
    have CT := hide (fun w (k : ArP w a n c l) (k' : ArT w b m d T) => itI a n c l b m d T w k k' hp)
    clear hp h h' hn
    generalize itgV l T = V at *
    go_enter Try.func38, Try.ntmps38
    go_wp2_with fail
    refine (unhide CG _ (unhide HS).sl).mono ?_
    rintro e w1 ⟨rfl, hb⟩
    replace HS := hide ((unhide HS).later hb)
    replace HT := hide ((unhide HT).later hb)
    have HB := hide hb
    clear hb
    go_wp2_with fail
    refine (unhide CT _ (unhide HS) (unhide HT)).mono ?_
    rintro e w2 ⟨rfl, hb⟩
    replace HB := hide (below_on (unhide HB) hb)
    clear hb
    go_wp2_with fail
    go_ret2
    exact ⟨rfl, unhide HB⟩
end Go.Proofs.Ytblhjeepelgdaaa
