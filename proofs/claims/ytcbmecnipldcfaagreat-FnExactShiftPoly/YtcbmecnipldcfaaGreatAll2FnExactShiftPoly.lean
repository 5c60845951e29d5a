/- The law FnExactShiftPoly returns true for every argument and leaves it as it was: the given statement FnExactShiftPolySaid. No condition. -/
import Derived.Test.YtcbmecnipldcfaaGreatPackP6
import Derived.Test.YtcbmecnipldcfaaGreatOpenQ
import Derived.Deep.Slices
import Derived.Test.YtcbmecnipldcfaaGreatIo
namespace Go.Proofs.YtcbmecnipldcfaaGreat
open Go.RowKit
set_option linter.unusedVariables false
set_option maxRecDepth 100000
set_option linter.unusedSimpArgs false

theorem ct_cons0 (c : Rat) (t : List Rat) : ct (c :: t) 0 = c := rfl
theorem ct_consS (c : Rat) (t : List Rat) (k : Nat) : ct (c :: t) (k + 1) = ct t k := rfl
theorem ct_nil (k : Nat) : ct [] k = 0 := rfl
theorem ct_out {l : List Rat} {k : Nat} (h : l.length ≤ k) : ct l k = 0 := by unfold ct; rw [List.getElem?_eq_none h]; rfl
theorem ct_append_left {l m : List Rat} {k : Nat} (h : k < l.length) : ct (l ++ m) k = ct l k := by unfold ct; rw [List.getElem?_append_left h]
theorem ct_append_right {l m : List Rat} {k : Nat} (h : l.length ≤ k) : ct (l ++ m) k = ct m (k - l.length) := by unfold ct; rw [List.getElem?_append_right h]
theorem ct_take {l : List Rat} {k j : Nat} (h : j < k) : ct (l.take k) j = ct l j := by unfold ct; rw [List.getElem?_take, if_pos h]
theorem ct_drop (l : List Rat) (k j : Nat) : ct (l.drop k) j = ct l (k + j) := by unfold ct; rw [List.getElem?_drop]
theorem ct_set {l : List Rat} {k j : Nat} {x : Rat} (h : k < l.length) : ct (l.set k x) j = if j = k then x else ct l j := by
  unfold ct
  rw [List.getElem?_set]
  by_cases e : k = j
  · subst e; simp [h]
  · rw [if_neg e, if_neg (fun e' => e e'.symm)]
theorem ct_ext {l m : List Rat} (hl : l.length = m.length) (h : ∀ k, k < l.length → ct l k = ct m k) : l = m := by
  refine List.ext_getElem hl fun k h1 h2 => ?_
  have := h k h1
  unfold ct at this
  rw [List.getElem?_eq_getElem h1, List.getElem?_eq_getElem h2] at this
  exact this
theorem ct_get {l : List Rat} {k : Nat} (h : k < l.length) : l[k]? = some (ct l k) := by unfold ct; rw [List.getElem?_eq_getElem h]; rfl
/-- A round of divisions, done down to k. -/
def inn (a : Rat) (u : List Rat) (k : Nat) : List Rat := u.take k ++ hs a (u.drop k)
theorem inn_len {a : Rat} {u : List Rat} {k : Nat} (h : k ≤ u.length) : (inn a u k).length = u.length := by
  unfold inn; rw [List.length_append, hs_len, List.length_take, List.length_drop]; omega
theorem hs_cons (a c : Rat) (t : List Rat) : hs a (c :: t) = (c + ct (hs a t) 0 * a) :: hs a t := rfl
theorem inn_step {a : Rat} {u : List Rat} {i : Nat} (h : i < u.length) : (inn a u (i + 1)).set i (ct (inn a u (i + 1)) i + ct (inn a u (i + 1)) (i + 1) * a) = inn a u i := by
  have e1 : u.drop i = ct u i :: u.drop (i + 1) := by rw [List.drop_eq_getElem_cons h]; unfold ct; rw [List.getElem?_eq_getElem h]; rfl
  have l1 : (u.take (i + 1)).length = i + 1 := by rw [List.length_take]; omega
  have c1 : ct (inn a u (i + 1)) i = ct u i := by unfold inn; rw [ct_append_left (by omega), ct_take (by omega)]
  have c2 : ct (inn a u (i + 1)) (i + 1) = ct (hs a (u.drop (i + 1))) 0 := by unfold inn; rw [ct_append_right (by omega), l1, Nat.sub_self]
  rw [c1, c2]
  have hl := inn_len (a := a) (u := u) (k := i + 1) (by omega)
  refine ct_ext (by rw [List.length_set, hl, inn_len (by omega)]) fun k hk => ?_
  rw [List.length_set, hl] at hk
  rw [ct_set (by omega)]
  have l0 : (u.take i).length = i := by rw [List.length_take]; omega
  by_cases e : k = i
  · subst e
    rw [if_pos rfl]
    unfold inn
    rw [ct_append_right (by omega), l0, Nat.sub_self, e1, hs_cons, ct_cons0]
  · rw [if_neg e]
    unfold inn
    by_cases e2 : k < i
    · rw [ct_append_left (by omega), ct_append_left (by omega), ct_take (by omega), ct_take (by omega)]
    · rw [ct_append_right (by omega), ct_append_right (by omega), l0, l1, e1, hs_cons]
      obtain ⟨j, rfl⟩ : ∃ j, k = i + 1 + j := ⟨k - (i + 1), by omega⟩
      rw [show i + 1 + j - (i + 1) = j by omega, show i + 1 + j - i = j + 1 by omega, ct_consS]
theorem inn_start {a : Rat} {u : List Rat} (h : 0 < u.length) : inn a u (u.length - 1) = u := by
  have h1 : u.length - 1 < u.length := by omega
  have e1 : u.drop (u.length - 1) = [ct u (u.length - 1)] := by
    rw [List.drop_eq_getElem_cons h1, List.drop_eq_nil_of_le (by omega)]; unfold ct; rw [List.getElem?_eq_getElem h1]; rfl
  unfold inn
  rw [e1]
  have e2 : hs a [ct u (u.length - 1)] = [ct u (u.length - 1)] := by show [ct u (u.length - 1) + ct [] 0 * a] = _; rw [ct_nil]; congr 1; grind
  rw [e2, ← e1, List.take_append_drop]
def rnds (a : Rat) (ps : List Rat) : Nat → List Rat
  | 0 => ps
  | r + 1 => inn a (rnds a ps r) r
theorem rnds_len {a : Rat} {ps : List Rat} : ∀ {r : Nat}, r ≤ ps.length → (rnds a ps r).length = ps.length
  | 0, _ => rfl
  | r + 1, h => by show (inn a (rnds a ps r) r).length = _; rw [inn_len (by rw [rnds_len (by omega)]; omega), rnds_len (by omega)]
theorem rnds_pS (a : Rat) (ps : List Rat) : ∀ (k r : Nat) (xs ys : List Rat), rnds a ps r = xs ++ ys → xs.length = r → ys.length = k → rnds a ps (r + k) = xs ++ pS a k ys
  | 0, r, xs, ys, h, hx, hy => by
    have : ys = [] := List.length_eq_zero_iff.1 hy
    subst this
    show rnds a ps r = xs ++ []
    rw [h]
  | k + 1, r, xs, ys, h, hx, hy => by
    have e : rnds a ps (r + 1) = xs ++ hs a ys := by
      show inn a (rnds a ps r) r = _
      unfold inn
      rw [h, List.take_left' hx, List.drop_left' hx]
    have hl : (hs a ys).length = k + 1 := by rw [hs_len]; exact hy
    obtain ⟨x, t, e2⟩ : ∃ x t, hs a ys = x :: t := by
      cases e2 : hs a ys with
      | nil => rw [e2] at hl; simp at hl
      | cons x t => exact ⟨x, t, rfl⟩
    rw [e2] at hl
    have ih := rnds_pS a ps k (r + 1) (xs ++ [x]) t (by rw [e, e2]; simp) (by simp [hx]) (by simpa using hl)
    rw [show r + (k + 1) = r + 1 + k by omega, ih]
    show xs ++ [x] ++ pS a k t = xs ++ (ct (hs a ys) 0 :: pS a k (hs a ys).tail)
    rw [e2]
    simp [ct]
theorem rnds_hS (a : Rat) (ps : List Rat) : rnds a ps ps.length = hS a ps := by
  have h := rnds_pS a ps ps.length 0 [] ps rfl rfl rfl
  rw [Nat.zero_add, List.nil_append] at h
  rw [h, pS_hS]
/-- How long coefficients may be behind r rounds. -/
def mB : Nat → Nat
  | 0 => 6
  | r + 1 => (7 - r) * (mB r + 7) + 1
theorem mB_le {r : Nat} (h : r ≤ 7) : mB r ≤ 72600 := by
  have : ∀ k : Fin 8, mB k.val ≤ 72600 := by decide
  exact this ⟨r, by omega⟩
theorem mB_up {r : Nat} (h : r ≤ 6) : mB r ≤ mB (r + 1) := by
  have : ∀ k : Fin 7, mB k.val ≤ mB (k.val + 1) := by decide
  exact this ⟨r, by omega⟩
theorem hs_bd {a : Rat} {M : Nat} (ha : BdR a 6) : ∀ {u : List Rat}, (∀ q ∈ u, BdR q M) → ∀ j, BdR (ct (hs a u) j) (u.length * (M + 7) + 1)
  | [], h, j => by rw [show ct (hs a []) j = 0 from rfl]; exact bdR_zero.mono (by omega)
  | c :: t, h, 0 => by
    rw [hs_cons, ct_cons0]
    refine ((h c List.mem_cons_self).add ((hs_bd ha (fun q hq => h q (List.mem_cons_of_mem _ hq)) 0).mul ha)).mono ?_
    rw [List.length_cons, Nat.succ_mul]
    omega
  | c :: t, h, j + 1 => by
    rw [hs_cons, ct_consS]
    refine (hs_bd ha (fun q hq => h q (List.mem_cons_of_mem _ hq)) j).mono ?_
    rw [List.length_cons, Nat.succ_mul]
    omega
def AllB (u : List Rat) (M : Nat) : Prop := ∀ q ∈ u, BdR q M
theorem AllB.ct {u : List Rat} {M : Nat} (h : AllB u M) (hM : 1 ≤ M) (j : Nat) : BdR (ct u j) M := by
  by_cases hj : j < u.length
  · unfold Go.Proofs.YtcbmecnipldcfaaGreat.ct; rw [List.getElem?_eq_getElem hj]; exact h _ (List.getElem_mem hj)
  · rw [ct_out (by omega)]; exact bdR_zero.mono hM
theorem allB_of {u : List Rat} {M : Nat} (h : ∀ j, BdR (ct u j) M) : AllB u M := fun q hq => by
  obtain ⟨j, hj, rfl⟩ := List.mem_iff_getElem.1 hq
  have := h j
  unfold ct at this
  rw [List.getElem?_eq_getElem hj] at this
  exact this
theorem mB_pos (r : Nat) : 1 ≤ mB r := by cases r <;> simp [mB]
theorem inn_bd {a : Rat} {u : List Rat} {r k : Nat} (ha : BdR a 6) (h : AllB u (mB r)) (hr : r ≤ 6) (hk : r ≤ k) (hu : u.length ≤ 7) : AllB (inn a u k) (mB (r + 1)) := allB_of fun j => by
  unfold inn
  have h1 : AllB (u.drop k) (mB r) := fun q hq => h q (List.mem_of_mem_drop hq)
  by_cases hj : j < (u.take k).length
  · rw [ct_append_left hj, ct_take (by rw [List.length_take] at hj; omega)]
    exact (h.ct (mB_pos r) j).mono (mB_up hr)
  · rw [ct_append_right (by omega)]
    refine (hs_bd ha h1 _).mono ?_
    show _ ≤ (7 - r) * (mB r + 7) + 1
    have : (u.drop k).length * (mB r + 7) ≤ (7 - r) * (mB r + 7) := Nat.mul_le_mul_right _ (by rw [List.length_drop]; omega)
    omega
theorem rnds_bd {a : Rat} {ps : List Rat} (ha : BdR a 6) (h : AllB ps 6) (hp : ps.length ≤ 7) : ∀ {r : Nat}, r ≤ ps.length → AllB (rnds a ps r) (mB r)
  | 0, _ => h
  | r + 1, hr => inn_bd ha (rnds_bd ha h hp (by omega)) (by omega) (Nat.le_refl _) (by rw [rnds_len (by omega)]; exact hp)
end Go.Proofs.YtcbmecnipldcfaaGreat
namespace Go.Proofs.YtcbmecnipldcfaaGreat
open Go.RowKit
set_option linter.unusedVariables false
set_option maxRecDepth 100000
set_option linter.unusedSimpArgs false

/-- What may stand as a coefficient on the way. -/
structure GqE (d : QD) : Prop where
  is : IsD (nQ d, dQ d) d
  pos : 0 < dQ d
  kn : Bd (nQ d) 2200
  kd : Bd (dQ d) 2200
def Gq (l : List (QV × QD)) : Prop := ∀ y ∈ l, GqE y.2
structure IsGk (w : World) (q : QV) (d : QD) : Prop where
  is : IsQ w q (nQ d) (dQ d)
  e : GqE d
theorem IsGk.later {w w' : World} {q : QV} {d : QD} (h : IsGk w q d) (hb : Below w.heap.size w w') : IsGk w' q d := ⟨h.is.later hb, h.e⟩
theorem good7_of_mem {w : World} {a : Option Addr} {n c : Nat} {l : List (QV × QD)} (h : PArQ w a n c l) (hg : Gq l) {y : QV × QD} (hy : y ∈ l) : IsGk w y.1 y.2 := by
  have e := hg y hy
  have r := h.rd y hy
  refine ⟨⟨⟨y.2.num.xs, ?_, e.is.n1⟩, ⟨y.2.den.xs, ?_, e.is.n2⟩⟩, e⟩
  · have := r.head
    rw [show (⟨decide (nQ y.2 < 0), y.2.num.xs⟩ : BD) = y.2.num from by rw [← e.is.g1]]
    exact this
  · have := r.tail.head
    rw [show (⟨decide (dQ y.2 < 0), y.2.den.xs⟩ : BD) = y.2.den from by rw [← e.is.g2]]
    exact this
set_option maxHeartbeats 2000000 in
theorem coefS7 (a : Option Addr) (n c k : Nat) (l : List (QV × QD)) (w : World) (h : PArQ w a n c l) (hg : Gq l) (hk : k ≤ 1048576) :
    Calls Tryz.prog 88 #[.slice a n c, .int .i64 k] w fun e w' => ∃ u : QV, e = .returned (.agg #[.bool u.num.g, .slice u.num.a u.num.n u.num.c, .bool u.den.g, .slice u.den.a u.den.n u.den.c]) ∧ Below w.heap.size w w' ∧ IsQ w' u (cf (goods (l.map Prod.snd)) k).1 (cf (goods (l.map Prod.snd)) k).2 := by
  have HS := hide h
  have HN := hide h.len
  have HG := hide hg
  clear h hg
  have B0 := hide (show Below w.heap.size w (w.alloc (.cells #[.bool false, .slice none 0 0, .bool false, .slice none 0 0] 32)) from (Below.refl _ _).alloc (Nat.le_refl _) _)
  by_cases hlt : k < n
  · have hlt' : (k : Int) < (n : Int) := by omega
    rcases (unhide HS).at_ with e | ⟨b, off, rfl, hb, hc⟩
    · exact absurd (unhide HN) (by rw [e]; simp; omega)
    have e0 := hc k (by rw [unhide HN]; exact hlt)
    obtain ⟨y, hy⟩ : ∃ y, y = l[k]'(by rw [unhide HN]; exact hlt) := ⟨_, rfl⟩
    rw [← hy] at e0
    have MY : Hid (y ∈ l) := hide (by rw [hy]; exact List.getElem_mem _)
    have CF := hide (cf_in (by rw [unhide HN]; exact hlt) hy)
    clear hy
    have E0 : (w.alloc (.cells #[.bool false, .slice none 0 0, .bool false, .slice none 0 0] 32)).cell? ⟨b, off + k * 4, none⟩ = some (.bool y.1.num.g) := ca_other (e0.1)
    have E1 : (w.alloc (.cells #[.bool false, .slice none 0 0, .bool false, .slice none 0 0] 32)).cell? ⟨b, off + k * 4 + 1, none⟩ = some (.slice y.1.num.a y.1.num.n y.1.num.c) := ca_other (e0.2.1)
    have E2 : (w.alloc (.cells #[.bool false, .slice none 0 0, .bool false, .slice none 0 0] 32)).cell? ⟨b, off + k * 4 + 2, none⟩ = some (.bool y.1.den.g) := ca_other (e0.2.2.1)
    have E3 : (w.alloc (.cells #[.bool false, .slice none 0 0, .bool false, .slice none 0 0] 32)).cell? ⟨b, off + k * 4 + 3, none⟩ = some (.slice y.1.den.a y.1.den.n y.1.den.c) := ca_other (e0.2.2.2)
    clear e0 hc
    have JY := hide (good7_of_mem (unhide HS) (unhide HG) (unhide MY))
    go_enter Tryz.func88, Tryz.ntmps88
    go_wp2
    refine bodyPost_ret (v := .agg #[.bool y.1.num.g, .slice y.1.num.a y.1.num.n y.1.num.c, .bool y.1.den.g, .slice y.1.den.a y.1.den.n y.1.den.c]) (by simp [results, Tryz.results88, go_sem]) rfl ?_
    exact ⟨y.1, rfl, (Below.refl _ _).alloc (Nat.le_refl _) _, by rw [unhide CF]; exact (unhide JY).is.later ((Below.refl _ _).alloc (Nat.le_refl _) _)⟩
  · have hlt' : ¬ ((k : Int) < (n : Int)) := by omega
    have CF := hide (cf_out (l := l) (k := k) (by rw [unhide HN]; exact hlt))
    go_enter Tryz.func88, Tryz.ntmps88
    go_wp2_with fail
    refine (wholeS 0 _ (by omega) (by omega)).mono ?_
    rintro e w1 ⟨u, lu, lv, rfl, hb, o1, a1, m1, m2⟩
    have r0 : w1.cell? ⟨w.heap.size, 0, none⟩ = some (.bool false) := cell_later hb (by simp [go_sem])
    have r1 : w1.cell? ⟨w.heap.size, 1, none⟩ = some (.slice none 0 0) := cell_later hb (by simp [go_sem])
    have r2 : w1.cell? ⟨w.heap.size, 2, none⟩ = some (.bool false) := cell_later hb (by simp [go_sem])
    have r3 : w1.cell? ⟨w.heap.size, 3, none⟩ = some (.slice none 0 0) := cell_later hb (by simp [go_sem])
    have f0 : ∀ o, w1.frozen? ⟨w.heap.size, o, none⟩ = false := fun o => frozen_later hb (by simp) (by simp [go_sem])
    have HB := hide (below_on (unhide B0) hb)
    have O1 := hide (o1.wide (lo' := w.heap.size + 1) (by simp) (Nat.le_refl _))
    have A1 := hide a1
    have N1 := hide (And.intro m1 m2)
    clear hb o1 a1 m1 m2
    go_wp2
    refine bodyPost_ret (v := .agg #[.bool u.num.g, .slice u.num.a u.num.n u.num.c, .bool u.den.g, .slice u.den.a u.den.n u.den.c]) (by simp [results, Tryz.results88, go_sem, r0, r1, r2, r3]) rfl ?_
    have bt := metQ_but (w5 := w1) (v := u) (G := w.heap.size)
    refine ⟨u, rfl, bt.below (unhide HB) (Nat.le_refl _) (unhide HB).size, ?_⟩
    rw [unhide CF]
    exact isQ_of (ar_fin bt (unhide O1) (unhide A1) (Nat.le_refl _)) (unhide N1).1 (unhide N1).2
theorem cf_good7 {w : World} {a : Option Addr} {n c : Nat} {l : List (QV × QD)} (h : PArQ w a n c l) (hg : Gq l) (k : Nat) : 0 < (cf (goods (l.map Prod.snd)) k).2 ∧ Bd (cf (goods (l.map Prod.snd)) k).1 2200 ∧ Bd (cf (goods (l.map Prod.snd)) k).2 2200 := by
  by_cases hlt : k < l.length
  · rw [cf_in hlt rfl]
    have j := good7_of_mem h hg (List.getElem_mem hlt)
    exact ⟨j.e.pos, j.e.kn, j.e.kd⟩
  · rw [cf_out hlt]
    exact ⟨by decide, (int_bd (by omega) (by omega)).mono (by omega), one_bd2' (by omega)⟩
set_option maxHeartbeats 8000000 in
theorem addS7 (a : Option Addr) (n c : Nat) (l : List (QV × QD)) (a' : Option Addr) (n' c' : Nat) (l' : List (QV × QD)) (w : World) (h : PArQ w a n c l) (h' : PArQ w a' n' c' l') (hg : Gq l) (hg' : Gq l') (n7 : n ≤ 8) (n7' : n' ≤ 8) :
    Calls Tryz.prog 45 #[.slice a n c, .slice a' n' c'] w (OutCu w (sums (goods (l.map Prod.snd)) (goods (l'.map Prod.snd)) (max n n'))) := by
  obtain ⟨i0, hi, hz0, hz1, hz2⟩ := info_parts Tryz.info32
  have HS := hide h
  have HS' := hide h'
  have HG := hide hg
  have HG' := hide hg'
  have CG0 := hide (cf_good7 h hg)
  have CG0' := hide (cf_good7 h' hg')
  obtain ⟨m, hm⟩ : ∃ m, m = max n n' := ⟨_, rfl⟩
  rw [← hm]
  have hm1 : n ≤ m ∧ n' ≤ m ∧ m ≤ 8 ∧ (m = n ∨ m = n') := by omega
  clear h h' hg hg' hm
  go_enter Tryz.func45, Tryz.ntmps45
  go_wp2
  go_loopw [5, 6] (fun v iv wr => ∃ (k : Nat) (us : List (QV × QD)), k ≤ m ∧ iv = .int .i64 k ∧ us.length = k ∧ Hid (IsL (sums (goods (l.map Prod.snd)) (goods (l'.map Prod.snd)) k) (us.map Prod.snd)) ∧ Hid (wr.ownsRow w.heap.size 32 4 v k (flatC us)) ∧ Hid (Typ wr (zipPQ us)) ∧ Hid (AllAr wr (zipPQ us)) ∧ Hid (Below w.heap.size w wr)) (fun _ iv _ => m - (intOf iv).toNat)
  case atStart => exact ⟨0, [], Nat.zero_le _, rfl, rfl, hide trivial, hide ⟨rfl, .inl ⟨rfl, rfl⟩⟩, hide (fun p hp => by cases hp), hide (fun p hp => by cases hp), hide (Below.refl _ _)⟩
  case round =>
    obtain ⟨k, us, hk, rfl, hu, ED, OW, OO, AA, HB⟩ := hrel
    have CG := hide (unhide CG0 k)
    have CG' := hide (unhide CG0' k)
    by_cases hlt : k < n
    · have g1 : decide ((k : Int) < (n : Int)) = true := by simp; omega
      go_wp2_with fail
      refine (coefS7 a n c k l _ ((unhide HS).later (unhide HB)) (unhide HG) (by omega)).mono ?_
      rintro e w1 ⟨x1, rfl, hb1, q1⟩
      have Q1 := hide q1
      replace HB := hide (below_on (unhide HB) hb1)
      replace OW := hide (owns_later (unhide OW) hb1)
      replace OO := hide ((unhide OO).later hb1)
      replace AA := hide ((unhide AA).later hb1)
      have sz1 := hb1.size
      clear hb1 q1
      go_wp2_with fail
      refine (coefS7 a' n' c' k l' _ ((unhide HS').later (unhide HB)) (unhide HG') (by omega)).mono ?_
      rintro e w2 ⟨x2, rfl, hb1, q2⟩
      have Q2 := hide q2
      replace Q1 := hide ((unhide Q1).later hb1)
      replace HB := hide (below_on (unhide HB) hb1)
      replace OW := hide (owns_later (unhide OW) hb1)
      replace OO := hide ((unhide OO).later hb1)
      replace AA := hide ((unhide AA).later hb1)
      have sz2 := hb1.size
      clear hb1 q2
      go_wp2_with fail
      refine (addQS x1 x2 _ _ _ _ _ (unhide Q1) (unhide Q2) (sum_ne (unhide CG).1 (unhide CG').1) ((unhide CG).2.1.mono (by omega)) ((unhide CG).2.2.mono (by omega)) ((unhide CG').2.1.mono (by omega)) ((unhide CG').2.2.mono (by omega))).mono ?_
      rintro e w3 ⟨u, rfl, hbx, o1, o2⟩
      have ou := ow_two' (N := (sumAt (goods (l.map Prod.snd)) (goods (l'.map Prod.snd)) k).1) (D := (sumAt (goods (l.map Prod.snd)) (goods (l'.map Prod.snd)) k).2) o1 o2
      obtain ⟨lu, lv, tu, au, m1, m2⟩ := ou
      have al : Below w3.heap.size w3 (w3.alloc (.cells #[.bool u.num.g, .slice u.num.a u.num.n u.num.c, .bool u.den.g, .slice u.den.a u.den.n u.den.c] 32)) := (Below.refl _ _).alloc (Nat.le_refl _) _
      have HB2 := hide (below_on (unhide HB) hbx)
      have HB3 := hide (below_on (unhide HB2) al)
      have OW2 := hide (owns_later (owns_later (unhide OW) hbx) al)
      have OO2 := hide ((((unhide OO).later hbx).append tu).later al)
      have AA2 := hide ((((unhide AA).later hbx).append au).later al)
      have NU := hide (And.intro m1 m2)
      have zv : w.heap.size ≤ w3.heap.size := (unhide HB2).size
      clear hbx o1 o2 tu au m1 m2 al OW OO AA HB Q1 Q2
      go_wp2_with (at_builtin; refine wpList_append_lies _ rfl (.tmp 19) (.tmp 27) 44 rfl w.heap.size 32 i0 (.agg #[.bool false, .slice none 0 0, .bool false, .slice none 0 0]) 4 64 Tryz.underlying44 hi hz0 hz1 hz2 rfl (by decide) _ k (flatC us) rfl (unhide OW2) ⟨w3.heap.size, 0, none⟩ 1 1 [.bool u.num.g, .slice u.num.a u.num.n u.num.c, .bool u.den.g, .slice u.den.a u.den.n u.den.c] rfl rfl (World.news_of_block (cs := #[.bool u.num.g, .slice u.num.a u.num.n u.num.c, .bool u.den.g, .slice u.den.a u.den.n u.den.c]) (t := 32) (fr := (0, 0)) (by show (w3.heap.push _)[w3.heap.size]? = _; simp)) (by intro u' hu'; simp at hu'; rcases hu' with rfl | rfl | rfl | rfl <;> rfl) (by omega) (by unfold maxLen; omega) (by omega) (by simp; omega) _ rfl ?_)
      intro g cap w4 hown hgrow hor hlt3
      have OW3 : Hid (w4.ownsRow w.heap.size 32 4 (.slice (some ⟨g, 0, none⟩) (k + 1) cap) (k + 1) (flatC (us ++ [(u, (⟨⟨decide ((sumAt (goods (l.map Prod.snd)) (goods (l'.map Prod.snd)) k).1 < 0), lu⟩, ⟨decide ((sumAt (goods (l.map Prod.snd)) (goods (l'.map Prod.snd)) k).2 < 0), lv⟩⟩ : QD))]))) := hide (by rw [flatC_append]; exact hown)
      have OO3 := hide ((unhide OO2).grown hgrow (unhide OW2))
      have AA3 : Hid (AllAr w4 (zipPQ (us ++ [(u, (⟨⟨decide ((sumAt (goods (l.map Prod.snd)) (goods (l'.map Prod.snd)) k).1 < 0), lu⟩, ⟨decide ((sumAt (goods (l.map Prod.snd)) (goods (l'.map Prod.snd)) k).2 < 0), lv⟩⟩ : QD))]))) := hide (by rw [zipPQ_append, zipPQ_one]; exact Typ.ar (unhide OO3) (unhide AA2))
      have OO4 : Hid (Typ w4 (zipPQ (us ++ [(u, (⟨⟨decide ((sumAt (goods (l.map Prod.snd)) (goods (l'.map Prod.snd)) k).1 < 0), lu⟩, ⟨decide ((sumAt (goods (l.map Prod.snd)) (goods (l'.map Prod.snd)) k).2 < 0), lv⟩⟩ : QD))]))) := hide (by rw [zipPQ_append, zipPQ_one]; exact unhide OO3)
      have HB4 := hide ((unhide HB3).grown hgrow (unhide HB3).size (owns_base (unhide OW2)))
      have ED3 : Hid (IsL (sums (goods (l.map Prod.snd)) (goods (l'.map Prod.snd)) (k + 1)) ((us ++ [(u, (⟨⟨decide ((sumAt (goods (l.map Prod.snd)) (goods (l'.map Prod.snd)) k).1 < 0), lu⟩, ⟨decide ((sumAt (goods (l.map Prod.snd)) (goods (l'.map Prod.snd)) k).2 < 0), lv⟩⟩ : QD))]).map Prod.snd)) := hide (by rw [sums_snoc]; exact isL_snoc (unhide ED) (unhide NU).1 (unhide NU).2)
      clear hown hgrow hor hlt3 OW2 OO2 AA2 HB2 HB3 OO3
      go_wp2
      go_roundw
      case rel => exact ⟨k + 1, us ++ [(u, (⟨⟨decide ((sumAt (goods (l.map Prod.snd)) (goods (l'.map Prod.snd)) k).1 < 0), lu⟩, ⟨decide ((sumAt (goods (l.map Prod.snd)) (goods (l'.map Prod.snd)) k).2 < 0), lv⟩⟩ : QD))], by omega, by go_num, by simp [hu], ED3, OW3, OO4, AA3, HB4⟩
      case measure => simp [intOf]; omega
    · have g1 : decide ((k : Int) < (n : Int)) = false := by simp; omega
      by_cases hlt' : k < n'
      · have g2 : decide ((k : Int) < (n' : Int)) = true := by simp; omega
        go_wp2_with fail
        refine (coefS7 a n c k l _ ((unhide HS).later (unhide HB)) (unhide HG) (by omega)).mono ?_
        rintro e w1 ⟨x1, rfl, hb1, q1⟩
        have Q1 := hide q1
        replace HB := hide (below_on (unhide HB) hb1)
        replace OW := hide (owns_later (unhide OW) hb1)
        replace OO := hide ((unhide OO).later hb1)
        replace AA := hide ((unhide AA).later hb1)
        have sz1 := hb1.size
        clear hb1 q1
        go_wp2_with fail
        refine (coefS7 a' n' c' k l' _ ((unhide HS').later (unhide HB)) (unhide HG') (by omega)).mono ?_
        rintro e w2 ⟨x2, rfl, hb1, q2⟩
        have Q2 := hide q2
        replace Q1 := hide ((unhide Q1).later hb1)
        replace HB := hide (below_on (unhide HB) hb1)
        replace OW := hide (owns_later (unhide OW) hb1)
        replace OO := hide ((unhide OO).later hb1)
        replace AA := hide ((unhide AA).later hb1)
        have sz2 := hb1.size
        clear hb1 q2
        go_wp2_with fail
        refine (addQS x1 x2 _ _ _ _ _ (unhide Q1) (unhide Q2) (sum_ne (unhide CG).1 (unhide CG').1) ((unhide CG).2.1.mono (by omega)) ((unhide CG).2.2.mono (by omega)) ((unhide CG').2.1.mono (by omega)) ((unhide CG').2.2.mono (by omega))).mono ?_
        rintro e w3 ⟨u, rfl, hbx, o1, o2⟩
        have ou := ow_two' (N := (sumAt (goods (l.map Prod.snd)) (goods (l'.map Prod.snd)) k).1) (D := (sumAt (goods (l.map Prod.snd)) (goods (l'.map Prod.snd)) k).2) o1 o2
        obtain ⟨lu, lv, tu, au, m1, m2⟩ := ou
        have al : Below w3.heap.size w3 (w3.alloc (.cells #[.bool u.num.g, .slice u.num.a u.num.n u.num.c, .bool u.den.g, .slice u.den.a u.den.n u.den.c] 32)) := (Below.refl _ _).alloc (Nat.le_refl _) _
        have HB2 := hide (below_on (unhide HB) hbx)
        have HB3 := hide (below_on (unhide HB2) al)
        have OW2 := hide (owns_later (owns_later (unhide OW) hbx) al)
        have OO2 := hide ((((unhide OO).later hbx).append tu).later al)
        have AA2 := hide ((((unhide AA).later hbx).append au).later al)
        have NU := hide (And.intro m1 m2)
        have zv : w.heap.size ≤ w3.heap.size := (unhide HB2).size
        clear hbx o1 o2 tu au m1 m2 al OW OO AA HB Q1 Q2
        go_wp2_with (at_builtin; refine wpList_append_lies _ rfl (.tmp 19) (.tmp 27) 44 rfl w.heap.size 32 i0 (.agg #[.bool false, .slice none 0 0, .bool false, .slice none 0 0]) 4 64 Tryz.underlying44 hi hz0 hz1 hz2 rfl (by decide) _ k (flatC us) rfl (unhide OW2) ⟨w3.heap.size, 0, none⟩ 1 1 [.bool u.num.g, .slice u.num.a u.num.n u.num.c, .bool u.den.g, .slice u.den.a u.den.n u.den.c] rfl rfl (World.news_of_block (cs := #[.bool u.num.g, .slice u.num.a u.num.n u.num.c, .bool u.den.g, .slice u.den.a u.den.n u.den.c]) (t := 32) (fr := (0, 0)) (by show (w3.heap.push _)[w3.heap.size]? = _; simp)) (by intro u' hu'; simp at hu'; rcases hu' with rfl | rfl | rfl | rfl <;> rfl) (by omega) (by unfold maxLen; omega) (by omega) (by simp; omega) _ rfl ?_)
        intro g cap w4 hown hgrow hor hlt3
        have OW3 : Hid (w4.ownsRow w.heap.size 32 4 (.slice (some ⟨g, 0, none⟩) (k + 1) cap) (k + 1) (flatC (us ++ [(u, (⟨⟨decide ((sumAt (goods (l.map Prod.snd)) (goods (l'.map Prod.snd)) k).1 < 0), lu⟩, ⟨decide ((sumAt (goods (l.map Prod.snd)) (goods (l'.map Prod.snd)) k).2 < 0), lv⟩⟩ : QD))]))) := hide (by rw [flatC_append]; exact hown)
        have OO3 := hide ((unhide OO2).grown hgrow (unhide OW2))
        have AA3 : Hid (AllAr w4 (zipPQ (us ++ [(u, (⟨⟨decide ((sumAt (goods (l.map Prod.snd)) (goods (l'.map Prod.snd)) k).1 < 0), lu⟩, ⟨decide ((sumAt (goods (l.map Prod.snd)) (goods (l'.map Prod.snd)) k).2 < 0), lv⟩⟩ : QD))]))) := hide (by rw [zipPQ_append, zipPQ_one]; exact Typ.ar (unhide OO3) (unhide AA2))
        have OO4 : Hid (Typ w4 (zipPQ (us ++ [(u, (⟨⟨decide ((sumAt (goods (l.map Prod.snd)) (goods (l'.map Prod.snd)) k).1 < 0), lu⟩, ⟨decide ((sumAt (goods (l.map Prod.snd)) (goods (l'.map Prod.snd)) k).2 < 0), lv⟩⟩ : QD))]))) := hide (by rw [zipPQ_append, zipPQ_one]; exact unhide OO3)
        have HB4 := hide ((unhide HB3).grown hgrow (unhide HB3).size (owns_base (unhide OW2)))
        have ED3 : Hid (IsL (sums (goods (l.map Prod.snd)) (goods (l'.map Prod.snd)) (k + 1)) ((us ++ [(u, (⟨⟨decide ((sumAt (goods (l.map Prod.snd)) (goods (l'.map Prod.snd)) k).1 < 0), lu⟩, ⟨decide ((sumAt (goods (l.map Prod.snd)) (goods (l'.map Prod.snd)) k).2 < 0), lv⟩⟩ : QD))]).map Prod.snd)) := hide (by rw [sums_snoc]; exact isL_snoc (unhide ED) (unhide NU).1 (unhide NU).2)
        clear hown hgrow hor hlt3 OW2 OO2 AA2 HB2 HB3 OO3
        go_wp2
        go_roundw
        case rel => exact ⟨k + 1, us ++ [(u, (⟨⟨decide ((sumAt (goods (l.map Prod.snd)) (goods (l'.map Prod.snd)) k).1 < 0), lu⟩, ⟨decide ((sumAt (goods (l.map Prod.snd)) (goods (l'.map Prod.snd)) k).2 < 0), lv⟩⟩ : QD))], by omega, by go_num, by simp [hu], ED3, OW3, OO4, AA3, HB4⟩
        case measure => simp [intOf]; omega
      · have g2 : decide ((k : Int) < (n' : Int)) = false := by simp; omega
        obtain rfl : k = m := by omega
        obtain ⟨a3, c3, rfl, h3, p3⟩ := owns_arg (unhide OW) hu (unhide AA)
        have P3 := hide p3
        have H3 := hide h3
        clear p3 h3 OW OO AA
        go_wp2_with fail
        refine (cutS_v a3 k c3 us _ (unhide P3) (by omega) (unhide H3)).mono ?_
        rintro e w4 ⟨a4, m4, c4, rfl, hb4, ca4, p4⟩
        have P4 := hide p4
        have C4 := hide ca4
        replace HB := hide (below_on (unhide HB) hb4)
        clear hb4 ca4 p4
        go_wp2
        go_ret
        exact ⟨_, m4, c4, us, rfl, unhide HB, unhide ED, unhide C4, unhide P4⟩
structure Mh (t : Nat) (c : Int × Int) : Prop where
  low : Low c.1 c.2
  kn : Bd c.1 (5000 * t + 1)
  kd : Bd c.2 (5000 * t + 1)
theorem Mh.mono {t t' : Nat} {c : Int × Int} (h : Mh t c) (k : t ≤ t') : Mh t' c := ⟨h.low, h.kn.mono (by omega), h.kd.mono (by omega)⟩
theorem mh_nought (t : Nat) : Mh t (0, 1) := ⟨⟨by decide, rfl⟩, (Bd.small (by decide)).mono (by omega), (Bd.small (by decide)).mono (by omega)⟩
theorem mul_midh {c d : Int × Int} (hc : 0 < c.2 ∧ Bd c.1 2200 ∧ Bd c.2 2200) (hd : 0 < d.2 ∧ Bd d.1 2200 ∧ Bd d.2 2200) : 0 < lowD (c.1 * d.1) (c.2 * d.2) ∧ Bd (lowN (c.1 * d.1) (c.2 * d.2)) 4400 ∧ Bd (lowD (c.1 * d.1) (c.2 * d.2)) 4400 :=
  ⟨lowD_pos (sum_ne hc.1 hd.1), lowN_bd (hc.2.1.mul hd.2.1), lowD_bd (hc.2.2.mul hd.2.2)⟩
theorem mulAt_mh {t : Nat} {x c d : Int × Int} (h : Mh t x) (hc : 0 < c.2 ∧ Bd c.1 2200 ∧ Bd c.2 2200) (hd : 0 < d.2 ∧ Bd d.1 2200 ∧ Bd d.2 2200) : Mh (t + 1) (mulAt x c d) := by
  obtain ⟨m1, m2, m3⟩ := mul_midh hc hd
  refine ⟨low_low (sum_ne h.low.pos m1), lowN_bd ?_, lowD_bd ?_⟩
  · exact (((h.kn.mul m3).mono (L' := 5000 * t + 4401) (by omega)).add ((m2.mul h.kd).mono (by omega))).mono (by omega)
  · exact (h.kd.mul m3).mono (by omega)
def MhL (t : Nat) (cs : List (Int × Int)) : Prop := ∀ c ∈ cs, Mh t c
theorem MhL.cf {t : Nat} {cs : List (Int × Int)} (h : MhL t cs) (k : Nat) : Mh t (cf cs k) := by
  unfold Go.Proofs.YtcbmecnipldcfaaGreat.cf
  by_cases hk : k < cs.length
  · rw [List.getElem?_eq_getElem hk]; exact h _ (List.getElem_mem hk)
  · rw [List.getElem?_eq_none (by omega)]; exact mh_nought t
def Gh (cs : List (Int × Int)) : Prop := ∀ k, 0 < (cf cs k).2 ∧ Bd (cf cs k).1 2200 ∧ Bd (cf cs k).2 2200
theorem setAt_mh {t k : Nat} {cs : List (Int × Int)} {c d : Int × Int} (h : MhL t cs) (hc : 0 < c.2 ∧ Bd c.1 2200 ∧ Bd c.2 2200) (hd : 0 < d.2 ∧ Bd d.1 2200 ∧ Bd d.2 2200) : MhL (t + 1) (setAt cs k c d) := fun x hx => by
  unfold setAt at hx
  rcases List.mem_or_eq_of_mem_set hx with e | e
  · exact (h x e).mono (by omega)
  · rw [e]; exact mulAt_mh (h.cf k) hc hd
theorem mrow_mh {t : Nat} {c : Int × Int} {qs cs : List (Int × Int)} (i : Nat) (h : MhL t cs) (hc : 0 < c.2 ∧ Bd c.1 2200 ∧ Bd c.2 2200) (hq : Gh qs) : ∀ j, MhL (t + j) (mrow c qs i j cs)
  | 0 => h
  | j + 1 => setAt_mh (mrow_mh i h hc hq j) hc (hq j)
theorem mall_mh {ps qs : List (Int × Int)} (m N : Nat) (hp : Gh ps) (hq : Gh qs) : ∀ i, MhL (i * m) (mall ps qs m i (noughts N))
  | 0 => fun c hc => by
    have : c = (0, 1) := List.eq_of_mem_replicate hc
    rw [this]; exact mh_nought _
  | i + 1 => by
    rw [Nat.succ_mul]
    exact mrow_mh i (mall_mh m N hp hq i) (hp i) hq m
set_option maxRecDepth 100000 in
set_option maxHeartbeats 16000000 in
theorem mulS7 (a : Option Addr) (n c : Nat) (l : List (QV × QD)) (a' : Option Addr) (n' c' : Nat) (l' : List (QV × QD)) (w : World) (h : PArQ w a n c l) (h' : PArQ w a' n' c' l') (hg : Gq l) (hg' : Gq l') (n7 : n ≤ 7) (n7' : n' ≤ 2) :
    Calls Tryz.prog 46 #[.slice a n c, .slice a' n' c'] w (OutCu w (mall (goods (l.map Prod.snd)) (goods (l'.map Prod.snd)) n' n (noughts (n + n')))) := by
  obtain ⟨i0, hi, hz0, hz1, hz2⟩ := info_parts Tryz.info32
  have HS := hide h
  have HS' := hide h'
  have HG := hide hg
  have HG' := hide hg'
  have GP : Hid (Gh (goods (l.map Prod.snd))) := hide (fun k => cf_good7 h hg k)
  have GQ : Hid (Gh (goods (l'.map Prod.snd))) := hide (fun k => cf_good7 h' hg' k)
  obtain ⟨N, hN⟩ : ∃ N, N = n + n' := ⟨_, rfl⟩
  rw [← hN]
  have N1 : N ≤ n + n' := by omega
  have N2 : n + n' ≤ N := by omega
  have N14 : N ≤ 14 := by omega
  clear h h' hg hg' hN
  go_enter Tryz.func46, Tryz.ntmps46
  go_wp2
  go_loopw [5, 6] (fun v iv wr => ∃ (k : Nat) (us : List (QV × QD)), k ≤ N ∧ iv = .int .i64 k ∧ us.length = k ∧ Hid (IsL (noughts k) (us.map Prod.snd)) ∧ Hid (wr.ownsRow w.heap.size 32 4 v k (flatC us)) ∧ Hid (Typ wr (zipPQ us)) ∧ Hid (AllAr wr (zipPQ us)) ∧ Hid (Below w.heap.size w wr)) (fun _ iv _ => N - (intOf iv).toNat)
  case atStart => exact ⟨0, [], Nat.zero_le _, rfl, rfl, hide trivial, hide ⟨rfl, .inl ⟨rfl, rfl⟩⟩, hide (fun p hp => by cases hp), hide (fun p hp => by cases hp), hide (Below.refl _ _)⟩
  case round =>
    obtain ⟨k, us, hk, rfl, hu, ED, OW, OO, AA, HB⟩ := hrel
    by_cases hlt : k < N
    · have hlt' : (k : Int) < (n : Int) + (n' : Int) := by omega
      go_wp2_with fail
      refine (wholeS 0 _ (by omega) (by omega)).mono ?_
      rintro e w3 ⟨u, lu, lv, rfl, hbx, o1, au, m1, m2⟩
      have tu := o1.typ
      have al : Below w3.heap.size w3 (w3.alloc (.cells #[.bool u.num.g, .slice u.num.a u.num.n u.num.c, .bool u.den.g, .slice u.den.a u.den.n u.den.c] 32)) := (Below.refl _ _).alloc (Nat.le_refl _) _
      have HB2 := hide (below_on (unhide HB) hbx)
      have HB3 := hide (below_on (unhide HB2) al)
      have OW2 := hide (owns_later (owns_later (unhide OW) hbx) al)
      have OO2 := hide ((((unhide OO).later hbx).append tu).later al)
      have AA2 := hide ((((unhide AA).later hbx).append au).later al)
      have NU := hide (And.intro m1 m2)
      have zv : w.heap.size ≤ w3.heap.size := (unhide HB2).size
      clear hbx o1 tu au m1 m2 al OW OO AA HB
      go_wp2_with (at_builtin; refine wpList_append_lies _ rfl (.tmp 20) (.tmp 22) 44 rfl w.heap.size 32 i0 (.agg #[.bool false, .slice none 0 0, .bool false, .slice none 0 0]) 4 64 Tryz.underlying44 hi hz0 hz1 hz2 rfl (by decide) _ k (flatC us) rfl (unhide OW2) ⟨w3.heap.size, 0, none⟩ 1 1 [.bool u.num.g, .slice u.num.a u.num.n u.num.c, .bool u.den.g, .slice u.den.a u.den.n u.den.c] rfl rfl (World.news_of_block (cs := #[.bool u.num.g, .slice u.num.a u.num.n u.num.c, .bool u.den.g, .slice u.den.a u.den.n u.den.c]) (t := 32) (fr := (0, 0)) (by show (w3.heap.push _)[w3.heap.size]? = _; simp)) (by intro u' hu'; simp at hu'; rcases hu' with rfl | rfl | rfl | rfl <;> rfl) (by omega) (by unfold maxLen; omega) (by omega) (by simp; omega) _ rfl ?_)
      intro g cap w4 hown hgrow hor hlt3
      have OW3 : Hid (w4.ownsRow w.heap.size 32 4 (.slice (some ⟨g, 0, none⟩) (k + 1) cap) (k + 1) (flatC (us ++ [(u, (⟨⟨decide ((0 : Int) < 0), lu⟩, ⟨decide ((1 : Int) < 0), lv⟩⟩ : QD))]))) := hide (by rw [flatC_append]; exact hown)
      have OO3 := hide ((unhide OO2).grown hgrow (unhide OW2))
      have AA3 : Hid (AllAr w4 (zipPQ (us ++ [(u, (⟨⟨decide ((0 : Int) < 0), lu⟩, ⟨decide ((1 : Int) < 0), lv⟩⟩ : QD))]))) := hide (by rw [zipPQ_append, zipPQ_one]; exact Typ.ar (unhide OO3) (unhide AA2))
      have OO4 : Hid (Typ w4 (zipPQ (us ++ [(u, (⟨⟨decide ((0 : Int) < 0), lu⟩, ⟨decide ((1 : Int) < 0), lv⟩⟩ : QD))]))) := hide (by rw [zipPQ_append, zipPQ_one]; exact unhide OO3)
      have HB4 := hide ((unhide HB3).grown hgrow (unhide HB3).size (owns_base (unhide OW2)))
      have ED3 : Hid (IsL (noughts (k + 1)) ((us ++ [(u, (⟨⟨decide ((0 : Int) < 0), lu⟩, ⟨decide ((1 : Int) < 0), lv⟩⟩ : QD))]).map Prod.snd)) := hide (by rw [noughts_snoc]; exact isL_snoc (unhide ED) (unhide NU).1 (unhide NU).2)
      clear hown hgrow hor hlt3 OW2 OO2 AA2 HB2 HB3 OO3
      go_wp2
      go_roundw
      case rel => exact ⟨k + 1, us ++ [(u, (⟨⟨decide ((0 : Int) < 0), lu⟩, ⟨decide ((1 : Int) < 0), lv⟩⟩ : QD))], by omega, by go_num, by simp [hu], ED3, OW3, OO4, AA3, HB4⟩
      case measure => simp [intOf]; omega
    · obtain rfl : N = k := by omega
      have hlt' : ¬ ((N : Int) < (n : Int) + (n' : Int)) := by omega
      clear hi hz0 hz1 hz2
      obtain ⟨a0, cap, rfl, hnone, pa⟩ := owns_arg (unhide OW) hu (unhide AA)
      have GL : Hid (N = 0 ∨ ∃ b off, a0 = some ⟨b, off, none⟩ ∧ b < wr.heap.size) := hide (by
        rcases pa.at_ with e | ⟨b, off, e, hb, _⟩
        · exact .inl (by rw [← hu, e]; rfl)
        · exact .inr ⟨b, off, e, hb⟩)
      have HNO := hide hnone
      clear pa hnone
      obtain ⟨ws, hws⟩ : ∃ x, x = wr := ⟨_, rfl⟩
      subst hws
      go_wp2
      go_loopw [26] (fun iv wp => ∃ (i : Nat) (us : List (QV × QD)), i ≤ n ∧ iv = .int .i64 i ∧ us.length = N ∧ ws.heap.size ≤ wp.heap.size ∧ Hid (IsL (mall (goods (l.map Prod.snd)) (goods (l'.map Prod.snd)) n' i (noughts N)) (us.map Prod.snd)) ∧ Hid (wp.ownsRow w.heap.size 32 4 (.slice a0 N cap) N (flatC us)) ∧ Hid (Typ wp (zipPQ us)) ∧ Hid (AllAr wp (zipPQ us)) ∧ Hid (Below w.heap.size w wp)) (fun iv _ => n - (intOf iv).toNat)
      case atStart => exact ⟨0, us, Nat.zero_le _, rfl, hu, Nat.le_refl _, ED, OW, OO, AA, HB⟩
      case round =>
        clear ED OW OO AA HB hu us
        obtain ⟨i, us, hi, rfl, hu, zp, ED, OW, OO, AA, HB⟩ := hrel
        obtain ⟨wp, hwp⟩ : ∃ x, x = wr := ⟨_, rfl⟩
        subst hwp
        by_cases hlt : i < n
        · have hlt' : (i : Int) < (n : Int) := by omega
          rcases (unhide HS).at_ with e | ⟨b, off, ea, hb, hc⟩
          · exact absurd (unhide HS).len (by rw [e]; simp; omega)
          subst ea
          have e0 := hc i (by rw [(unhide HS).len]; exact hlt)
          obtain ⟨y, hy⟩ : ∃ y, y = l[i]'(by rw [(unhide HS).len]; exact hlt) := ⟨_, rfl⟩
          rw [← hy] at e0
          have MY : Hid (y ∈ l) := hide (by rw [hy]; exact List.getElem_mem _)
          have CY := hide (cf_in (by rw [(unhide HS).len]; exact hlt) hy)
          clear hy
          have E0 : wp.cell? ⟨b, off + i * 4, none⟩ = some (.bool y.1.num.g) := ((unhide HB).cell (p := ⟨b, off + i * 4, none⟩) hb).trans (e0.1)
          have E1 : wp.cell? ⟨b, off + i * 4 + 1, none⟩ = some (.slice y.1.num.a y.1.num.n y.1.num.c) := ((unhide HB).cell (p := ⟨b, off + i * 4 + 1, none⟩) hb).trans (e0.2.1)
          have E2 : wp.cell? ⟨b, off + i * 4 + 2, none⟩ = some (.bool y.1.den.g) := ((unhide HB).cell (p := ⟨b, off + i * 4 + 2, none⟩) hb).trans (e0.2.2.1)
          have E3 : wp.cell? ⟨b, off + i * 4 + 3, none⟩ = some (.slice y.1.den.a y.1.den.n y.1.den.c) := ((unhide HB).cell (p := ⟨b, off + i * 4 + 3, none⟩) hb).trans (e0.2.2.2)
          clear e0 hc
          have JY := hide ((good7_of_mem (unhide HS) (unhide HG) (unhide MY)).later (unhide HB))
          go_wp2
          have al : Below wp.heap.size wp (wp.alloc (.cells #[.bool y.1.num.g, .slice y.1.num.a y.1.num.n y.1.num.c, .bool y.1.den.g, .slice y.1.den.a y.1.den.n y.1.den.c] 32)) := (Below.refl _ _).alloc (Nat.le_refl _) _
          have T0 : (wp.alloc (.cells #[.bool y.1.num.g, .slice y.1.num.a y.1.num.n y.1.num.c, .bool y.1.den.g, .slice y.1.den.a y.1.den.n y.1.den.c] 32)).cell? ⟨wp.heap.size, 0, none⟩ = some (.bool y.1.num.g) := by simp [go_sem]
          have T1 : (wp.alloc (.cells #[.bool y.1.num.g, .slice y.1.num.a y.1.num.n y.1.num.c, .bool y.1.den.g, .slice y.1.den.a y.1.den.n y.1.den.c] 32)).cell? ⟨wp.heap.size, 1, none⟩ = some (.slice y.1.num.a y.1.num.n y.1.num.c) := by simp [go_sem]
          have T2 : (wp.alloc (.cells #[.bool y.1.num.g, .slice y.1.num.a y.1.num.n y.1.num.c, .bool y.1.den.g, .slice y.1.den.a y.1.den.n y.1.den.c] 32)).cell? ⟨wp.heap.size, 2, none⟩ = some (.bool y.1.den.g) := by simp [go_sem]
          have T3 : (wp.alloc (.cells #[.bool y.1.num.g, .slice y.1.num.a y.1.num.n y.1.num.c, .bool y.1.den.g, .slice y.1.den.a y.1.den.n y.1.den.c] 32)).cell? ⟨wp.heap.size, 3, none⟩ = some (.slice y.1.den.a y.1.den.n y.1.den.c) := by simp [go_sem]
          have sp : wp.heap.size < (wp.alloc (.cells #[.bool y.1.num.g, .slice y.1.num.a y.1.num.n y.1.num.c, .bool y.1.den.g, .slice y.1.den.a y.1.den.n y.1.den.c] 32)).heap.size := by simp
          replace JY := hide ((unhide JY).later al)
          replace HB := hide (below_on (unhide HB) al)
          replace OW := hide (owns_later (unhide OW) al)
          replace OO := hide ((unhide OO).later al)
          replace AA := hide ((unhide AA).later al)
          clear al E0 E1 E2 E3
          go_loopw [33] (fun jv wq => ∃ (j : Nat) (us : List (QV × QD)), j ≤ n' ∧ jv = .int .i64 j ∧ us.length = N ∧ ws.heap.size ≤ wq.heap.size ∧ Hid (IsL (mrow (cf (goods (l.map Prod.snd)) i) (goods (l'.map Prod.snd)) i j (mall (goods (l.map Prod.snd)) (goods (l'.map Prod.snd)) n' i (noughts N))) (us.map Prod.snd)) ∧ Hid (wq.ownsRow w.heap.size 32 4 (.slice a0 N cap) N (flatC us)) ∧ Hid (Typ wq (zipPQ us)) ∧ Hid (AllAr wq (zipPQ us)) ∧ Hid (Below w.heap.size w wq) ∧ wp.heap.size < wq.heap.size ∧ Hid (IsGk wq y.1 y.2) ∧ Hid (wq.cell? ⟨wp.heap.size, 0, none⟩ = some (.bool y.1.num.g)) ∧ Hid (wq.cell? ⟨wp.heap.size, 1, none⟩ = some (.slice y.1.num.a y.1.num.n y.1.num.c)) ∧ Hid (wq.cell? ⟨wp.heap.size, 2, none⟩ = some (.bool y.1.den.g)) ∧ Hid (wq.cell? ⟨wp.heap.size, 3, none⟩ = some (.slice y.1.den.a y.1.den.n y.1.den.c))) (fun jv _ => n' - (intOf jv).toNat)
          case atStart => exact ⟨0, us, Nat.zero_le _, rfl, hu, by omega, ED, OW, OO, AA, HB, sp, JY, hide T0, hide T1, hide T2, hide T3⟩
          case round =>
            clear ED OW OO AA HB hu us sp JY T0 T1 T2 T3
            obtain ⟨j, us, hj, rfl, hu, z1, ED, OW, OO, AA, HB, zq, JY, T0, T1, T2, T3⟩ := hrel
            obtain ⟨wq, hwq⟩ : ∃ x, x = wr := ⟨_, rfl⟩
            subst hwq
            replace T0 := unhide T0
            replace T1 := unhide T1
            replace T2 := unhide T2
            replace T3 := unhide T3
            by_cases hjm : j < n'
            · have hjm' : (j : Int) < (n' : Int) := by omega
              have hk : i + j < N := by omega
              have k0 : (0 : Int) ≤ (i : Int) + (j : Int) := by omega
              have k1 : (i : Int) + (j : Int) < (N : Int) := by omega
              have k2 : ((i : Int) + (j : Int)).toNat = i + j := by omega
              have iw : IntKind.i64.wrap ((i : Int) + (j : Int)) = (i : Int) + (j : Int) := by rw [IntKind.wrap_i64]; omega
              obtain ⟨g, ea0, glt⟩ : ∃ g, a0 = some ⟨g, 0, none⟩ ∧ g < ws.heap.size := by
                rcases (unhide OW).2 with ⟨h', _⟩ | ⟨g', cap', cur, hv, _, hgt, _⟩
                · simp only [Value.slice.injEq] at h'
                  omega
                · simp only [Value.slice.injEq] at hv
                  refine ⟨g', hv.1, ?_⟩
                  rcases unhide GL with e | ⟨b1, off1, e1, h1⟩
                  · omega
                  · rw [hv.1] at e1
                    simp only [Option.some.injEq, Addr.mk.injEq] at e1
                    omega
              have gb : w.heap.size ≤ g := by
                refine owns_base (unhide OW) g ?_
                rw [ea0]
                rfl
              subst ea0
              rcases (unhide HS').at_ with e | ⟨b', off', ea, hb', hc'⟩
              · exact absurd (unhide HS').len (by rw [e]; simp; omega)
              subst ea
              have e0 := hc' j (by rw [(unhide HS').len]; exact hjm)
              obtain ⟨z, hz⟩ : ∃ z, z = l'[j]'(by rw [(unhide HS').len]; exact hjm) := ⟨_, rfl⟩
              rw [← hz] at e0
              have MZ : Hid (z ∈ l') := hide (by rw [hz]; exact List.getElem_mem _)
              have CZ := hide (cf_in (by rw [(unhide HS').len]; exact hjm) hz)
              clear hz
              have E0 : wq.cell? ⟨b', off' + j * 4, none⟩ = some (.bool z.1.num.g) := ((unhide HB).cell (p := ⟨b', off' + j * 4, none⟩) hb').trans (e0.1)
              have E1 : wq.cell? ⟨b', off' + j * 4 + 1, none⟩ = some (.slice z.1.num.a z.1.num.n z.1.num.c) := ((unhide HB).cell (p := ⟨b', off' + j * 4 + 1, none⟩) hb').trans (e0.2.1)
              have E2 : wq.cell? ⟨b', off' + j * 4 + 2, none⟩ = some (.bool z.1.den.g) := ((unhide HB).cell (p := ⟨b', off' + j * 4 + 2, none⟩) hb').trans (e0.2.2.1)
              have E3 : wq.cell? ⟨b', off' + j * 4 + 3, none⟩ = some (.slice z.1.den.a z.1.den.n z.1.den.c) := ((unhide HB).cell (p := ⟨b', off' + j * 4 + 3, none⟩) hb').trans (e0.2.2.2)
              clear e0 hc'
              have JZ := hide ((good7_of_mem (unhide HS') (unhide HG') (unhide MZ)).later (unhide HB))
              have MG : Hid (Mh (i * n' + j) (cf (mrow (cf (goods (l.map Prod.snd)) i) (goods (l'.map Prod.snd)) i j (mall (goods (l.map Prod.snd)) (goods (l'.map Prod.snd)) n' i (noughts N))) (i + j))) := hide ((mrow_mh i (mall_mh n' N (unhide GP) (unhide GQ) i) ((unhide GP) i) (unhide GQ) j).cf (i + j))
              have tb : i * n' + j ≤ 14 := by
                have q1 : i * n' ≤ 6 * n' := Nat.mul_le_mul_right _ (by omega)
                omega
              have TB := hide tb
              clear tb
              obtain ⟨x, hx⟩ : ∃ x, x = us[i + j]'(by omega) := ⟨_, rfl⟩
              have MX : Hid (x ∈ us) := hide (by rw [hx]; exact List.getElem_mem _)
              have sx := flatC_get us (i + j) (by omega)
              rw [← hx] at sx
              have hM := unhide OW
              have S0 : wq.cell? ⟨g, (i + j) * 4, none⟩ = some (.bool x.1.num.g) := (hM.cellAt _ (by omega)).trans (sx.1)
              have S1 : wq.cell? ⟨g, (i + j) * 4 + 1, none⟩ = some (.slice x.1.num.a x.1.num.n x.1.num.c) := (hM.cellAt _ (by omega)).trans (sx.2.1)
              have S2 : wq.cell? ⟨g, (i + j) * 4 + 2, none⟩ = some (.bool x.1.den.g) := (hM.cellAt _ (by omega)).trans (sx.2.2.1)
              have S3 : wq.cell? ⟨g, (i + j) * 4 + 3, none⟩ = some (.slice x.1.den.a x.1.den.n x.1.den.c) := (hM.cellAt _ (by omega)).trans (sx.2.2.2)
              have CX : Hid (IsD (cf (mrow (cf (goods (l.map Prod.snd)) i) (goods (l'.map Prod.snd)) i j (mall (goods (l.map Prod.snd)) (goods (l'.map Prod.snd)) n' i (noughts N))) (i + j)) x.2) := hide (by
                have k1 : i + j < (mrow (cf (goods (l.map Prod.snd)) i) (goods (l'.map Prod.snd)) i j (mall (goods (l.map Prod.snd)) (goods (l'.map Prod.snd)) n' i (noughts N))).length := by rw [mrow_len, mall_len]; unfold noughts; simp; exact hk
                refine (unhide ED).get (i + j) (c := cf (mrow (cf (goods (l.map Prod.snd)) i) (goods (l'.map Prod.snd)) i j (mall (goods (l.map Prod.snd)) (goods (l'.map Prod.snd)) n' i (noughts N))) (i + j)) ?_ (by rw [List.getElem?_map, List.getElem?_eq_getElem (by omega), ← hx]; rfl)
                exact cf_get k1)
              clear sx hM hx
              have GY := hide ((unhide GP) i)
              have GZ := hide ((unhide GQ) j)
              have ES : Hid (mrow (cf (goods (l.map Prod.snd)) i) (goods (l'.map Prod.snd)) i (j + 1) (mall (goods (l.map Prod.snd)) (goods (l'.map Prod.snd)) n' i (noughts N)) = (mrow (cf (goods (l.map Prod.snd)) i) (goods (l'.map Prod.snd)) i j (mall (goods (l.map Prod.snd)) (goods (l'.map Prod.snd)) n' i (noughts N))).set (i + j) (mulAt (cf (mrow (cf (goods (l.map Prod.snd)) i) (goods (l'.map Prod.snd)) i j (mall (goods (l.map Prod.snd)) (goods (l'.map Prod.snd)) n' i (noughts N))) (i + j)) (cf (goods (l.map Prod.snd)) i) (cf (goods (l'.map Prod.snd)) j))) := hide rfl
              obtain ⟨CS2, hCS2⟩ : ∃ CS2, CS2 = mrow (cf (goods (l.map Prod.snd)) i) (goods (l'.map Prod.snd)) i (j + 1) (mall (goods (l.map Prod.snd)) (goods (l'.map Prod.snd)) n' i (noughts N)) := ⟨_, rfl⟩
              rw [← hCS2] at ES
              have HC2 := hide hCS2
              clear hCS2
              generalize mrow (cf (goods (l.map Prod.snd)) i) (goods (l'.map Prod.snd)) i j (mall (goods (l.map Prod.snd)) (goods (l'.map Prod.snd)) n' i (noughts N)) = CS at *
              generalize cf (goods (l.map Prod.snd)) i = cy at *
              generalize cf (goods (l'.map Prod.snd)) j = cz at *
              obtain ⟨cx, hcx⟩ : ∃ cx, cx = cf CS (i + j) := ⟨_, rfl⟩
              rw [← hcx] at MG CX ES
              clear hcx
              go_upto_region 12 with fail
              have al : Below wq.heap.size wq (wq.alloc (.cells #[.bool z.1.num.g, .slice z.1.num.a z.1.num.n z.1.num.c, .bool z.1.den.g, .slice z.1.den.a z.1.den.n z.1.den.c] 32)) := (Below.refl _ _).alloc (Nat.le_refl _) _
              replace S0 : (wq.alloc (.cells #[.bool z.1.num.g, .slice z.1.num.a z.1.num.n z.1.num.c, .bool z.1.den.g, .slice z.1.den.a z.1.den.n z.1.den.c] 32)).cell? ⟨g, (i + j) * 4, none⟩ = some (.bool x.1.num.g) := ca_other S0
              replace S1 : (wq.alloc (.cells #[.bool z.1.num.g, .slice z.1.num.a z.1.num.n z.1.num.c, .bool z.1.den.g, .slice z.1.den.a z.1.den.n z.1.den.c] 32)).cell? ⟨g, (i + j) * 4 + 1, none⟩ = some (.slice x.1.num.a x.1.num.n x.1.num.c) := ca_other S1
              replace S2 : (wq.alloc (.cells #[.bool z.1.num.g, .slice z.1.num.a z.1.num.n z.1.num.c, .bool z.1.den.g, .slice z.1.den.a z.1.den.n z.1.den.c] 32)).cell? ⟨g, (i + j) * 4 + 2, none⟩ = some (.bool x.1.den.g) := ca_other S2
              replace S3 : (wq.alloc (.cells #[.bool z.1.num.g, .slice z.1.num.a z.1.num.n z.1.num.c, .bool z.1.den.g, .slice z.1.den.a z.1.den.n z.1.den.c] 32)).cell? ⟨g, (i + j) * 4 + 3, none⟩ = some (.slice x.1.den.a x.1.den.n x.1.den.c) := ca_other S3
              replace T0 : (wq.alloc (.cells #[.bool z.1.num.g, .slice z.1.num.a z.1.num.n z.1.num.c, .bool z.1.den.g, .slice z.1.den.a z.1.den.n z.1.den.c] 32)).cell? ⟨wp.heap.size, 0, none⟩ = some (.bool y.1.num.g) := ca_other T0
              replace T1 : (wq.alloc (.cells #[.bool z.1.num.g, .slice z.1.num.a z.1.num.n z.1.num.c, .bool z.1.den.g, .slice z.1.den.a z.1.den.n z.1.den.c] 32)).cell? ⟨wp.heap.size, 1, none⟩ = some (.slice y.1.num.a y.1.num.n y.1.num.c) := ca_other T1
              replace T2 : (wq.alloc (.cells #[.bool z.1.num.g, .slice z.1.num.a z.1.num.n z.1.num.c, .bool z.1.den.g, .slice z.1.den.a z.1.den.n z.1.den.c] 32)).cell? ⟨wp.heap.size, 2, none⟩ = some (.bool y.1.den.g) := ca_other T2
              replace T3 : (wq.alloc (.cells #[.bool z.1.num.g, .slice z.1.num.a z.1.num.n z.1.num.c, .bool z.1.den.g, .slice z.1.den.a z.1.den.n z.1.den.c] 32)).cell? ⟨wp.heap.size, 3, none⟩ = some (.slice y.1.den.a y.1.den.n y.1.den.c) := ca_other T3
              have U0 : (wq.alloc (.cells #[.bool z.1.num.g, .slice z.1.num.a z.1.num.n z.1.num.c, .bool z.1.den.g, .slice z.1.den.a z.1.den.n z.1.den.c] 32)).cell? ⟨wq.heap.size, 0, none⟩ = some (.bool z.1.num.g) := by simp [go_sem]
              have U1 : (wq.alloc (.cells #[.bool z.1.num.g, .slice z.1.num.a z.1.num.n z.1.num.c, .bool z.1.den.g, .slice z.1.den.a z.1.den.n z.1.den.c] 32)).cell? ⟨wq.heap.size, 1, none⟩ = some (.slice z.1.num.a z.1.num.n z.1.num.c) := by simp [go_sem]
              have U2 : (wq.alloc (.cells #[.bool z.1.num.g, .slice z.1.num.a z.1.num.n z.1.num.c, .bool z.1.den.g, .slice z.1.den.a z.1.den.n z.1.den.c] 32)).cell? ⟨wq.heap.size, 2, none⟩ = some (.bool z.1.den.g) := by simp [go_sem]
              have U3 : (wq.alloc (.cells #[.bool z.1.num.g, .slice z.1.num.a z.1.num.n z.1.num.c, .bool z.1.den.g, .slice z.1.den.a z.1.den.n z.1.den.c] 32)).cell? ⟨wq.heap.size, 3, none⟩ = some (.slice z.1.den.a z.1.den.n z.1.den.c) := by simp [go_sem]
              replace JY := hide ((unhide JY).later al)
              replace JZ := hide ((unhide JZ).later al)
              replace HB := hide (below_on (unhide HB) al)
              replace OW := hide (owns_later (unhide OW) al)
              replace OO := hide ((unhide OO).later al)
              replace AA := hide ((unhide AA).later al)
              have sza := al.size
              have nwr : wq.heap.size ≠ g := by omega
              clear al E0 E1 E2 E3
              generalize (wq.alloc (.cells #[.bool z.1.num.g, .slice z.1.num.a z.1.num.n z.1.num.c, .bool z.1.den.g, .slice z.1.den.a z.1.den.n z.1.den.c] 32)) = w1 at *
              have IX : Hid (IsQ w1 x.1 cx.1 cx.2) := hide (isQ_isD (zip_ar (unhide AA) x (unhide MX)) (unhide CX))
              have IY : Hid (IsQ w1 y.1 cy.1 cy.2) := hide (by rw [unhide CY]; exact (unhide JY).is)
              have IZ : Hid (IsQ w1 z.1 cz.1 cz.2) := hide (by rw [unhide CZ]; exact (unhide JZ).is)
              have MM := hide (mul_midh (unhide GY) (unhide GZ))
              have TB2 : i * n' + j ≤ 14 := unhide TB
              have SD0 := cd_other S0
              have SD1 := cd_other S1
              have SD2 := cd_other S2
              have SD3 := cd_other S3
              have TD0 := cd_other T0
              have TD1 := cd_other T1
              have TD2 := cd_other T2
              have TD3 := cd_other T3
              have UD0 := cd_other U0
              have UD1 := cd_other U1
              have UD2 := cd_other U2
              have UD3 := cd_other U3
              go_region_with
                (first
                | (go_at_call 89; refine (mulQS y.1 z.1 cy.1 cy.2 cz.1 cz.2 _ ?_ ?_ (sum_ne (unhide GY).1 (unhide GZ).1) ((unhide GY).2.1.mono (by omega)) ((unhide GY).2.2.mono (by omega)) ((unhide GZ).2.1.mono (by omega)) ((unhide GZ).2.2.mono (by omega))).mono ?_; exact (unhide IY).drew; exact (unhide IZ).drew; rintro e w2 ⟨mm, rfl, hb1, o2, o2'⟩; have hbx := below_of_drew hb1; have sz2 := hbx.size; have IM : Hid (IsQ w2 mm (lowN (cy.1 * cz.1) (cy.2 * cz.2)) (lowD (cy.1 * cz.1) (cy.2 * cz.2))) := hide ⟨o2.is, o2'.is⟩; replace S0 := cell_later hbx S0; replace S1 := cell_later hbx S1; replace S2 := cell_later hbx S2; replace S3 := cell_later hbx S3; replace T0 := cell_later hbx T0; replace T1 := cell_later hbx T1; replace T2 := cell_later hbx T2; replace T3 := cell_later hbx T3; replace U0 := cell_later hbx U0; replace U1 := cell_later hbx U1; replace U2 := cell_later hbx U2; replace U3 := cell_later hbx U3; replace IX := hide ((unhide IX).later hbx); replace HB := hide (below_on (unhide HB) hbx); replace OW := hide (owns_later (unhide OW) hbx); replace OO := hide ((unhide OO).later hbx); replace AA := hide ((unhide AA).later hbx); replace JY := hide ((unhide JY).later hbx); clear hbx hb1 o2 o2' SD0 SD1 SD2 SD3 TD0 TD1 TD2 TD3 UD0 UD1 UD2 UD3)
                | (go_at_call 87; refine (addQS x.1 mm cx.1 cx.2 (lowN (cy.1 * cz.1) (cy.2 * cz.2)) (lowD (cy.1 * cz.1) (cy.2 * cz.2)) _ (unhide IX) (unhide IM) (sum_ne (unhide MG).low.pos (unhide MM).1) ((unhide MG).kn.mono (by omega)) ((unhide MG).kd.mono (by omega)) ((unhide MM).2.1.mono (by omega)) ((unhide MM).2.2.mono (by omega))).mono ?_; rintro e w3 ⟨u, rfl, hb2, o3, o3'⟩; have sz3 := hb2.size; obtain ⟨lu, lv, tu, au, m1, m2⟩ := ow_two' (N := (mulAt cx cy cz).1) (D := (mulAt cx cy cz).2) o3 o3'; have TU := hide tu; have AV := hide au; have NU := hide (And.intro m1 m2); replace T0 := cell_later hb2 T0; replace T1 := cell_later hb2 T1; replace T2 := cell_later hb2 T2; replace T3 := cell_later hb2 T3; replace HB := hide (below_on (unhide HB) hb2); replace OW := hide (owns_later (unhide OW) hb2); replace OO := hide ((unhide OO).later hb2); replace AA := hide ((unhide AA).later hb2); replace JY := hide ((unhide JY).later hb2); have hM := unhide OW; obtain ⟨x_0, old0⟩ : ∃ x, w3.cell? ⟨g, (i + j) * 4, none⟩ = some x := ⟨_, (hM.cellAt _ (by omega)).trans (List.getElem?_eq_getElem (by rw [flatC_len]; omega))⟩; obtain ⟨x_1, old1⟩ : ∃ x, w3.cell? ⟨g, (i + j) * 4 + 1, none⟩ = some x := ⟨_, (hM.cellAt _ (by omega)).trans (List.getElem?_eq_getElem (by rw [flatC_len]; omega))⟩; obtain ⟨x_2, old2⟩ : ∃ x, w3.cell? ⟨g, (i + j) * 4 + 2, none⟩ = some x := ⟨_, (hM.cellAt _ (by omega)).trans (List.getElem?_eq_getElem (by rw [flatC_len]; omega))⟩; obtain ⟨x_3, old3⟩ : ∃ x, w3.cell? ⟨g, (i + j) * 4 + 3, none⟩ = some x := ⟨_, (hM.cellAt _ (by omega)).trans (List.getElem?_eq_getElem (by rw [flatC_len]; omega))⟩; have fr : ∀ o, w3.frozen? ⟨g, o, none⟩ = false := fun o => hM.frozenAt o; clear hM hb2 o3 o3' tu au m1 m2 S0 S1 S2 S3 U0 U1 U2 U3 IX IM))
              all_goals go_wp2
              all_goals go_roundw
              all_goals (first | (simp [intOf]; omega; done) | skip)
              all_goals
                have hM := unhide OW
                have bt : But g (g + 1) w3 ((((w3.setCell ⟨g, (i + j) * 4, none⟩ (.bool u.num.g)).setCell ⟨g, (i + j) * 4 + 1, none⟩ (.slice u.num.a u.num.n u.num.c)).setCell ⟨g, (i + j) * 4 + 2, none⟩ (.bool u.den.g)).setCell ⟨g, (i + j) * 4 + 3, none⟩ (.slice u.den.a u.den.n u.den.c)) := but_rowQ
                have row : ((((w3.setCell ⟨g, (i + j) * 4, none⟩ (.bool u.num.g)).setCell ⟨g, (i + j) * 4 + 1, none⟩ (.slice u.num.a u.num.n u.num.c)).setCell ⟨g, (i + j) * 4 + 2, none⟩ (.bool u.den.g)).setCell ⟨g, (i + j) * 4 + 3, none⟩ (.slice u.den.a u.den.n u.den.c)).ownsRow w.heap.size 32 4 (.slice (some ⟨g, 0, none⟩) N cap) N (flatC (us.set (i + j) (u, (⟨⟨decide ((mulAt cx cy cz).1 < 0), lu⟩, ⟨decide ((mulAt cx cy cz).2 < 0), lv⟩⟩ : QD)))) := by
                  rw [← flatC_set us (i + j) u (⟨⟨decide ((mulAt cx cy cz).1 < 0), lu⟩, ⟨decide ((mulAt cx cy cz).2 < 0), lv⟩⟩ : QD) (by omega)]
                  exact (World.ownsRow.stored (World.ownsRow.stored (World.ownsRow.stored (World.ownsRow.stored hM ((i + j) * 4) (.bool u.num.g)).1 ((i + j) * 4 + 1) (.slice u.num.a u.num.n u.num.c)).1 ((i + j) * 4 + 2) (.bool u.den.g)).1 ((i + j) * 4 + 3) (.slice u.den.a u.den.n u.den.c)).1
                have ty := typ_set (k := i + j) (u := u) (d := (⟨⟨decide ((mulAt cx cy cz).1 < 0), lu⟩, ⟨decide ((mulAt cx cy cz).2 < 0), lv⟩⟩ : QD)) (unhide OO) (unhide TU)
                have ar := ar_set (k := i + j) (u := u) (d := (⟨⟨decide ((mulAt cx cy cz).1 < 0), lu⟩, ⟨decide ((mulAt cx cy cz).2 < 0), lv⟩⟩ : QD)) (unhide AA) (unhide AV)
                have ty2 := ty.grown (v := .slice (some ⟨g, 0, none⟩) N cap) bt.grown hM
                have hbw := bt.below (unhide HB) gb (by have := (unhide HB).size; omega)
                refine ⟨j + 1, us.set (i + j) (u, (⟨⟨decide ((mulAt cx cy cz).1 < 0), lu⟩, ⟨decide ((mulAt cx cy cz).2 < 0), lv⟩⟩ : QD)), by omega, by go_num, by simp [hu], Nat.le_trans (by omega) bt.size, hide ?_, hide row, hide ty2, hide (Typ.ar ty2 ar), hide hbw, Nat.lt_of_lt_of_le (by omega) bt.size, hide ((good7_of_mem (unhide HS) (unhide HG) (unhide MY)).later hbw), hide (bt.cell T0 (.inr (by omega))), hide (bt.cell T1 (.inr (by omega))), hide (bt.cell T2 (.inr (by omega))), hide (bt.cell T3 (.inr (by omega)))⟩
                rw [← unhide HC2, unhide ES, List.map_set]
                exact (unhide ED).set (i + j) ⟨rfl, (unhide NU).1, rfl, (unhide NU).2⟩
            · obtain rfl : n' = j := by omega
              clear T0 T1 T2 T3 JY
              go_wp2
              go_roundw
              case rel => exact ⟨i + 1, us, by omega, by go_num, hu, z1, ED, OW, OO, AA, HB⟩
              case measure => simp [intOf]; omega
        · obtain rfl : n = i := by omega
          obtain ⟨a1, cap1, hv, hn1, pa⟩ := owns_arg (unhide OW) hu (unhide AA)
          simp only [Value.slice.injEq, true_and] at hv
          obtain ⟨e1, e2⟩ := hv
          subst e1 e2
          have PA := hide pa
          clear pa hn1
          go_wp2_with fail
          refine (cutS_v a0 N cap us _ (unhide PA) (by omega) (unhide HNO)).mono ?_
          rintro e w9 ⟨a9, m9, c9, rfl, hb9, ct9, p9⟩
          replace HB := hide (below_on (unhide HB) hb9)
          have CT := hide ct9
          have P9 := hide p9
          clear hb9 ct9 p9
          go_wp2
          go_ret
          exact ⟨_, _, _, us, rfl, unhide HB, unhide ED, unhide CT, unhide P9⟩
end Go.Proofs.YtcbmecnipldcfaaGreat
namespace Go.Proofs.YtcbmecnipldcfaaGreat
open Go.RowKit
set_option linter.unusedVariables false
set_option maxRecDepth 100000
set_option linter.unusedSimpArgs false

def pv (out : List Rat) (j : Nat) : Rat := if j = 0 then 0 else ct out (j - 1)
theorem pv_zero (out : List Rat) : pv out 0 = 0 := rfl
theorem pv_succ (out : List Rat) (j : Nat) : pv out (j + 1) = ct out j := rfl
theorem ct_rep (N j : Nat) : ct (List.replicate N 0) j = 0 := by
  unfold ct
  rw [List.getElem?_replicate]
  split <;> rfl
theorem mll_ct (out : List Rat) (A : Rat) (N : Nat) (hN : out.length + 2 ≤ N) : ∀ i, i ≤ out.length → (mll out [A, 1] 2 i (List.replicate N 0)).length = N ∧ ∀ j, ct (mll out [A, 1] 2 i (List.replicate N 0)) j = if j < i then pv out j + ct out j * A else if j = i then pv out j else 0
  | 0, h => by
    refine ⟨by show (List.replicate N 0).length = N; simp, fun j => ?_⟩
    show ct (List.replicate N 0) j = _
    rw [ct_rep, if_neg (by omega)]
    split
    · rename_i e; rw [e]; rfl
    · rfl
  | i + 1, h => by
    obtain ⟨l0, ih⟩ := mll_ct out A N hN i (by omega)
    obtain ⟨L, hL⟩ : ∃ L, L = mll out [A, 1] 2 i (List.replicate N 0) := ⟨_, rfl⟩
    rw [← hL] at l0 ih
    have e : mll out [A, 1] 2 (i + 1) (List.replicate N 0) = (L.set i (ct L i + ct out i * A)).set (i + 1) (ct (L.set i (ct L i + ct out i * A)) (i + 1) + ct out i * 1) := by rw [hL]; rfl
    rw [e]
    refine ⟨by simp [l0], fun j => ?_⟩
    have c1 : ct (L.set i (ct L i + ct out i * A)) (i + 1) = ct L (i + 1) := by rw [ct_set (by omega), if_neg (by omega)]
    have c2 : ct (L.set i (ct L i + ct out i * A)) j = if j = i then ct L i + ct out i * A else ct L j := ct_set (by omega)
    rw [ct_set (by simp; omega), c1, c2, ih (i + 1), ih i, ih j]
    rw [if_neg (show ¬ i + 1 < i by omega), if_neg (show ¬ i + 1 = i by omega), if_neg (Nat.lt_irrefl i), if_pos rfl]
    by_cases e1 : j = i + 1
    · subst e1
      rw [if_pos rfl, if_neg (Nat.lt_irrefl _), if_pos rfl, pv_succ]
      grind
    · rw [if_neg e1]
      by_cases e2 : j = i
      · subst e2
        rw [if_pos rfl, if_pos (by omega)]
      · rw [if_neg e2]
        by_cases e3 : j < i
        · rw [if_pos e3, if_pos (by omega)]
        · rw [if_neg e3, if_neg e2, if_neg (by omega), if_neg e1]
/-- The product with x and A. -/
def cv (A : Rat) (out : List Rat) : List Rat := mll out [A, 1] 2 out.length (List.replicate (out.length + 2) 0)
theorem cv_len (A : Rat) (out : List Rat) : (cv A out).length = out.length + 2 := (mll_ct out A (out.length + 2) (Nat.le_refl _) out.length (Nat.le_refl _)).1
theorem cv_ct (A : Rat) (out : List Rat) (j : Nat) : ct (cv A out) j = if j ≤ out.length then pv out j + ct out j * A else 0 := by
  have h := (mll_ct out A (out.length + 2) (Nat.le_refl _) out.length (Nat.le_refl _)).2 j
  unfold cv
  rw [h]
  by_cases e : j < out.length
  · rw [if_pos e, if_pos (by omega)]
  · rw [if_neg e]
    by_cases e2 : j = out.length
    · subst e2
      rw [if_pos rfl, if_pos (Nat.le_refl _), ct_out (Nat.le_refl _)]
      grind
    · rw [if_neg e2, if_neg (by omega)]
theorem stp_ct (A : Rat) : ∀ (u : List Rat) (j : Nat), ct (stp A u) j = ct u j + ct u (j + 1) * A
  | [], j => by show ct [] j = _; rw [ct_nil, ct_nil]; grind
  | [x], 0 => by show x = x + ct [x] 1 * A; rw [show ct [x] 1 = 0 from rfl]; grind
  | [x], j + 1 => by show ct [x] (j + 1) = _; rw [show ct [x] (j + 1) = 0 from rfl, show ct [x] (j + 1 + 1) = 0 from rfl]; grind
  | x :: y :: t, 0 => rfl
  | x :: y :: t, j + 1 => by
    show ct (stp A (y :: t)) j = _
    rw [stp_ct A (y :: t) j]
    rfl
theorem stp_len (A : Rat) : ∀ u, (stp A u).length = u.length
  | [] => rfl
  | [x] => rfl
  | x :: y :: t => by show (stp A (y :: t)).length + 1 = _; rw [stp_len A (y :: t)]; rfl
def nwL (A p : Rat) (out : List Rat) : List Rat := (p + ct out 0 * A) :: stp A out
theorem nwL_len (A p : Rat) (out : List Rat) : (nwL A p out).length = out.length + 1 := by unfold nwL; rw [List.length_cons, stp_len]
theorem nwL_ct (A p : Rat) (out : List Rat) (j : Nat) : ct (nwL A p out) j = pv out j + ct out j * A + (if j = 0 then p else 0) := by
  cases j with
  | zero => show p + ct out 0 * A = _; rw [pv_zero, if_pos rfl]; grind
  | succ j => show ct (stp A out) j = _; rw [stp_ct, pv_succ, if_neg (by omega)]; grind
theorem hS_cons (A c : Rat) (t : List Rat) : hS A (c :: t) = nwL A c (hS A t) := rfl
theorem hS_len (A : Rat) : ∀ u, (hS A u).length = u.length
  | [] => rfl
  | c :: t => by rw [hS_cons, nwL_len, hS_len A t]; rfl
theorem hS_last (A : Rat) : ∀ (u : List Rat), 0 < u.length → ct (hS A u) (u.length - 1) = ct u (u.length - 1)
  | [c], _ => by show c + ct [] 0 * A = c; rw [ct_nil]; grind
  | c :: d :: t, _ => by
    have ih := hS_last A (d :: t) (by simp)
    rw [hS_cons, nwL_ct]
    rw [show (c :: d :: t).length - 1 = t.length + 1 from rfl, pv_succ, if_neg (by omega), show ct (hS A (d :: t)) (t.length + 1) = 0 from ct_out (by rw [hS_len]; simp)]
    rw [show (d :: t).length - 1 = t.length from rfl] at ih
    rw [ih]
    show ct (d :: t) t.length + 0 * A + 0 = ct (d :: t) t.length
    grind
theorem new_eq {A p : Rat} {out : List Rat} {m2 m3 : Nat} (h2 : m2 = if out.length = 0 then 0 else out.length + 1) (h3 : m3 = if p = 0 then 0 else 1) (hl : out.length = 0 → p ≠ 0) :
    (List.range (max m2 m3)).map (fun k => ct ((cv A out).take m2) k + ct ([p].take m3) k) = nwL A p out := by
  have hm : max m2 m3 = out.length + 1 := by
    by_cases e : out.length = 0
    · rw [if_pos e] at h2; rw [if_neg (hl e)] at h3; omega
    · rw [if_neg e] at h2; split at h3 <;> omega
  rw [hm]
  refine ct_ext (by rw [List.length_map, List.length_range, nwL_len]) fun k hk => ?_
  rw [List.length_map, List.length_range] at hk
  have e0 : ct ((List.range (out.length + 1)).map (fun k => ct ((cv A out).take m2) k + ct ([p].take m3) k)) k = ct ((cv A out).take m2) k + ct ([p].take m3) k := by
    generalize hf : (fun k => ct ((cv A out).take m2) k + ct ([p].take m3) k) = f
    show ((((List.range (out.length + 1)).map f)[k]?).getD 0) = _
    rw [List.getElem?_map, List.getElem?_range hk]
    show f k = _
    rw [← hf]
  rw [e0, nwL_ct]
  have e3 : ct ([p].take m3) k = if k = 0 then p else 0 := by
    by_cases hp : p = 0
    · rw [if_pos hp] at h3
      subst h3
      show ct [] k = _
      rw [ct_nil, hp]
      split <;> rfl
    · rw [if_neg hp] at h3
      subst h3
      show ct [p] k = _
      cases k with
      | zero => rfl
      | succ k => rfl
  rw [e3]
  congr 1
  by_cases e : out.length = 0
  · rw [if_pos e] at h2
    subst h2
    have : out = [] := List.length_eq_zero_iff.1 e
    subst this
    obtain rfl : k = 0 := by simpa using hk
    show ct [] 0 = pv [] 0 + ct [] 0 * A
    rw [ct_nil, pv_zero]
    grind
  · rw [if_neg e] at h2
    rw [ct_take (by omega), cv_ct, if_pos (by omega)]
/-- How long coefficients may be behind t steps. -/
def oB : Nat → Nat
  | 0 => 6
  | t + 1 => 2 * oB t + 7
theorem oB_le {t : Nat} (h : t ≤ 7) : 6 ≤ oB t ∧ oB t ≤ 1700 := by
  have : ∀ k : Fin 8, 6 ≤ oB k.val ∧ oB k.val ≤ 1700 := by decide
  exact this ⟨t, by omega⟩
theorem pv_bd {out : List Rat} {L : Nat} (h : AllB out L) (hL : 1 ≤ L) (j : Nat) : BdR (pv out j) L := by
  cases j with
  | zero => exact bdR_zero.mono hL
  | succ j => exact h.ct hL j
theorem cv_bd {A : Rat} {out : List Rat} {L : Nat} (ha : BdR A 6) (h : AllB out L) (hL : 6 ≤ L) : AllB (cv A out) (2 * L + 7) := allB_of fun j => by
  rw [cv_ct]
  split
  · exact ((pv_bd h (by omega) j).add ((h.ct (by omega) j).mul ha)).mono (by omega)
  · exact bdR_zero.mono (by omega)
theorem nwL_bd {A p : Rat} {out : List Rat} {L : Nat} (ha : BdR A 6) (hp : BdR p 6) (h : AllB out L) (hL : 6 ≤ L) : AllB (nwL A p out) (2 * L + 7) := allB_of fun j => by
  cases j with
  | zero =>
    show BdR (p + ct out 0 * A) _
    exact (hp.add ((h.ct (by omega) 0).mul ha)).mono (by omega)
  | succ j =>
    show BdR (ct (stp A out) j) _
    rw [stp_ct]
    exact ((h.ct (by omega) j).add ((h.ct (by omega) (j + 1)).mul ha)).mono (by omega)
theorem hS_bd {A : Rat} (ha : BdR A 6) : ∀ {u : List Rat}, AllB u 6 → u.length ≤ 7 → AllB (hS A u) (oB u.length)
  | [], h, _ => fun q hq => by cases hq
  | c :: t, h, hl => by
    have hl' : t.length + 1 ≤ 7 := hl
    exact nwL_bd ha (h c List.mem_cons_self) (hS_bd ha (fun q hq => h q (List.mem_cons_of_mem _ hq)) (by omega)) (oB_le (by omega)).1
/-- A fraction that is read is this rational number. -/
theorem isD_nz {q : Rat} {d : QD} (h : IsD (rp q) d) : nz d = true ↔ q = 0 := by
  unfold nz
  rw [decide_eq_true_eq, ← rp_nz]
  have := h.n1.nil_iff
  rw [List.length_eq_zero_iff, this]
  omega
theorem isL_ct {qs : List Rat} {ds : List QD} (h : IsL (rps qs) ds) : ∀ j (hj : j < ds.length), IsD (rp (ct qs j)) ds[j] := fun j hj => by
  have hl : qs.length = ds.length := by have := h.len; unfold rps at this; simpa using this
  refine h.get j (c := rp (ct qs j)) ?_ (by rw [List.getElem?_eq_getElem hj])
  unfold rps
  rw [List.getElem?_map, ct_get (by omega)]
  rfl
theorem cut_is {qs : List Rat} {ds : List QD} {m k : Nat} (h : IsL (rps qs) ds) (hk : k ≤ qs.length) (ho : ∀ j, k ≤ j → ct qs j = 0) (ht : 0 < k → ct qs (k - 1) ≠ 0) (hc : CutAt ds m) : m = k := by
  have hl : qs.length = ds.length := by have := h.len; unfold rps at this; simpa using this
  refine hc.same ⟨by omega, fun j hj hkj => (isD_nz (isL_ct h j hj)).2 (ho j hkj), fun h0 => ?_⟩
  rw [Bool.eq_false_iff]
  exact fun e => ht h0 ((isD_nz (isL_ct h (k - 1) (by omega))).1 e)
theorem isD_good7 {q : Rat} {d : QD} (h : IsD (rp q) d) (k : BdR q 2200) : GqE d ∧ nQ d = (rp q).1 ∧ dQ d = (rp q).2 := by
  have e1 : nQ d = (rp q).1 := by
    unfold nQ sv
    rw [h.g1, h.n1.v]
    by_cases c : (rp q).1 < 0
    · rw [if_pos (by simpa using c)]; omega
    · rw [if_neg (by simpa using c)]; omega
  have e2 : dQ d = (rp q).2 := by
    unfold dQ sv
    rw [h.g2, h.n2.v]
    have := rp_pos q
    rw [if_neg (by simp; omega)]; omega
  exact ⟨⟨by rw [e1, e2]; exact h, by rw [e2]; exact rp_pos q, by rw [e1]; exact k.n, by rw [e2]; exact k.d⟩, e1, e2⟩
theorem isL_goods {qs : List Rat} {ds : List QD} (h : IsL (rps qs) ds) (k : AllB qs 2200) : goods ds = rps qs := by
  have hl : qs.length = ds.length := by have := h.len; unfold rps at this; simpa using this
  refine List.ext_getElem? fun j => ?_
  unfold goods rps
  rw [List.getElem?_map, List.getElem?_map]
  by_cases hj : j < ds.length
  · have e := isD_good7 (isL_ct h j hj) (k.ct (by omega) j)
    rw [ct_get (l := qs) (k := j) (by omega), List.getElem?_eq_getElem hj]
    show some (nQ ds[j], dQ ds[j]) = some (rp (ct qs j))
    rw [e.2.1, e.2.2]
  · rw [List.getElem?_eq_none (by omega), List.getElem?_eq_none (by omega)]
    rfl
theorem isL_gq {qs : List Rat} {l : List (QV × QD)} (h : IsL (rps qs) (l.map Prod.snd)) (k : AllB qs 2200) : Gq l := fun y hy => by
  obtain ⟨j, hj, rfl⟩ := List.mem_iff_getElem.1 hy
  have := (isD_good7 (isL_ct h j (by simpa using hj)) (k.ct (by omega) j)).1
  simpa using this
theorem AllB.mono {u : List Rat} {L M : Nat} (h : AllB u L) (k : L ≤ M) : AllB u M := fun q hq => (h q hq).mono k
theorem AllB.take {u : List Rat} {L : Nat} (h : AllB u L) (m : Nat) : AllB (u.take m) L := fun q hq => h q (List.mem_of_mem_take hq)
theorem isL_take {qs : List Rat} {ds : List QD} (h : IsL (rps qs) ds) (m : Nat) : IsL (rps (qs.take m)) (ds.take m) := by
  have := IsL.take m h
  unfold rps at this ⊢
  rw [List.map_take]
  exact this
/-- A coefficient's rational number. -/
def qR (d : QD) : Rat := Rat.divInt (nQ d) (dQ d)
theorem qR_rp {d : QD} (hg : gQ d = true) (hl : Low (nQ d) (dQ d)) : (nQ d, dQ d) = rp (qR d) := low_is (c := (nQ d, dQ d)) hl
end Go.Proofs.YtcbmecnipldcfaaGreat
namespace Go.Proofs.YtcbmecnipldcfaaGreat
open Go.RowKit
set_option linter.unusedVariables false
set_option maxRecDepth 100000
set_option linter.unusedSimpArgs false

theorem baS2 {w w1 : World} {o o' : Obj} (h : Below ((w.alloc o).alloc o').heap.size ((w.alloc o).alloc o') w1) : Below w.heap.size w w1 := ba (ba h)
theorem badS2 {w w1 : World} {o o' : Obj} (h : Below ((w.alloc o).alloc o').drew.heap.size ((w.alloc o).alloc o').drew w1) : Below w.heap.size w w1 := baS2 (below_of_drew h)
theorem lay1c {w : World} {b : Nat} {y : QV × QD} (g0 : w.cell? ⟨b, 0, none⟩ = some (.bool y.1.num.g)) (g1 : w.cell? ⟨b, 1, none⟩ = some (.slice y.1.num.a y.1.num.n y.1.num.c)) (g2 : w.cell? ⟨b, 2, none⟩ = some (.bool y.1.den.g)) (g3 : w.cell? ⟨b, 3, none⟩ = some (.slice y.1.den.a y.1.den.n y.1.den.c)) (h : AllAr w [(y.1.num, y.2.num), (y.1.den, y.2.den)]) : PArQ w (some ⟨b, 0, none⟩) 1 1 [y] := by
  refine ⟨.inr ⟨b, 0, rfl, World.block_lt_of_cell? _ _ g0, fun i hi => ?_⟩, fun p hp => by rw [List.mem_singleton.1 hp]; exact h, rfl, Nat.le_refl _, by unfold maxLen; omega⟩
  obtain rfl : i = 0 := by simp at hi; omega
  exact ⟨g0, g1, g2, g3⟩
theorem lay1 {w : World} {y : QV × QD} {t : TypeId} (h : AllAr w [(y.1.num, y.2.num), (y.1.den, y.2.den)]) : PArQ (w.alloc (.cells #[.bool y.1.num.g, .slice y.1.num.a y.1.num.n y.1.num.c, .bool y.1.den.g, .slice y.1.den.a y.1.den.n y.1.den.c] t)) (some ⟨w.heap.size, 0, none⟩) 1 1 [y] :=
  lay1c (by simp [go_sem]) (by simp [go_sem]) (by simp [go_sem]) (by simp [go_sem]) (h.later ((Below.refl _ _).alloc (Nat.le_refl _) _))
theorem lay2 {w : World} {x one : QV} {d e : QD} {t : TypeId} (h : AllAr w [(x.num, d.num), (x.den, d.den)]) (k : AllAr w [(one.num, e.num), (one.den, e.den)]) : PArQ (w.alloc (.cells #[.bool x.num.g, .slice x.num.a x.num.n x.num.c, .bool x.den.g, .slice x.den.a x.den.n x.den.c, .bool one.num.g, .slice one.num.a one.num.n one.num.c, .bool one.den.g, .slice one.den.a one.den.n one.den.c] t)) (some ⟨w.heap.size, 0, none⟩) 2 2 [(x, d), (one, e)] := by
  have al : Below w.heap.size w (w.alloc (.cells #[.bool x.num.g, .slice x.num.a x.num.n x.num.c, .bool x.den.g, .slice x.den.a x.den.n x.den.c, .bool one.num.g, .slice one.num.a one.num.n one.num.c, .bool one.den.g, .slice one.den.a one.den.n one.den.c] t)) := (Below.refl _ _).alloc (Nat.le_refl _) _
  refine ⟨.inr ⟨w.heap.size, 0, rfl, by simp, fun i hi => ?_⟩, fun p hp => ?_, rfl, Nat.le_refl _, by unfold maxLen; omega⟩
  · have hi' : i < 2 := by simpa using hi
    match i, hi' with
    | 0, _ => simp [go_sem]
    | 1, _ => simp [go_sem]
  · rcases List.mem_cons.1 hp with rfl | hp
    · exact h.later al
    · rw [List.mem_singleton.1 hp]; exact k.later al
theorem lay2' {w : World} {x one : QV} {d e : QD} {t : TypeId} {o : Obj} (h : AllAr w [(x.num, d.num), (x.den, d.den)]) (k : AllAr w [(one.num, e.num), (one.den, e.den)]) : PArQ ((w.alloc o).alloc (.cells #[.bool x.num.g, .slice x.num.a x.num.n x.num.c, .bool x.den.g, .slice x.den.a x.den.n x.den.c, .bool one.num.g, .slice one.num.a one.num.n one.num.c, .bool one.den.g, .slice one.den.a one.den.n one.den.c] t)) (some ⟨w.heap.size + 1, 0, none⟩) 2 2 [(x, d), (one, e)] := by
  have al : Below w.heap.size w (w.alloc o) := (Below.refl _ _).alloc (Nat.le_refl _) _
  have := lay2 (t := t) (h.later al) (k.later al)
  rw [show (w.alloc o).heap.size = w.heap.size + 1 by simp] at this
  exact this
theorem isD_one {lo1 lo2 : List Int} (m1 : Nm lo1 (1 : Int).natAbs) (m2 : Nm lo2 (1 : Int).natAbs) : IsD (rp 1) (⟨⟨decide ((1 : Int) < 0), lo1⟩, ⟨decide ((1 : Int) < 0), lo2⟩⟩ : QD) := ⟨rfl, m1, rfl, m2⟩
theorem isL_two {A : Rat} {d e : QD} (h : IsD (rp A) d) (k : IsD (rp 1) e) : IsL (rps [A, 1]) [d, e] := ⟨h, k, trivial⟩
theorem cut_two {A : Rat} {d e : QD} {m : Nat} (h : IsD (rp A) d) (k : IsD (rp 1) e) (c : CutAt [d, e] m) : m = 2 := by
  refine cut_is (qs := [A, 1]) (isL_two h k) (by simp) (fun j hj => ct_out (by simpa using hj)) (fun _ => ?_) c
  show (1 : Rat) ≠ 0
  decide
theorem shM2 {A : Rat} {out : List Rat} {ds : List QD} {m : Nat} (h : IsL (rps (cv A out)) ds) (ht : out.length ≠ 0 → ct out (out.length - 1) ≠ 0) (c : CutAt ds m) : m = if out.length = 0 then 0 else out.length + 1 := by
  by_cases e : out.length = 0
  · rw [if_pos e]
    have : out = [] := List.length_eq_zero_iff.1 e
    subst this
    refine cut_is h (Nat.zero_le _) (fun j _ => ?_) (fun h0 => absurd h0 (by omega)) c
    rw [cv_ct]
    split
    · rename_i hj
      have : j = 0 := by simpa using hj
      subst this
      rw [pv_zero, ct_nil]; grind
    · rfl
  · rw [if_neg e]
    refine cut_is h (by rw [cv_len]; omega) (fun j hj => by rw [cv_ct, if_neg (by omega)]) (fun _ => ?_) c
    rw [Nat.add_sub_cancel, cv_ct, if_pos (Nat.le_refl _), ct_out (Nat.le_refl _)]
    obtain ⟨m, hm⟩ : ∃ m, out.length = m + 1 := ⟨out.length - 1, by omega⟩
    rw [hm, pv_succ]
    have := ht e
    rw [hm, Nat.add_sub_cancel] at this
    intro hc
    apply this
    grind
theorem shM3 {q : Rat} {e : QD} {m : Nat} (h : IsD (rp q) e) (c : CutAt [e] m) : m = if q = 0 then 0 else 1 := by
  by_cases hq : q = 0
  · rw [if_pos hq]
    refine cut_is (qs := [q]) (ds := [e]) ⟨h, trivial⟩ (Nat.zero_le _) (fun j _ => ?_) (fun h0 => absurd h0 (by omega)) c
    cases j with
    | zero => exact hq
    | succ j => rfl
  · rw [if_neg hq]
    exact cut_is (qs := [q]) (ds := [e]) ⟨h, trivial⟩ (by simp) (fun j hj => ct_out (by simpa using hj)) (fun _ => hq) c
theorem nw_top {A q : Rat} {out : List Rat} (ht : out.length ≠ 0 → ct out (out.length - 1) ≠ 0) (hl : out.length = 0 → q ≠ 0) : ct (nwL A q out) out.length ≠ 0 := by
  rw [nwL_ct, ct_out (Nat.le_refl _)]
  by_cases e : out.length = 0
  · rw [e, pv_zero, if_pos rfl]
    have := hl e
    intro hc
    apply this
    grind
  · obtain ⟨m, hm⟩ : ∃ m, out.length = m + 1 := ⟨out.length - 1, by omega⟩
    rw [hm, pv_succ, if_neg (by omega)]
    have := ht e
    rw [hm, Nat.add_sub_cancel] at this
    intro hc
    apply this
    grind
/-- A step of the specification's loop, by value. -/
theorem shStep {A q : Rat} {out : List Rat} {vs us4 : List (QV × QD)} {y : QV × QD} {m2 m3 m4 : Nat} (ha : BdR A 6) (hq : BdR q 6) (hb : AllB out 900) (hv : IsL (rps (cv A out)) (vs.map Prod.snd)) (c2 : CutAt (vs.map Prod.snd) m2) (hy : IsD (rp q) y.2) (c3 : CutAt [y.2] m3) (ht : out.length ≠ 0 → ct out (out.length - 1) ≠ 0) (hl : out.length = 0 → q ≠ 0)
    (h4 : IsL (sums (goods ((vs.take m2).map Prod.snd)) (goods (([y].take m3).map Prod.snd)) (max m2 m3)) (us4.map Prod.snd)) (c4 : CutAt (us4.map Prod.snd) m4) : IsL (rps (nwL A q out)) (us4.map Prod.snd) ∧ m4 = out.length + 1 ∧ us4.take m4 = us4 := by
  have e2 := shM2 hv ht c2
  have e3 := shM3 hy c3
  have b1 : AllB (cv A out) 2200 := (cv_bd ha (hb.mono (show 900 ≤ 900 by omega)) (by omega)).mono (by omega)
  have g1 : goods ((vs.take m2).map Prod.snd) = rps ((cv A out).take m2) := isL_goods (by rw [List.map_take]; exact isL_take hv m2) (b1.take m2)
  have b2 : AllB [q] 2200 := fun z hz => by rw [List.mem_singleton.1 hz]; exact hq.mono (by omega)
  have g2 : goods (([y].take m3).map Prod.snd) = rps ([q].take m3) := isL_goods (by rw [List.map_take]; exact isL_take (qs := [q]) (ds := [y.2]) ⟨hy, trivial⟩ m3) (b2.take m3)
  rw [g1, g2, sums_rps, new_eq e2 e3 hl] at h4
  have hlen : us4.length = out.length + 1 := by have := h4.len; unfold rps at this; simp only [List.length_map, nwL_len] at this; omega
  have e4 := cut_is h4 (k := out.length + 1) (by rw [nwL_len]; omega) (fun j hj => ct_out (by rw [nwL_len]; omega)) (fun _ => by rw [Nat.add_sub_cancel]; exact nw_top ht hl) c4
  exact ⟨h4, e4, List.take_of_length_le (by omega)⟩
theorem good_q {w : World} {q : QV} {d : QD} (j : IsGood w q d) (hs : sm d = true) (hg : gQ d = true) : IsD (rp (qR d)) d ∧ BdR (qR d) 6 := by
  have e := qR_rp hg ⟨j.pos, j.low⟩
  have h := (good_isD hg).1
  unfold sm at hs
  rw [Bool.and_eq_true, decide_eq_true_eq, decide_eq_true_eq] at hs
  refine ⟨by rw [← e]; exact h, ?_, ?_⟩
  · rw [← e]; exact h.n1.bd hs.1
  · rw [← e]; exact h.n2.bd hs.2
theorem isL_of_all : ∀ {ds : List QD}, (∀ y ∈ ds, IsD (rp (qR y)) y) → IsL (rps (ds.map qR)) ds
  | [], _ => trivial
  | y :: t, h => ⟨h y List.mem_cons_self, isL_of_all (fun z hz => h z (List.mem_cons_of_mem _ hz))⟩
structure GoodPs (ds : List QD) : Prop where
  is : IsL (rps (ds.map qR)) ds
  bd : AllB (ds.map qR) 6
  len : ds.length ≤ 7
  top : 0 < ds.length → ct (ds.map qR) (ds.length - 1) ≠ 0
theorem goodPs_of {w : World} {a : Option Addr} {n c : Nat} {l : List (QV × QD)} (h : PArQ w a n c l) (hg : gP (l.map Prod.snd) = true) : GoodPs (l.map Prod.snd) := by
  have hm := gP_mem hg
  have hq : ∀ y ∈ l.map Prod.snd, IsD (rp (qR y)) y ∧ BdR (qR y) 6 := fun y hy => by
    obtain ⟨p, hp, rfl⟩ := List.mem_map.1 hy
    exact good_q (good_of_mem h hg hp) (hm.2 _ hy).2 (hm.2 _ hy).1
  have his := isL_of_all (fun y hy => (hq y hy).1)
  refine ⟨his, fun q hq' => ?_, hm.1, fun h0 => ?_⟩
  · obtain ⟨y, hy, rfl⟩ := List.mem_map.1 hq'
    exact (hq y hy).2
  · have hlast : lastOk (l.map Prod.snd) = true := by unfold gP at hg; rw [Bool.and_eq_true] at hg; exact hg.2
    unfold lastOk at hlast
    rw [List.getLast?_eq_getElem?, List.getElem?_eq_getElem (by omega)] at hlast
    have hnz : nz ((l.map Prod.snd)[(l.map Prod.snd).length - 1]'(by omega)) = false := by simpa using hlast
    intro hc
    have := (isD_nz (isL_ct his ((l.map Prod.snd).length - 1) (by omega))).2 hc
    rw [hnz] at this
    cases this
theorem GoodPs.goods {ds : List QD} (h : GoodPs ds) : goods ds = rps (ds.map qR) := isL_goods h.is (h.bd.mono (by omega))
/-- The shifted polynomial. -/
def shC (ds : List QD) (d : QD) : List (Int × Int) := rps (hS (qR d) (ds.map qR))
theorem shC_low (ds : List QD) (d : QD) : LowL (shC ds d) := fun c hc => by
  unfold shC rps at hc
  obtain ⟨q, hq, rfl⟩ := List.mem_map.1 hc
  exact rp_low q

set_option maxRecDepth 100000 in
set_option maxHeartbeats 32000000 in
theorem ShPS (a : Option Addr) (n c : Nat) (l : List (QV × QD)) (x : QV) (d : QD) (w : World) (h : PArQ w a n c l) (hx : AllAr w [(x.num, d.num), (x.den, d.den)]) :
    Calls Tryz.prog 15 #[.slice a n c, .agg #[.bool x.num.g, .slice x.num.a x.num.n x.num.c, .bool x.den.g, .slice x.den.a x.den.n x.den.c]] w (RetPr w (AnsP (gP (l.map Prod.snd) && gC d) (shC (l.map Prod.snd) d))) := by
  obtain ⟨P, hP⟩ : ∃ P : Bool, P = (gP (l.map Prod.snd) && gC d) := ⟨_, rfl⟩
  rw [← hP]
  cases hr : gP (l.map Prod.snd)
  · have CR := hide (fun w1 (k : PArQ w1 a n c l) => GoodPS a n c l w1 k)
    rw [hr] at CR
    have H0 := hide h
    have H1 := hide hx
    clear h hx
    have PN : Hid (P = false) := hide (by rw [hP]; unfold gC; rw [hr, Bool.false_and])
    clear hP hr
    have B0 := hide (show Below w.heap.size w (w.alloc (.cells #[.bool x.num.g, .slice x.num.a x.num.n x.num.c, .bool x.den.g, .slice x.den.a x.den.n x.den.c] 32)) from ((Below.refl _ _).alloc (by simp) _))
    go_enter Tryz.func15, Tryz.ntmps15
    go_wp2_with fail
    refine (unhide CR _ ((unhide H0).later (unhide B0))).mono ?_
    rintro e w1 ⟨rfl, hb⟩
    have HB := hide (below_on (unhide B0) hb)
    clear hb
    go_wp2
    go_ret2
    exact ⟨none, 0, 0, [], false, rfl, unhide HB, ⟨.inl rfl, fun p hp => (by cases hp)⟩, rfl, .inr ⟨unhide PN, rfl, rfl⟩⟩
  · cases hs : sm d
    · have CR := hide (fun w1 (k : PArQ w1 a n c l) => GoodPS a n c l w1 k)
      rw [hr] at CR
      have H0 := hide h
      have H1 := hide hx
      clear h hx
      have CL := hide (fun w1 (k : AllAr w1 [(x.num, d.num), (x.den, d.den)]) => smallS x d w1 k)
      rw [hs] at CL
      have PN : Hid (P = false) := hide (by rw [hP]; unfold gC; rw [hr, hs, Bool.false_and, Bool.and_false])
      clear hP hr hs
      have B0 := hide (show Below w.heap.size w (w.alloc (.cells #[.bool x.num.g, .slice x.num.a x.num.n x.num.c, .bool x.den.g, .slice x.den.a x.den.n x.den.c] 32)) from ((Below.refl _ _).alloc (by simp) _))
      go_enter Tryz.func15, Tryz.ntmps15
      go_wp2_with fail
      refine (unhide CR _ ((unhide H0).later (unhide B0))).mono ?_
      rintro e w1 ⟨rfl, hb⟩
      have k0_0 : w1.cell? ⟨w.heap.size, 0, none⟩ = some (.bool x.num.g) := cell_later hb (by simp [go_sem])
      have k0_1 : w1.cell? ⟨w.heap.size, 1, none⟩ = some (.slice x.num.a x.num.n x.num.c) := cell_later hb (by simp [go_sem])
      have k0_2 : w1.cell? ⟨w.heap.size, 2, none⟩ = some (.bool x.den.g) := cell_later hb (by simp [go_sem])
      have k0_3 : w1.cell? ⟨w.heap.size, 3, none⟩ = some (.slice x.den.a x.den.n x.den.c) := cell_later hb (by simp [go_sem])
      have HB := hide (below_on (unhide B0) hb)
      clear hb
      go_wp2_with fail
      refine (unhide CL _ ((unhide H1).later (unhide HB))).mono ?_
      rintro e w2 ⟨rfl, hb⟩
      clear k0_0 k0_1 k0_2 k0_3
      replace HB := hide (below_on (unhide HB) hb)
      clear hb
      go_wp2
      go_ret2
      exact ⟨none, 0, 0, [], false, rfl, unhide HB, ⟨.inl rfl, fun p hp => (by cases hp)⟩, rfl, .inr ⟨unhide PN, rfl, rfl⟩⟩
    · cases hq : gQ d
      · have CR := hide (fun w1 (k : PArQ w1 a n c l) => GoodPS a n c l w1 k)
        rw [hr] at CR
        have H0 := hide h
        have H1 := hide hx
        clear h hx
        have CL := hide (fun w1 (k : AllAr w1 [(x.num, d.num), (x.den, d.den)]) => smallS x d w1 k)
        rw [hs] at CL
        have CG := hide (fun w1 (k : AllAr w1 [(x.num, d.num), (x.den, d.den)]) => goodQS x d w1 k)
        rw [hq] at CG
        have PN : Hid (P = false) := hide (by rw [hP]; unfold gC; rw [hr, hs, hq, Bool.and_false, Bool.and_false])
        clear hP hr hs hq
        have B0 := hide (show Below w.heap.size w (w.alloc (.cells #[.bool x.num.g, .slice x.num.a x.num.n x.num.c, .bool x.den.g, .slice x.den.a x.den.n x.den.c] 32)) from ((Below.refl _ _).alloc (by simp) _))
        go_enter Tryz.func15, Tryz.ntmps15
        go_wp2_with fail
        refine (unhide CR _ ((unhide H0).later (unhide B0))).mono ?_
        rintro e w1 ⟨rfl, hb⟩
        have k0_0 : w1.cell? ⟨w.heap.size, 0, none⟩ = some (.bool x.num.g) := cell_later hb (by simp [go_sem])
        have k0_1 : w1.cell? ⟨w.heap.size, 1, none⟩ = some (.slice x.num.a x.num.n x.num.c) := cell_later hb (by simp [go_sem])
        have k0_2 : w1.cell? ⟨w.heap.size, 2, none⟩ = some (.bool x.den.g) := cell_later hb (by simp [go_sem])
        have k0_3 : w1.cell? ⟨w.heap.size, 3, none⟩ = some (.slice x.den.a x.den.n x.den.c) := cell_later hb (by simp [go_sem])
        have HB := hide (below_on (unhide B0) hb)
        clear hb
        go_wp2_with fail
        refine (unhide CL _ ((unhide H1).later (unhide HB))).mono ?_
        rintro e w2 ⟨rfl, hb⟩
        replace k0_0 := cell_later hb k0_0
        replace k0_1 := cell_later hb k0_1
        replace k0_2 := cell_later hb k0_2
        replace k0_3 := cell_later hb k0_3
        replace HB := hide (below_on (unhide HB) hb)
        clear hb
        go_wp2_with fail
        refine (unhide CG _ ((unhide H1).later (unhide HB))).mono ?_
        rintro e w3 ⟨rfl, hb⟩
        clear k0_0 k0_1 k0_2 k0_3
        replace HB := hide (below_on (unhide HB) hb)
        clear hb
        go_wp2
        go_ret2
        exact ⟨none, 0, 0, [], false, rfl, unhide HB, ⟨.inl rfl, fun p hp => (by cases hp)⟩, rfl, .inr ⟨unhide PN, rfl, rfl⟩⟩
      · have CR := hide (fun w1 (k : PArQ w1 a n c l) => GoodPS a n c l w1 k)
        rw [hr] at CR
        have H0 := hide h
        have H1 := hide hx
        clear h hx
        have CL := hide (fun w1 (k : AllAr w1 [(x.num, d.num), (x.den, d.den)]) => smallS x d w1 k)
        rw [hs] at CL
        have CG := hide (fun w1 (k : AllAr w1 [(x.num, d.num), (x.den, d.den)]) => goodQS x d w1 k)
        rw [hq] at CG
        have PY : Hid (P = true) := hide (by rw [hP]; unfold gC; rw [hr, hs, hq]; rfl)
        have GP := hide (goodPs_of (unhide H0) hr)
        have DQ := good_q (isGood_of (unhide H1) hq) hs hq
        obtain ⟨A, hA⟩ : ∃ A : Rat, A = qR d := ⟨_, rfl⟩
        obtain ⟨ps, hps⟩ : ∃ ps : List Rat, ps = (l.map Prod.snd).map qR := ⟨_, rfl⟩
        rw [← hA] at DQ
        have DX := hide DQ.1
        have KA := hide DQ.2
        have HA := hide hA
        have HPS := hide hps
        have pl : ps.length = n := by rw [hps, List.length_map, List.length_map]; exact (unhide H0).len
        have n7 : n ≤ 7 := by have := (unhide GP).len; rw [List.length_map, (unhide H0).len] at this; exact this
        have PB : Hid (AllB ps 6) := hide (by rw [hps]; exact (unhide GP).bd)
        have PI : Hid (IsL (rps ps) (l.map Prod.snd)) := hide (by rw [hps]; exact (unhide GP).is)
        have PT : Hid (0 < n → ct ps (n - 1) ≠ 0) := hide (fun h0 => by have := (unhide GP).top (by rw [List.length_map, (unhide H0).len]; exact h0); rw [List.length_map, (unhide H0).len, ← hps] at this; exact this)
        clear DQ hA hps hP hr hs hq GP
        have B0 := hide (show Below w.heap.size w (w.alloc (.cells #[.bool x.num.g, .slice x.num.a x.num.n x.num.c, .bool x.den.g, .slice x.den.a x.den.n x.den.c] 32)) from ((Below.refl _ _).alloc (by simp) _))
        go_enter Tryz.func15, Tryz.ntmps15
        go_wp2_with fail
        refine (unhide CR _ ((unhide H0).later (unhide B0))).mono ?_
        rintro e w1 ⟨rfl, hb⟩
        have k0_0 : w1.cell? ⟨w.heap.size, 0, none⟩ = some (.bool x.num.g) := cell_later hb (by simp [go_sem])
        have k0_1 : w1.cell? ⟨w.heap.size, 1, none⟩ = some (.slice x.num.a x.num.n x.num.c) := cell_later hb (by simp [go_sem])
        have k0_2 : w1.cell? ⟨w.heap.size, 2, none⟩ = some (.bool x.den.g) := cell_later hb (by simp [go_sem])
        have k0_3 : w1.cell? ⟨w.heap.size, 3, none⟩ = some (.slice x.den.a x.den.n x.den.c) := cell_later hb (by simp [go_sem])
        have HB := hide (below_on (unhide B0) hb)
        clear hb
        go_wp2_with fail
        refine (unhide CL _ ((unhide H1).later (unhide HB))).mono ?_
        rintro e w2 ⟨rfl, hb⟩
        replace k0_0 := cell_later hb k0_0
        replace k0_1 := cell_later hb k0_1
        replace k0_2 := cell_later hb k0_2
        replace k0_3 := cell_later hb k0_3
        replace HB := hide (below_on (unhide HB) hb)
        clear hb
        go_wp2_with fail
        refine (unhide CG _ ((unhide H1).later (unhide HB))).mono ?_
        rintro e w3 ⟨rfl, hb⟩
        replace k0_0 := cell_later hb k0_0
        replace k0_1 := cell_later hb k0_1
        replace k0_2 := cell_later hb k0_2
        replace k0_3 := cell_later hb k0_3
        replace HB := hide (below_on (unhide HB) hb)
        clear hb
        have T0 := k0_0
        have T1 := k0_1
        have T2 := k0_2
        have T3 := k0_3
        clear k0_0 k0_1 k0_2 k0_3
        go_wp2
        go_loopw [6, 7] (fun ov kv wr => ∃ (k1 : Nat) (a' : Option Addr) (n' c' : Nat) (us : List (QV × QD)), k1 ≤ n ∧ ov = .slice a' n' c' ∧ kv = .int .i64 ((k1 : Int) - 1) ∧ n' + k1 = n ∧ Hid (PArQ wr a' n' c' us) ∧ Hid (IsL (rps (hS A (ps.drop k1))) (us.map Prod.snd)) ∧ Hid (Below w.heap.size w wr) ∧ Hid (wr.cell? ⟨w.heap.size, 0, none⟩ = some (.bool x.num.g)) ∧ Hid (wr.cell? ⟨w.heap.size, 1, none⟩ = some (.slice x.num.a x.num.n x.num.c)) ∧ Hid (wr.cell? ⟨w.heap.size, 2, none⟩ = some (.bool x.den.g)) ∧ Hid (wr.cell? ⟨w.heap.size, 3, none⟩ = some (.slice x.den.a x.den.n x.den.c))) (fun _ kv _ => (intOf kv + 1).toNat)
        case atStart => exact ⟨n, none, 0, 0, [], Nat.le_refl _, rfl, by go_num, by omega, hide ⟨.inl rfl, fun p hp => (by cases hp), rfl, Nat.le_refl _, Nat.zero_le _⟩, hide (by rw [List.drop_eq_nil_of_le (by omega)]; exact trivial), HB, hide T0, hide T1, hide T2, hide T3⟩
        case round =>
          clear HB T0 T1 T2 T3
          obtain ⟨k1, a', n', c', us, hk1, rfl, rfl, hn', OUTP, OI, HB, T0, T1, T2, T3⟩ := hrel
          replace T0 := unhide T0
          replace T1 := unhide T1
          replace T2 := unhide T2
          replace T3 := unhide T3
          rcases Nat.eq_zero_or_pos k1 with h0 | h0
          · subst h0
            have hd : ¬ 0 ≤ ((0 : Nat) : Int) - 1 := by omega
            go_wp2_with fail
            refine (fitsPS a' n' c' us _ _ (unhide OUTP) (unhide OI)).mono ?_
            rintro e w5 ⟨a5, n5, c5, l5, ok, rfl, hb, hsl, hlen, hu⟩
            have HF := hide (And.intro (below_on (unhide HB) hb) (And.intro hsl (And.intro hlen hu)))
            clear hb hsl hlen hu
            go_wp2
            go_ret2
            refine ⟨a5, n5, c5, l5, ok, rfl, (unhide HF).1, (unhide HF).2.1, (unhide HF).2.2.1, ?_⟩
            rw [unhide PY]
            have hu := (unhide HF).2.2.2
            unfold shC
            rw [← unhide HA, ← unhide HPS]
            exact hu
          · obtain ⟨k, rfl⟩ : ∃ k, k1 = k + 1 := ⟨k1 - 1, by omega⟩
            have ek : (((k + 1 : Nat) : Int) - 1) = (k : Int) := by omega
            rw [ek]
            clear ek h0
            have hd : 0 ≤ (k : Int) := by omega
            have hkn : (k : Int) < (n : Int) := by omega
            have hkt : ((k : Int)).toNat = k := by omega
            rcases (unhide H0).at_ with e | ⟨b, off, ea, hbl, hc⟩
            · exact absurd (unhide H0).len (by rw [e]; simp; omega)
            subst ea
            have e0 := hc k (by rw [(unhide H0).len]; omega)
            obtain ⟨y, hy⟩ : ∃ y, y = l[k]'(by rw [(unhide H0).len]; omega) := ⟨_, rfl⟩
            rw [← hy] at e0
            have MY : y ∈ l := by rw [hy]; exact List.getElem_mem _
            have YA := hide (((unhide H0).rd y MY).later (unhide HB))
            obtain ⟨Q, hQ⟩ : ∃ Q, Q = ct ps k := ⟨_, rfl⟩
            have DY : Hid (IsD (rp Q) y.2) := hide (by have h := isL_ct (unhide PI) k (by rw [List.length_map, (unhide H0).len]; omega); rw [List.getElem_map, ← hy, ← hQ] at h; exact h)
            have KQ : Hid (BdR Q 6) := hide (by rw [hQ]; exact (unhide PB).ct (by omega) k)
            have ED : Hid (hS A (ps.drop k) = nwL A Q (hS A (ps.drop (k + 1)))) := hide (by rw [hQ, List.drop_eq_getElem_cons (by omega), hS_cons]; have := ct_get (l := ps) (k := k) (by omega); rw [List.getElem?_eq_getElem (by omega)] at this; rw [Option.some.inj this])
            have OL : Hid ((hS A (ps.drop (k + 1))).length = n') := hide (by rw [hS_len, List.length_drop]; omega)
            have OB : Hid (AllB (hS A (ps.drop (k + 1))) 900) := hide (by
              have hb := hS_bd (unhide KA) (u := ps.drop (k + 1)) (fun q hq => unhide PB q (List.mem_of_mem_drop hq)) (by rw [List.length_drop]; omega)
              refine hb.mono ?_
              have : ∀ t : Fin 7, oB t.val ≤ 900 := by decide
              exact this ⟨(ps.drop (k + 1)).length, by rw [List.length_drop]; omega⟩)
            have TOP : Hid ((hS A (ps.drop (k + 1))).length ≠ 0 → ct (hS A (ps.drop (k + 1))) ((hS A (ps.drop (k + 1))).length - 1) ≠ 0) := hide (fun h1 => by
              rw [hS_len] at h1 ⊢
              rw [hS_last A _ (by omega), ct_drop, List.length_drop]
              have := unhide PT (by omega)
              rw [show k + 1 + (ps.length - (k + 1) - 1) = n - 1 by rw [List.length_drop] at h1; omega]
              exact this)
            have BOT : Hid ((hS A (ps.drop (k + 1))).length = 0 → Q ≠ 0) := hide (fun h1 => by
              rw [unhide OL] at h1
              rw [hQ, show k = n - 1 by omega]
              exact unhide PT (by omega))
            have GQ1 := hide (isL_gq (unhide OI) ((unhide OB).mono (by omega)))
            have GG1 := hide (isL_goods (unhide OI) ((unhide OB).mono (by omega)))
            have CVB : Hid (AllB (cv A (hS A (ps.drop (k + 1)))) 2200) := hide ((cv_bd (unhide KA) (unhide OB) (by omega)).mono (by omega))
            have XA := hide ((unhide H1).later (unhide HB))
            clear hQ
            have E0 : wr.cell? ⟨b, off + k * 4, none⟩ = some (.bool y.1.num.g) := ((unhide HB).cell (p := ⟨b, off + k * 4, none⟩) hbl).trans (e0.1)
            have E1 : wr.cell? ⟨b, off + k * 4 + 1, none⟩ = some (.slice y.1.num.a y.1.num.n y.1.num.c) := ((unhide HB).cell (p := ⟨b, off + k * 4 + 1, none⟩) hbl).trans (e0.2.1)
            have E2 : wr.cell? ⟨b, off + k * 4 + 2, none⟩ = some (.bool y.1.den.g) := ((unhide HB).cell (p := ⟨b, off + k * 4 + 2, none⟩) hbl).trans (e0.2.2.1)
            have E3 : wr.cell? ⟨b, off + k * 4 + 3, none⟩ = some (.slice y.1.den.a y.1.den.n y.1.den.c) := ((unhide HB).cell (p := ⟨b, off + k * 4 + 3, none⟩) hbl).trans (e0.2.2.2)
            clear e0 hc hy MY
            go_upto_region 7 with fail
            go_region_held3 (fun w' => w'.cell? ⟨w.heap.size, 0, none⟩ = some (.bool x.num.g) ∧ w'.cell? ⟨w.heap.size, 1, none⟩ = some (.slice x.num.a x.num.n x.num.c) ∧ w'.cell? ⟨w.heap.size, 2, none⟩ = some (.bool x.den.g) ∧ w'.cell? ⟨w.heap.size, 3, none⟩ = some (.slice x.den.a x.den.n x.den.c) ∧ w'.cell? ⟨b, off + k * 4, none⟩ = some (.bool y.1.num.g) ∧ w'.cell? ⟨b, off + k * 4 + 1, none⟩ = some (.slice y.1.num.a y.1.num.n y.1.num.c) ∧ w'.cell? ⟨b, off + k * 4 + 2, none⟩ = some (.bool y.1.den.g) ∧ w'.cell? ⟨b, off + k * 4 + 3, none⟩ = some (.slice y.1.den.a y.1.den.n y.1.den.c)) (with_reducible (refine ⟨?_, ?_, ?_, ?_, ?_, ?_, ?_, ?_⟩ <;> repeat (first | exact T0 | exact T1 | exact T2 | exact T3 | exact E0 | exact E1 | exact E2 | exact E3 | refine cd_other ?_ | refine ca_other ?_)))
                    (first
                    | (go_at_call 48; refine (wholeS 1 _ (by omega) (by omega)).mono ?_; rintro e w1 ⟨one, lo1, lo2, rfl, hb, oo, ao, m1, m2⟩; have hbx : Below wr.heap.size wr w1 := (by first | exact below_of_drew hb | exact bad hb | exact badS2 hb); have sz0 := hbx.size; replace T0 := cell_later hbx T0; replace T1 := cell_later hbx T1; replace T2 := cell_later hbx T2; replace T3 := cell_later hbx T3; replace E0 := cell_later hbx E0; replace E1 := cell_later hbx E1; replace E2 := cell_later hbx E2; replace E3 := cell_later hbx E3; (try (replace g0 := cell_later hbx g0; replace g1 := cell_later hbx g1; replace g2 := cell_later hbx g2; replace g3 := cell_later hbx g3)); (first | (have chk := g0; clear chk) | (refine cutP (p := w1.cell? ⟨wr.heap.size, 0, none⟩ = some (.bool y.1.num.g) ∧ w1.cell? ⟨wr.heap.size, 1, none⟩ = some (.slice y.1.num.a y.1.num.n y.1.num.c) ∧ w1.cell? ⟨wr.heap.size, 2, none⟩ = some (.bool y.1.den.g) ∧ w1.cell? ⟨wr.heap.size, 3, none⟩ = some (.slice y.1.den.a y.1.den.n y.1.den.c)) ?_ (fun dd => ?_); (focus (refine ⟨cell_later hb ?_, cell_later hb ?_, cell_later hb ?_, cell_later hb ?_⟩ <;> (simp [go_sem]; done))); obtain ⟨g0, g1, g2, g3⟩ := dd) | (refine cutP (p := w1.cell? ⟨wr.heap.size + 1, 0, none⟩ = some (.bool y.1.num.g) ∧ w1.cell? ⟨wr.heap.size + 1, 1, none⟩ = some (.slice y.1.num.a y.1.num.n y.1.num.c) ∧ w1.cell? ⟨wr.heap.size + 1, 2, none⟩ = some (.bool y.1.den.g) ∧ w1.cell? ⟨wr.heap.size + 1, 3, none⟩ = some (.slice y.1.den.a y.1.den.n y.1.den.c)) ?_ (fun dd => ?_); (focus (refine ⟨cell_later hb ?_, cell_later hb ?_, cell_later hb ?_, cell_later hb ?_⟩ <;> (simp [go_sem]; done))); obtain ⟨g0, g1, g2, g3⟩ := dd) | skip); replace OUTP := hide ((unhide OUTP).later hbx); replace XA := hide ((unhide XA).later hbx); replace YA := hide ((unhide YA).later hbx); replace HB := hide (below_on (unhide HB) hbx); have ONE := hide ao; have DO := hide (isD_one m1 m2); clear hb hbx oo ao m1 m2)
                    | (have chk := MU; clear chk; go_at_call 47; refine (cutS_some ⟨_, 0, none⟩ 1 1 [y] _ ?_ (by omega)).mono ?_; (first | exact lay1c g0 g1 g2 g3 (unhide YA) | exact lay1 (unhide YA)); rintro e w4 ⟨a3, m3, c3, rfl, hb, hc, hp⟩; have hbx : Below w3.heap.size w3 w4 := (by first | exact hb | exact ba hb | exact baS2 hb); have sz3 := hbx.size; replace T0 := cell_later hbx T0; replace T1 := cell_later hbx T1; replace T2 := cell_later hbx T2; replace T3 := cell_later hbx T3; replace E0 := cell_later hbx E0; replace E1 := cell_later hbx E1; replace E2 := cell_later hbx E2; replace E3 := cell_later hbx E3; (try (replace g0 := cell_later hbx g0; replace g1 := cell_later hbx g1; replace g2 := cell_later hbx g2; replace g3 := cell_later hbx g3)); (first | (have chk := g0; clear chk) | (refine cutP (p := w4.cell? ⟨w3.heap.size, 0, none⟩ = some (.bool y.1.num.g) ∧ w4.cell? ⟨w3.heap.size, 1, none⟩ = some (.slice y.1.num.a y.1.num.n y.1.num.c) ∧ w4.cell? ⟨w3.heap.size, 2, none⟩ = some (.bool y.1.den.g) ∧ w4.cell? ⟨w3.heap.size, 3, none⟩ = some (.slice y.1.den.a y.1.den.n y.1.den.c)) ?_ (fun dd => ?_); (focus (refine ⟨cell_later hb ?_, cell_later hb ?_, cell_later hb ?_, cell_later hb ?_⟩ <;> (simp [go_sem]; done))); obtain ⟨g0, g1, g2, g3⟩ := dd) | (refine cutP (p := w4.cell? ⟨w3.heap.size + 1, 0, none⟩ = some (.bool y.1.num.g) ∧ w4.cell? ⟨w3.heap.size + 1, 1, none⟩ = some (.slice y.1.num.a y.1.num.n y.1.num.c) ∧ w4.cell? ⟨w3.heap.size + 1, 2, none⟩ = some (.bool y.1.den.g) ∧ w4.cell? ⟨w3.heap.size + 1, 3, none⟩ = some (.slice y.1.den.a y.1.den.n y.1.den.c)) ?_ (fun dd => ?_); (focus (refine ⟨cell_later hb ?_, cell_later hb ?_, cell_later hb ?_, cell_later hb ?_⟩ <;> (simp [go_sem]; done))); obtain ⟨g0, g1, g2, g3⟩ := dd) | skip); replace OUTP := hide ((unhide OUTP).later hbx); replace XA := hide ((unhide XA).later hbx); replace YA := hide ((unhide YA).later hbx); replace MU := hide ((unhide MU).later hbx); replace HB := hide (below_on (unhide HB) hbx); have em3 := hide (shM3 (unhide DY) hc); have CC := hide hc; have CP := hide hp; clear hb hbx hc hp)
                    | (go_at_call 47; refine (cutS_some ⟨_, 0, none⟩ 2 2 [(x, d), (one, (⟨⟨decide ((1 : Int) < 0), lo1⟩, ⟨decide ((1 : Int) < 0), lo2⟩⟩ : QD))] _ ?_ (by omega)).mono ?_; (first | exact lay2 (unhide XA) (unhide ONE) | exact lay2' (unhide XA) (unhide ONE) | exact (lay2 (unhide XA) (unhide ONE)).later ((Below.refl _ _).alloc (Nat.le_refl _) _)); rintro e w2 ⟨a1, m1, c1, rfl, hb, hc, hp⟩; have hbx : Below w1.heap.size w1 w2 := (by first | exact hb | exact ba hb | exact baS2 hb); have sz1 := hbx.size; replace T0 := cell_later hbx T0; replace T1 := cell_later hbx T1; replace T2 := cell_later hbx T2; replace T3 := cell_later hbx T3; replace E0 := cell_later hbx E0; replace E1 := cell_later hbx E1; replace E2 := cell_later hbx E2; replace E3 := cell_later hbx E3; (try (replace g0 := cell_later hbx g0; replace g1 := cell_later hbx g1; replace g2 := cell_later hbx g2; replace g3 := cell_later hbx g3)); (first | (have chk := g0; clear chk) | (refine cutP (p := w2.cell? ⟨w1.heap.size, 0, none⟩ = some (.bool y.1.num.g) ∧ w2.cell? ⟨w1.heap.size, 1, none⟩ = some (.slice y.1.num.a y.1.num.n y.1.num.c) ∧ w2.cell? ⟨w1.heap.size, 2, none⟩ = some (.bool y.1.den.g) ∧ w2.cell? ⟨w1.heap.size, 3, none⟩ = some (.slice y.1.den.a y.1.den.n y.1.den.c)) ?_ (fun dd => ?_); (focus (refine ⟨cell_later hb ?_, cell_later hb ?_, cell_later hb ?_, cell_later hb ?_⟩ <;> (simp [go_sem]; done))); obtain ⟨g0, g1, g2, g3⟩ := dd) | (refine cutP (p := w2.cell? ⟨w1.heap.size + 1, 0, none⟩ = some (.bool y.1.num.g) ∧ w2.cell? ⟨w1.heap.size + 1, 1, none⟩ = some (.slice y.1.num.a y.1.num.n y.1.num.c) ∧ w2.cell? ⟨w1.heap.size + 1, 2, none⟩ = some (.bool y.1.den.g) ∧ w2.cell? ⟨w1.heap.size + 1, 3, none⟩ = some (.slice y.1.den.a y.1.den.n y.1.den.c)) ?_ (fun dd => ?_); (focus (refine ⟨cell_later hb ?_, cell_later hb ?_, cell_later hb ?_, cell_later hb ?_⟩ <;> (simp [go_sem]; done))); obtain ⟨g0, g1, g2, g3⟩ := dd) | skip); replace OUTP := hide ((unhide OUTP).later hbx); replace XA := hide ((unhide XA).later hbx); replace YA := hide ((unhide YA).later hbx); replace HB := hide (below_on (unhide HB) hbx); have em1 := cut_two (unhide DX) (unhide DO) hc; subst em1; have CU := hide hp; have GQ2 := hide (isL_gq (qs := [A, 1]) (l := [(x, d), (one, (⟨⟨decide ((1 : Int) < 0), lo1⟩, ⟨decide ((1 : Int) < 0), lo2⟩⟩ : QD))]) (isL_two (unhide DX) (unhide DO)) (fun q hq => by rcases List.mem_cons.1 hq with rfl | hq; exact (unhide KA).mono (by omega); rw [List.mem_singleton.1 hq]; exact bdR_one.mono (by omega))); have GG2 := hide (isL_goods (isL_two (unhide DX) (unhide DO)) (fun q hq => by rcases List.mem_cons.1 hq with rfl | hq; exact (unhide KA).mono (by omega); rw [List.mem_singleton.1 hq]; exact bdR_one.mono (by omega))); clear hb hbx hc hp)
                    | (go_at_call 46; refine (mulS7 a' n' c' us a1 2 c1 [(x, d), (one, (⟨⟨decide ((1 : Int) < 0), lo1⟩, ⟨decide ((1 : Int) < 0), lo2⟩⟩ : QD))] _ ?_ ?_ (unhide GQ1) (unhide GQ2) (by omega) (by omega)).mono ?_; (first | exact (unhide OUTP) | exact (unhide OUTP).later ((Below.refl _ _).alloc (Nat.le_refl _) _)); (first | exact (unhide CU) | exact (unhide CU).later ((Below.refl _ _).alloc (Nat.le_refl _) _)); rintro e w3 ⟨a2, m2, c2, vs, rfl, hb, il, hc, hp⟩; have hbx : Below w2.heap.size w2 w3 := (by first | exact hb | exact ba hb | exact baS2 hb); have sz2 := hbx.size; replace T0 := cell_later hbx T0; replace T1 := cell_later hbx T1; replace T2 := cell_later hbx T2; replace T3 := cell_later hbx T3; replace E0 := cell_later hbx E0; replace E1 := cell_later hbx E1; replace E2 := cell_later hbx E2; replace E3 := cell_later hbx E3; (try (replace g0 := cell_later hbx g0; replace g1 := cell_later hbx g1; replace g2 := cell_later hbx g2; replace g3 := cell_later hbx g3)); (first | (have chk := g0; clear chk) | (refine cutP (p := w3.cell? ⟨w2.heap.size, 0, none⟩ = some (.bool y.1.num.g) ∧ w3.cell? ⟨w2.heap.size, 1, none⟩ = some (.slice y.1.num.a y.1.num.n y.1.num.c) ∧ w3.cell? ⟨w2.heap.size, 2, none⟩ = some (.bool y.1.den.g) ∧ w3.cell? ⟨w2.heap.size, 3, none⟩ = some (.slice y.1.den.a y.1.den.n y.1.den.c)) ?_ (fun dd => ?_); (focus (refine ⟨cell_later hb ?_, cell_later hb ?_, cell_later hb ?_, cell_later hb ?_⟩ <;> (simp [go_sem]; done))); obtain ⟨g0, g1, g2, g3⟩ := dd) | (refine cutP (p := w3.cell? ⟨w2.heap.size + 1, 0, none⟩ = some (.bool y.1.num.g) ∧ w3.cell? ⟨w2.heap.size + 1, 1, none⟩ = some (.slice y.1.num.a y.1.num.n y.1.num.c) ∧ w3.cell? ⟨w2.heap.size + 1, 2, none⟩ = some (.bool y.1.den.g) ∧ w3.cell? ⟨w2.heap.size + 1, 3, none⟩ = some (.slice y.1.den.a y.1.den.n y.1.den.c)) ?_ (fun dd => ?_); (focus (refine ⟨cell_later hb ?_, cell_later hb ?_, cell_later hb ?_, cell_later hb ?_⟩ <;> (simp [go_sem]; done))); obtain ⟨g0, g1, g2, g3⟩ := dd) | skip); replace OUTP := hide ((unhide OUTP).later hbx); replace XA := hide ((unhide XA).later hbx); replace YA := hide ((unhide YA).later hbx); replace HB := hide (below_on (unhide HB) hbx); have il2 : IsL (rps (cv A (hS A (ps.drop (k + 1))))) (vs.map Prod.snd) := (by have h := il; rw [unhide GG1, show goods ([(x, d), (one, (⟨⟨decide ((1 : Int) < 0), lo1⟩, ⟨decide ((1 : Int) < 0), lo2⟩⟩ : QD))].map Prod.snd) = rps [A, 1] from unhide GG2, noughts_rps, mall_rps] at h; have e := unhide OL; unfold cv; rw [e]; exact h); have em2 := hide (shM2 il2 (unhide TOP) hc); have MI := hide (And.intro il2 hc); have MU := hide hp; clear hb hbx il hc hp il2 CU)
                    | (go_at_call 45; refine (addS7 a2 m2 c2 (vs.take m2) a3 m3 c3 ([y].take m3) _ (unhide MU) (unhide CP) (isL_gq (qs := (cv A (hS A (ps.drop (k + 1)))).take m2) (by rw [List.map_take]; exact isL_take (unhide MI).1 m2) ((unhide CVB).take m2)) (isL_gq (qs := [Q].take m3) (by rw [List.map_take]; exact isL_take (qs := [Q]) (ds := [y.2]) ⟨unhide DY, trivial⟩ m3) (AllB.take (fun q hq => by rw [List.mem_singleton.1 hq]; exact (unhide KQ).mono (by omega)) m3)) (by have h := unhide em2; have := unhide OL; split at h <;> omega) (by have h := unhide em3; split at h <;> omega)).mono ?_; rintro e w5 ⟨a4, m4, c4, us4, rfl, hb, il, hc, hp⟩; have hbx : Below w4.heap.size w4 w5 := (by first | exact hb | exact ba hb | exact baS2 hb); have sz4 := hbx.size; replace T0 := cell_later hbx T0; replace T1 := cell_later hbx T1; replace T2 := cell_later hbx T2; replace T3 := cell_later hbx T3; replace E0 := cell_later hbx E0; replace E1 := cell_later hbx E1; replace E2 := cell_later hbx E2; replace E3 := cell_later hbx E3; (try (replace g0 := cell_later hbx g0; replace g1 := cell_later hbx g1; replace g2 := cell_later hbx g2; replace g3 := cell_later hbx g3)); (first | (have chk := g0; clear chk) | (refine cutP (p := w5.cell? ⟨w4.heap.size, 0, none⟩ = some (.bool y.1.num.g) ∧ w5.cell? ⟨w4.heap.size, 1, none⟩ = some (.slice y.1.num.a y.1.num.n y.1.num.c) ∧ w5.cell? ⟨w4.heap.size, 2, none⟩ = some (.bool y.1.den.g) ∧ w5.cell? ⟨w4.heap.size, 3, none⟩ = some (.slice y.1.den.a y.1.den.n y.1.den.c)) ?_ (fun dd => ?_); (focus (refine ⟨cell_later hb ?_, cell_later hb ?_, cell_later hb ?_, cell_later hb ?_⟩ <;> (simp [go_sem]; done))); obtain ⟨g0, g1, g2, g3⟩ := dd) | (refine cutP (p := w5.cell? ⟨w4.heap.size + 1, 0, none⟩ = some (.bool y.1.num.g) ∧ w5.cell? ⟨w4.heap.size + 1, 1, none⟩ = some (.slice y.1.num.a y.1.num.n y.1.num.c) ∧ w5.cell? ⟨w4.heap.size + 1, 2, none⟩ = some (.bool y.1.den.g) ∧ w5.cell? ⟨w4.heap.size + 1, 3, none⟩ = some (.slice y.1.den.a y.1.den.n y.1.den.c)) ?_ (fun dd => ?_); (focus (refine ⟨cell_later hb ?_, cell_later hb ?_, cell_later hb ?_, cell_later hb ?_⟩ <;> (simp [go_sem]; done))); obtain ⟨g0, g1, g2, g3⟩ := dd) | skip); replace OUTP := hide ((unhide OUTP).later hbx); replace XA := hide ((unhide XA).later hbx); replace YA := hide ((unhide YA).later hbx); replace HB := hide (below_on (unhide HB) hbx); have ST := shStep (unhide KA) (unhide KQ) (unhide OB) (unhide MI).1 (unhide MI).2 (unhide DY) (unhide CC) (unhide TOP) (unhide BOT) il hc; have NW := hide (And.intro ST.1 ST.2.1); rw [ST.2.2] at hp; have NP := hide hp; clear hb hbx il hc hp ST))
            all_goals go_wp2
            all_goals go_roundw
            all_goals (first | (simp [intOf]; done) | (simp [intOf]; omega; done) | skip)
            all_goals exact ⟨k, a4, m4, c4, us4, by omega, rfl, by go_num, by have := (unhide NW).2; have := unhide OL; omega, NP, hide (by rw [unhide ED]; exact (unhide NW).1), HB, hide T0, hide T1, hide T2, hide T3⟩
end Go.Proofs.YtcbmecnipldcfaaGreat
namespace Go.Proofs.YtcbmecnipldcfaaGreat
open Go.RowKit
set_option linter.unusedVariables false
set_option maxRecDepth 100000
set_option linter.unusedSimpArgs false

set_option maxRecDepth 100000 in
set_option maxHeartbeats 16000000 in
theorem shI (a : Option Addr) (n c : Nat) (l : List (QV × QD)) (x : QV) (ps : List Rat) (A : Rat) (w : World) (h : PArQ w a n c l) (hg : gP (l.map Prod.snd) = true) (hp : goods (l.map Prod.snd) = rps ps) (hx : IsQ w x (rp A).1 (rp A).2) (hA : BdR A 6) (hB : AllB ps 6) :
    Calls Tryz.prog 54 #[.slice a n c, .agg #[.bool x.num.g, .slice x.num.a x.num.n x.num.c, .bool x.den.g, .slice x.den.a x.den.n x.den.c]] w (OutP w (rps (hS A ps))) := by
  have n7 : n ≤ 7 := by have := (gP_mem hg).1; rw [List.length_map, h.len] at this; exact this
  have pl : ps.length = n := by have := congrArg List.length hp; unfold goods rps at this; simp only [List.length_map] at this; rw [← this]; exact h.len
  have HG := hide hg
  have HP := hide hp
  have HX := hide hx
  have KA := hide hA
  have KP := hide hB
  have HS := hide h
  clear h hg hp hx hA hB
  have al : Below w.heap.size w (w.alloc (.cells #[.bool x.num.g, .slice x.num.a x.num.n x.num.c, .bool x.den.g, .slice x.den.a x.den.n x.den.c] 32)) := (Below.refl _ _).alloc (Nat.le_refl _) _
  go_enter Tryz.func54, Tryz.ntmps54
  go_wp2_with fail
  refine (copyPo a n c l _ ((unhide HS).later al) (unhide HG)).mono ?_
  rintro e w1 ⟨us0, rfl, hb, hlt, po, il, ls⟩
  rw [unhide HP] at il
  have T0 : w1.cell? ⟨w.heap.size, 0, none⟩ = some (.bool x.num.g) := cell_later hb (by simp [go_sem])
  have T1 : w1.cell? ⟨w.heap.size, 1, none⟩ = some (.slice x.num.a x.num.n x.num.c) := cell_later hb (by simp [go_sem])
  have T2 : w1.cell? ⟨w.heap.size, 2, none⟩ = some (.bool x.den.g) := cell_later hb (by simp [go_sem])
  have T3 : w1.cell? ⟨w.heap.size, 3, none⟩ = some (.slice x.den.a x.den.n x.den.c) := cell_later hb (by simp [go_sem])
  have e1 : (w.alloc (.cells #[.bool x.num.g, .slice x.num.a x.num.n x.num.c, .bool x.den.g, .slice x.den.a x.den.n x.den.c] 32)).heap.size = w.heap.size + 1 := by simp
  rw [e1] at hlt po
  rw [e1]
  have PO0 := hide po
  have IL0 := hide il
  have LS0 := hide ls
  have HB0 := hide (below_on al hb)
  have hu0 := po.len
  clear po il ls hb al e1
  go_wp2
  go_loopw [12] (fun iv wr => ∃ (r : Nat) (us : List (QV × QD)), r ≤ n ∧ iv = .int .i64 r ∧ us.length = n ∧ w.heap.size + 1 < wr.heap.size ∧ Hid (IsL (rps (rnds A ps r)) (us.map Prod.snd)) ∧ Hid (∃ M, wr.ownsRow (w.heap.size + 1) 32 4 (.slice (some ⟨w.heap.size + 1, 0, none⟩) n n) n M ∧ ∀ i (h : i < us.length), M[i * 4]? = some (.bool us[i].1.num.g) ∧ M[i * 4 + 1]? = some (.slice us[i].1.num.a us[i].1.num.n us[i].1.num.c) ∧ M[i * 4 + 2]? = some (.bool us[i].1.den.g) ∧ M[i * 4 + 3]? = some (.slice us[i].1.den.a us[i].1.den.n us[i].1.den.c)) ∧ Hid (AllOwn (w.heap.size + 1 + 1) wr.heap.size wr (zipPQ us)) ∧ Hid (∀ p ∈ us, AllAr wr [(p.1.num, p.2.num), (p.1.den, p.2.den)]) ∧ Hid (∀ p ∈ us, p.1.num.n ≤ 90000 ∧ p.1.den.n ≤ 90000) ∧ Hid (Below w.heap.size w wr) ∧ Hid (wr.cell? ⟨w.heap.size, 0, none⟩ = some (.bool x.num.g)) ∧ Hid (wr.cell? ⟨w.heap.size, 1, none⟩ = some (.slice x.num.a x.num.n x.num.c)) ∧ Hid (wr.cell? ⟨w.heap.size, 2, none⟩ = some (.bool x.den.g)) ∧ Hid (wr.cell? ⟨w.heap.size, 3, none⟩ = some (.slice x.den.a x.den.n x.den.c))) (fun iv _ => n - (intOf iv).toNat)
  case atStart => exact ⟨0, us0, Nat.zero_le _, rfl, hu0, by omega, IL0, hide (unhide PO0).row, hide (unhide PO0).own, hide (unhide PO0).ar, hide (fun p hp => by have := unhide LS0 p hp; omega), HB0, hide T0, hide T1, hide T2, hide T3⟩
  case round =>
    clear IL0 PO0 LS0 HB0 hu0 T0 T1 T2 T3 hlt
    obtain ⟨r, us, hr, rfl, hu, z1, ED, EM, OO, AA, LS, HB, T0, T1, T2, T3⟩ := hrel
    obtain ⟨wp, hwp⟩ : ∃ x, x = wr := ⟨_, rfl⟩
    subst hwp
    by_cases hlt : r < n
    · have hlt' : (r : Int) < (n : Int) := by omega
      have n0 : 1 ≤ n := by omega
      have UB : Hid (AllB (rnds A ps r) (mB r)) := hide (rnds_bd (unhide KA) (unhide KP) (by omega) (by omega))
      have UL : Hid ((rnds A ps r).length = n) := hide (by rw [rnds_len (by omega)]; exact pl)
      have ED2 : Hid (IsL (rps (inn A (rnds A ps r) (n - 1))) (us.map Prod.snd)) := hide (by have h := inn_start (a := A) (u := rnds A ps r) (by rw [unhide UL]; omega); rw [unhide UL] at h; rw [h]; exact unhide ED)
      clear ED
      go_wp2
      go_loopw [7] (fun iv wq => ∃ (k : Nat) (us : List (QV × QD)), r ≤ k ∧ k ≤ n - 1 ∧ iv = .int .i64 ((k : Int) - 1) ∧ us.length = n ∧ w.heap.size + 1 < wq.heap.size ∧ Hid (IsL (rps (inn A (rnds A ps r) k)) (us.map Prod.snd)) ∧ Hid (∃ M, wq.ownsRow (w.heap.size + 1) 32 4 (.slice (some ⟨w.heap.size + 1, 0, none⟩) n n) n M ∧ ∀ i (h : i < us.length), M[i * 4]? = some (.bool us[i].1.num.g) ∧ M[i * 4 + 1]? = some (.slice us[i].1.num.a us[i].1.num.n us[i].1.num.c) ∧ M[i * 4 + 2]? = some (.bool us[i].1.den.g) ∧ M[i * 4 + 3]? = some (.slice us[i].1.den.a us[i].1.den.n us[i].1.den.c)) ∧ Hid (AllOwn (w.heap.size + 1 + 1) wq.heap.size wq (zipPQ us)) ∧ Hid (∀ p ∈ us, AllAr wq [(p.1.num, p.2.num), (p.1.den, p.2.den)]) ∧ Hid (∀ p ∈ us, p.1.num.n ≤ 90000 ∧ p.1.den.n ≤ 90000) ∧ Hid (Below w.heap.size w wq) ∧ Hid (wq.cell? ⟨w.heap.size, 0, none⟩ = some (.bool x.num.g)) ∧ Hid (wq.cell? ⟨w.heap.size, 1, none⟩ = some (.slice x.num.a x.num.n x.num.c)) ∧ Hid (wq.cell? ⟨w.heap.size, 2, none⟩ = some (.bool x.den.g)) ∧ Hid (wq.cell? ⟨w.heap.size, 3, none⟩ = some (.slice x.den.a x.den.n x.den.c))) (fun iv _ => (intOf iv + 1).toNat)
      case atStart => exact ⟨n - 1, us, by omega, Nat.le_refl _, by go_num, hu, z1, ED2, EM, OO, AA, LS, HB, T0, T1, T2, T3⟩
      case round =>
        clear ED2 EM OO AA LS HB hu us T0 T1 T2 T3 z1
        obtain ⟨k, us, hk0, hk1, rfl, hu, z1, ED, EM, OO, AA, LS, HB, T0, T1, T2, T3⟩ := hrel
        obtain ⟨wq, hwq⟩ : ∃ x, x = wr := ⟨_, rfl⟩
        subst hwq
        by_cases hkr : r < k
        · obtain ⟨i, rfl⟩ : ∃ i, k = i + 1 := ⟨k - 1, by omega⟩
          have ei : (((i + 1 : Nat) : Int) - 1) = (i : Int) := by omega
          rw [ei]
          clear ei
          have hge : (r : Int) ≤ (i : Int) := by omega
          have hin : (i : Int) < (n : Int) := by omega
          have hi0 : (0 : Int) ≤ (i : Int) := by omega
          have iw : IntKind.i64.wrap ((i : Int) + 1) = (i : Int) + 1 := by rw [IntKind.wrap_i64]; omega
          have k0 : (0 : Int) ≤ (i : Int) + 1 := by omega
          have k1 : (i : Int) + 1 < (n : Int) := by omega
          have k2 : ((i : Int) + 1).toNat = i + 1 := by omega
          have k3 : ((i : Int)).toNat = i := by omega
          replace T0 := unhide T0
          replace T1 := unhide T1
          replace T2 := unhide T2
          replace T3 := unhide T3
          obtain ⟨xe, hxe⟩ : ∃ xe, xe = us[i]'(by omega) := ⟨_, rfl⟩
          obtain ⟨ye, hye⟩ : ∃ ye, ye = us[i + 1]'(by omega) := ⟨_, rfl⟩
          have MX : Hid (xe ∈ us) := hide (by rw [hxe]; exact List.getElem_mem _)
          have MY : Hid (ye ∈ us) := hide (by rw [hye]; exact List.getElem_mem _)
          obtain ⟨M, hM, hL⟩ := unhide EM
          have sx := hL i (by omega)
          rw [← hxe] at sx
          have sy := hL (i + 1) (by omega)
          rw [← hye] at sy
          have S0 : wq.cell? ⟨w.heap.size + 1, i * 4, none⟩ = some (.bool xe.1.num.g) := (hM.cellAt _ (by omega)).trans (sx.1)
          have S1 : wq.cell? ⟨w.heap.size + 1, i * 4 + 1, none⟩ = some (.slice xe.1.num.a xe.1.num.n xe.1.num.c) := (hM.cellAt _ (by omega)).trans (sx.2.1)
          have S2 : wq.cell? ⟨w.heap.size + 1, i * 4 + 2, none⟩ = some (.bool xe.1.den.g) := (hM.cellAt _ (by omega)).trans (sx.2.2.1)
          have S3 : wq.cell? ⟨w.heap.size + 1, i * 4 + 3, none⟩ = some (.slice xe.1.den.a xe.1.den.n xe.1.den.c) := (hM.cellAt _ (by omega)).trans (sx.2.2.2)
          have Y0 : wq.cell? ⟨w.heap.size + 1, (i + 1) * 4, none⟩ = some (.bool ye.1.num.g) := (hM.cellAt _ (by omega)).trans (sy.1)
          have Y1 : wq.cell? ⟨w.heap.size + 1, (i + 1) * 4 + 1, none⟩ = some (.slice ye.1.num.a ye.1.num.n ye.1.num.c) := (hM.cellAt _ (by omega)).trans (sy.2.1)
          have Y2 : wq.cell? ⟨w.heap.size + 1, (i + 1) * 4 + 2, none⟩ = some (.bool ye.1.den.g) := (hM.cellAt _ (by omega)).trans (sy.2.2.1)
          have Y3 : wq.cell? ⟨w.heap.size + 1, (i + 1) * 4 + 3, none⟩ = some (.slice ye.1.den.a ye.1.den.n ye.1.den.c) := (hM.cellAt _ (by omega)).trans (sy.2.2.2)
          have CL : Hid ((inn A (rnds A ps r) (i + 1)).length = n) := hide (by rw [inn_len (by rw [unhide UL]; omega), unhide UL])
          have CB : Hid (AllB (inn A (rnds A ps r) (i + 1)) 72600) := hide (fun q hq => (inn_bd (unhide KA) (unhide UB) (by omega) (by omega) (by rw [unhide UL]; omega) q hq).mono (mB_le (by omega)))
          have CX : Hid (IsD (rp (ct (inn A (rnds A ps r) (i + 1)) i)) xe.2) := hide (by
            refine (unhide ED).get i (c := rp (ct (inn A (rnds A ps r) (i + 1)) i)) ?_ (by rw [List.getElem?_map, List.getElem?_eq_getElem (by omega), ← hxe]; rfl)
            unfold rps; rw [List.getElem?_map, ct_get (by rw [unhide CL]; omega)]; rfl)
          have CY : Hid (IsD (rp (ct (inn A (rnds A ps r) (i + 1)) (i + 1))) ye.2) := hide (by
            refine (unhide ED).get (i + 1) (c := rp (ct (inn A (rnds A ps r) (i + 1)) (i + 1))) ?_ (by rw [List.getElem?_map, List.getElem?_eq_getElem (by omega), ← hye]; rfl)
            unfold rps; rw [List.getElem?_map, ct_get (by rw [unhide CL]; omega)]; rfl)
          clear sx sy hM hL hxe hye M
          have ES : Hid (rps (inn A (rnds A ps r) i) = (rps (inn A (rnds A ps r) (i + 1))).set i (mulAt (rp (ct (inn A (rnds A ps r) (i + 1)) i)) (rp (ct (inn A (rnds A ps r) (i + 1)) (i + 1))) (rp A))) := hide (by
            rw [mulAt_rp, ← inn_step (by rw [unhide UL]; omega)]
            unfold rps
            rw [List.map_set])
          have GX : Hid (0 < (rp (ct (inn A (rnds A ps r) (i + 1)) i)).2 ∧ Bd (rp (ct (inn A (rnds A ps r) (i + 1)) i)).1 100000 ∧ Bd (rp (ct (inn A (rnds A ps r) (i + 1)) i)).2 100000) := hide ⟨rp_pos _, ((unhide CB).ct (by omega) i).n.mono (by omega), ((unhide CB).ct (by omega) i).d.mono (by omega)⟩
          have GY : Hid (0 < (rp (ct (inn A (rnds A ps r) (i + 1)) (i + 1))).2 ∧ Bd (rp (ct (inn A (rnds A ps r) (i + 1)) (i + 1))).1 72600 ∧ Bd (rp (ct (inn A (rnds A ps r) (i + 1)) (i + 1))).2 72600) := hide ⟨rp_pos _, ((unhide CB).ct (by omega) (i + 1)).n, ((unhide CB).ct (by omega) (i + 1)).d⟩
          have GZ : Hid (0 < (rp A).2 ∧ Bd (rp A).1 6 ∧ Bd (rp A).2 6) := hide ⟨rp_pos _, (unhide KA).n, (unhide KA).d⟩
          have NB : Hid (Bd (mulAt (rp (ct (inn A (rnds A ps r) (i + 1)) i)) (rp (ct (inn A (rnds A ps r) (i + 1)) (i + 1))) (rp A)).1 72600 ∧ Bd (mulAt (rp (ct (inn A (rnds A ps r) (i + 1)) i)) (rp (ct (inn A (rnds A ps r) (i + 1)) (i + 1))) (rp A)).2 72600) := hide (by
            have hb := (inn_bd (k := i) (unhide KA) (unhide UB) (by omega) (by omega) (by rw [unhide UL]; omega)).ct (mB_pos _) i
            rw [← inn_step (by rw [unhide UL]; omega), ct_set (by rw [unhide CL]; omega), if_pos rfl] at hb
            rw [mulAt_rp]
            have hm := hb.mono (mB_le (by omega))
            exact ⟨hm.n, hm.d⟩)
          obtain ⟨CS2, hCS2⟩ : ∃ CS2, CS2 = rps (inn A (rnds A ps r) i) := ⟨_, rfl⟩
          rw [← hCS2] at ES
          have HC2 := hide hCS2
          clear hCS2
          have IZ : Hid (IsQ wq x (rp A).1 (rp A).2) := hide ((unhide HX).later (unhide HB))
          obtain ⟨CS, hCS⟩ : ∃ CS, CS = rps (inn A (rnds A ps r) (i + 1)) := ⟨_, rfl⟩
          rw [← hCS] at ES ED
          obtain ⟨cx, hcx⟩ : ∃ cx, cx = rp (ct (inn A (rnds A ps r) (i + 1)) i) := ⟨_, rfl⟩
          obtain ⟨cy, hcy⟩ : ∃ cy, cy = rp (ct (inn A (rnds A ps r) (i + 1)) (i + 1)) := ⟨_, rfl⟩
          obtain ⟨cz, hcz⟩ : ∃ cz, cz = rp A := ⟨_, rfl⟩
          rw [← hcx] at GX NB ES CX
          rw [← hcy] at GY NB ES CY
          rw [← hcz] at GZ NB ES IZ
          clear hcx hcy hcz hCS CL CB
          have MM : Hid (0 < lowD (cy.1 * cz.1) (cy.2 * cz.2) ∧ Bd (lowN (cy.1 * cz.1) (cy.2 * cz.2)) 100000 ∧ Bd (lowD (cy.1 * cz.1) (cy.2 * cz.2)) 100000) := hide ⟨lowD_pos (sum_ne (unhide GY).1 (unhide GZ).1), (lowN_bd ((unhide GY).2.1.mul (unhide GZ).2.1)).mono (by omega), (lowD_bd ((unhide GY).2.2.mul (unhide GZ).2.2)).mono (by omega)⟩
          have IX : Hid (IsQ wq xe.1 cx.1 cx.2) := hide (isQ_isD (unhide AA xe (unhide MX)) (unhide CX))
          have IY : Hid (IsQ wq ye.1 cy.1 cy.2) := hide (isQ_isD (unhide AA ye (unhide MY)) (unhide CY))
          go_upto_region 8 with fail
          have SD0 := cd_other S0
          have SD1 := cd_other S1
          have SD2 := cd_other S2
          have SD3 := cd_other S3
          have YD0 := cd_other Y0
          have YD1 := cd_other Y1
          have YD2 := cd_other Y2
          have YD3 := cd_other Y3
          have TD0 := cd_other T0
          have TD1 := cd_other T1
          have TD2 := cd_other T2
          have TD3 := cd_other T3
          go_region_with
            (first
            | (go_at_call 96; refine (mulQI ye.1 x cy.1 cy.2 cz.1 cz.2 _ ?_ ?_ (sum_ne (unhide GY).1 (unhide GZ).1) ((unhide GY).2.1.mono (by omega)) ((unhide GY).2.2.mono (by omega)) ((unhide GZ).2.1.mono (by omega)) ((unhide GZ).2.2.mono (by omega))).mono ?_; exact (unhide IY).drew; exact (unhide IZ).drew; rintro e w2 ⟨mm, lz, lm, rfl, hb1, o2, a2, m1, m2⟩; have hbx := below_of_drew hb1; have sz2 := hbx.size; have IM := hide (isQ_of a2 m1 m2); replace T0 := cell_later hbx T0; replace T1 := cell_later hbx T1; replace T2 := cell_later hbx T2; replace T3 := cell_later hbx T3; replace S0 := cell_later hbx S0; replace S1 := cell_later hbx S1; replace S2 := cell_later hbx S2; replace S3 := cell_later hbx S3; replace Y0 := cell_later hbx Y0; replace Y1 := cell_later hbx Y1; replace Y2 := cell_later hbx Y2; replace Y3 := cell_later hbx Y3; replace HB := hide (below_on (unhide HB) hbx); replace EM := hide (row_later (unhide EM) hbx); replace OO := hide ((unhide OO).later hbx); replace AA := hide (fun p hp => ((unhide AA) p hp).later hbx); replace IX := hide ((unhide IX).later hbx); clear hbx hb1 o2 a2 m1 m2 SD0 SD1 SD2 SD3 YD0 YD1 YD2 YD3 TD0 TD1 TD2 TD3)
            | (go_at_call 95; refine (addQI xe.1 mm cx.1 cx.2 (lowN (cy.1 * cz.1) (cy.2 * cz.2)) (lowD (cy.1 * cz.1) (cy.2 * cz.2)) _ (unhide IX) (unhide IM) (sum_ne (unhide GX).1 (unhide MM).1) (unhide GX).2.1 (unhide GX).2.2 (unhide MM).2.1 (unhide MM).2.2).mono ?_; rintro e w3 ⟨u, lu, lv, rfl, hb2, o3, a3, m1, m2⟩; have sz3 := hb2.size; have AU := hide (show AllOwn w2.heap.size w3.heap.size w3 [(u.num, ⟨decide ((mulAt cx cy cz).1 < 0), lu⟩), (u.den, ⟨decide ((mulAt cx cy cz).2 < 0), lv⟩)] from o3); have AV := hide (show AllAr w3 [(u.num, ⟨decide ((mulAt cx cy cz).1 < 0), lu⟩), (u.den, ⟨decide ((mulAt cx cy cz).2 < 0), lv⟩)] from a3); have NU := hide (show Nm lu (mulAt cx cy cz).1.natAbs ∧ Nm lv (mulAt cx cy cz).2.natAbs from ⟨m1, m2⟩); replace T0 := cell_later hb2 T0; replace T1 := cell_later hb2 T1; replace T2 := cell_later hb2 T2; replace T3 := cell_later hb2 T3; replace HB := hide (below_on (unhide HB) hb2); replace EM := hide (row_later (unhide EM) hb2); replace OO := hide ((unhide OO).later hb2); replace AA := hide (fun p hp => ((unhide AA) p hp).later hb2); obtain ⟨M, hM, hL⟩ := unhide EM; obtain ⟨x_0, old0⟩ : ∃ x, w3.cell? ⟨w.heap.size + 1, i * 4, none⟩ = some x := ⟨_, (hM.cellAt _ (by omega)).trans (List.getElem?_eq_getElem (by have := hM.1; omega))⟩; obtain ⟨x_1, old1⟩ : ∃ x, w3.cell? ⟨w.heap.size + 1, i * 4 + 1, none⟩ = some x := ⟨_, (hM.cellAt _ (by omega)).trans (List.getElem?_eq_getElem (by have := hM.1; omega))⟩; obtain ⟨x_2, old2⟩ : ∃ x, w3.cell? ⟨w.heap.size + 1, i * 4 + 2, none⟩ = some x := ⟨_, (hM.cellAt _ (by omega)).trans (List.getElem?_eq_getElem (by have := hM.1; omega))⟩; obtain ⟨x_3, old3⟩ : ∃ x, w3.cell? ⟨w.heap.size + 1, i * 4 + 3, none⟩ = some x := ⟨_, (hM.cellAt _ (by omega)).trans (List.getElem?_eq_getElem (by have := hM.1; omega))⟩; have fr : ∀ o, w3.frozen? ⟨w.heap.size + 1, o, none⟩ = false := fun o => hM.frozenAt o; have HM := hide hM; have HL := hide hL; clear hM hL hb2 o3 a3 m1 m2 EM S0 S1 S2 S3 Y0 Y1 Y2 Y3 IX IM))
          all_goals go_wp2
          all_goals go_roundw
          all_goals (first | (simp [intOf]; done) | (simp [intOf]; omega; done) | skip)
          all_goals
            have hM := unhide HM
            have bt : But (w.heap.size + 1) (w.heap.size + 1 + 1) w3 ((((w3.setCell ⟨w.heap.size + 1, i * 4, none⟩ (.bool u.num.g)).setCell ⟨w.heap.size + 1, i * 4 + 1, none⟩ (.slice u.num.a u.num.n u.num.c)).setCell ⟨w.heap.size + 1, i * 4 + 2, none⟩ (.bool u.den.g)).setCell ⟨w.heap.size + 1, i * 4 + 3, none⟩ (.slice u.den.a u.den.n u.den.c)) := but_rowQ
            have zs := zip_set (us := us) (k := i) (u := (u, (⟨⟨decide ((mulAt cx cy cz).1 < 0), lu⟩, ⟨decide ((mulAt cx cy cz).2 < 0), lv⟩⟩ : QD))) (by omega)
            have own : AllOwn (w.heap.size + 1 + 1) w3.heap.size w3 (zipPQ (us.set i (u, (⟨⟨decide ((mulAt cx cy cz).1 < 0), lu⟩, ⟨decide ((mulAt cx cy cz).2 < 0), lv⟩⟩ : QD)))) := by
              have o1 := unhide OO
              rw [zs.1] at o1
              rw [zs.2, zipPQ_one (u, _)]
              exact (o1.wide (Nat.le_refl _) (show wq.heap.size ≤ w2.heap.size by omega)).repl (unhide AU) (by omega) (by omega)
            refine ⟨i, us.set i (u, (⟨⟨decide ((mulAt cx cy cz).1 < 0), lu⟩, ⟨decide ((mulAt cx cy cz).2 < 0), lv⟩⟩ : QD)), by omega, by omega, by go_num, by simp [hu], Nat.lt_of_lt_of_le (by omega) bt.size, hide ?_, hide ⟨_, (World.ownsRow.stored (World.ownsRow.stored (World.ownsRow.stored (World.ownsRow.stored hM (i * 4) (.bool u.num.g)).1 (i * 4 + 1) (.slice u.num.a u.num.n u.num.c)).1 (i * 4 + 2) (.bool u.den.g)).1 (i * 4 + 3) (.slice u.den.a u.den.n u.den.c)).1, rep_rowQ hM.1 hu (by omega) (unhide HL)⟩, hide ?_, hide ?_, hide ?_, hide ?_, hide (bt.cell T0 (.inl (by omega))), hide (bt.cell T1 (.inl (by omega))), hide (bt.cell T2 (.inl (by omega))), hide (bt.cell T3 (.inl (by omega)))⟩
            · rw [← unhide HC2, unhide ES, List.map_set]
              exact (unhide ED).set i ⟨rfl, (unhide NU).1, rfl, (unhide NU).2⟩
            · exact (own.but bt (.inr (Nat.le_refl _))).wide (Nat.le_refl _) bt.size
            · intro p hp q hq
              refine ar_fin bt own (fun q hq => ?_) (Nat.le_refl _) q (zipPQ_mem hp hq)
              obtain ⟨p', hp', hq'⟩ := List.mem_flatMap.1 hq
              rcases List.mem_or_eq_of_mem_set hp' with h | h
              · exact (unhide AA) p' h q hq'
              · subst h
                exact (unhide AV) q hq'
            · intro p hp
              rcases List.mem_or_eq_of_mem_set hp with h | h
              · exact (unhide LS) p h
              · subst h
                have q1 := (unhide NU).1.len_le (unhide NB).1
                have q2 := (unhide NU).2.len_le (unhide NB).2
                have q3 : lu.length = u.num.n := (unhide AV).head.ar.len
                have q4 : lv.length = u.den.n := (unhide AV).tail.head.ar.len
                show u.num.n ≤ 90000 ∧ u.den.n ≤ 90000
                omega
            · exact bt.below (unhide HB) (by omega) (by have := (unhide HB).size; omega)
        · obtain rfl : k = r := by omega
          have hge : ¬ (k : Int) ≤ (k : Int) - 1 := by omega
          go_wp2
          go_roundw
          case rel => exact ⟨k + 1, us, by omega, by go_num, hu, z1, ED, EM, OO, AA, LS, HB, T0, T1, T2, T3⟩
          case measure => first | (simp [intOf]; done) | (simp [intOf]; omega)
    · obtain rfl : r = n := by omega
      have PO : Hid (POwQ (w.heap.size + 1 + 1) wp.heap.size wp (w.heap.size + 1) r r us) := hide ⟨unhide EM, unhide OO, unhide AA, hu⟩
      have hsz := lenPQ_le (unhide LS)
      have RO := hide ((unhide PO).ro (Nat.lt_succ_self _) (by omega) (by omega) (fun p hp => by have := (unhide LS) p hp; omega))
      have EF : Hid (IsL (rps (hS A ps)) (us.map Prod.snd)) := hide (by have h := unhide ED; rw [← pl, rnds_hS] at h; exact h)
      have hlt' : ¬ (r : Int) < (r : Int) := by omega
      go_wp2
      go_ret
      exact ⟨_, _, _, us, rfl, unhide HB, (unhide RO).wide (by omega) (Nat.le_refl _), (unhide PO).arg, unhide EF⟩
end Go.Proofs.YtcbmecnipldcfaaGreat
namespace Go.Proofs.YtcbmecnipldcfaaGreat
open Go.RowKit
set_option linter.unusedVariables false
set_option maxRecDepth 100000
set_option linter.unusedSimpArgs false

set_option maxHeartbeats 2000000 in
theorem coefI7 (x : QV) (d : QD) (w : World) (h : AllAr w [(x.num, d.num), (x.den, d.den)]) : Calls Tryz.prog 52 #[.agg #[.bool x.num.g, .slice x.num.a x.num.n x.num.c, .bool x.den.g, .slice x.den.a x.den.n x.den.c]] w fun e w' => e = .returned (.bool (gC d)) ∧ Below w.heap.size w w' := by
  have CL := hide (fun w1 (k : AllAr w1 [(x.num, d.num), (x.den, d.den)]) => longI x d w1 k)
  unfold gC
  cases hs : sm d
  · rw [hs] at CL
    rw [Bool.false_and]
    have H1 := hide h
    clear h
    have B0 := hide (show Below w.heap.size w (w.alloc (.cells #[.bool x.num.g, .slice x.num.a x.num.n x.num.c, .bool x.den.g, .slice x.den.a x.den.n x.den.c] 32)) from ((Below.refl _ _).alloc (by simp) _))
    go_enter Tryz.func52, Tryz.ntmps52
    go_wp2_with fail
    refine (unhide CL _ ((unhide H1).later (unhide B0))).mono ?_
    rintro e w1 ⟨rfl, hb⟩
    have HB := hide (below_on (unhide B0) hb)
    clear hb
    go_wp2
    go_ret
    exact ⟨rfl, unhide HB⟩
  · rw [hs] at CL
    rw [Bool.true_and]
    have H1 := hide h
    clear h
    have B0 := hide (show Below w.heap.size w (w.alloc (.cells #[.bool x.num.g, .slice x.num.a x.num.n x.num.c, .bool x.den.g, .slice x.den.a x.den.n x.den.c] 32)) from ((Below.refl _ _).alloc (by simp) _))
    go_enter Tryz.func52, Tryz.ntmps52
    go_wp2_with fail
    refine (unhide CL _ ((unhide H1).later (unhide B0))).mono ?_
    rintro e w1 ⟨rfl, hb⟩
    have k0_0 : w1.cell? ⟨w.heap.size, 0, none⟩ = some (.bool x.num.g) := cell_later hb (by simp [go_sem])
    have k0_1 : w1.cell? ⟨w.heap.size, 1, none⟩ = some (.slice x.num.a x.num.n x.num.c) := cell_later hb (by simp [go_sem])
    have k0_2 : w1.cell? ⟨w.heap.size, 2, none⟩ = some (.bool x.den.g) := cell_later hb (by simp [go_sem])
    have k0_3 : w1.cell? ⟨w.heap.size, 3, none⟩ = some (.slice x.den.a x.den.n x.den.c) := cell_later hb (by simp [go_sem])
    have HB := hide (below_on (unhide B0) hb)
    clear hb
    go_wp2_with fail
    refine (goodQI x d _ ((unhide H1).later (unhide HB))).mono ?_
    rintro e w2 ⟨rfl, hb⟩
    clear k0_0 k0_1 k0_2 k0_3
    replace HB := hide (below_on (unhide HB) hb)
    clear hb
    go_wp2
    go_ret
    exact ⟨rfl, unhide HB⟩

set_option maxHeartbeats 4000000 in
theorem ShPI (a : Option Addr) (n c : Nat) (l : List (QV × QD)) (x : QV) (d : QD) (w : World) (h : PArQ w a n c l) (hx : AllAr w [(x.num, d.num), (x.den, d.den)]) :
    Calls Tryz.prog 18 #[.slice a n c, .agg #[.bool x.num.g, .slice x.num.a x.num.n x.num.c, .bool x.den.g, .slice x.den.a x.den.n x.den.c]] w (RetPo w (AnsP (gP (l.map Prod.snd) && gC d) (shC (l.map Prod.snd) d))) := by
  obtain ⟨P, hP⟩ : ∃ P : Bool, P = (gP (l.map Prod.snd) && gC d) := ⟨_, rfl⟩
  rw [← hP]
  cases hr : gP (l.map Prod.snd)
  · have CR := hide (fun w1 (k : PArQ w1 a n c l) => GoodPI a n c l w1 k)
    rw [hr] at CR
    have H0 := hide h
    have H1 := hide hx
    clear h hx
    have PN : Hid (P = false) := hide (by rw [hP, hr, Bool.false_and])
    clear hP hr
    have B0 := hide (show Below w.heap.size w (w.alloc (.cells #[.bool x.num.g, .slice x.num.a x.num.n x.num.c, .bool x.den.g, .slice x.den.a x.den.n x.den.c] 32)) from ((Below.refl _ _).alloc (by simp) _))
    go_enter Tryz.func18, Tryz.ntmps18
    go_wp2_with fail
    refine (unhide CR _ ((unhide H0).later (unhide B0))).mono ?_
    rintro e w1 ⟨rfl, hb⟩
    have HB := hide (below_on (unhide B0) hb)
    clear hb
    go_wp2
    go_ret2
    exact ⟨none, 0, 0, [], false, rfl, unhide HB, PRo.none _ _ _, .inr ⟨unhide PN, rfl, rfl⟩⟩
  · cases hs : gC d
    · have CR := hide (fun w1 (k : PArQ w1 a n c l) => GoodPI a n c l w1 k)
      rw [hr] at CR
      have H0 := hide h
      have H1 := hide hx
      clear h hx
      have CL := hide (fun w1 (k : AllAr w1 [(x.num, d.num), (x.den, d.den)]) => coefI7 x d w1 k)
      rw [hs] at CL
      have PN : Hid (P = false) := hide (by rw [hP, hr, hs, Bool.and_false])
      clear hP hr hs
      have B0 := hide (show Below w.heap.size w (w.alloc (.cells #[.bool x.num.g, .slice x.num.a x.num.n x.num.c, .bool x.den.g, .slice x.den.a x.den.n x.den.c] 32)) from ((Below.refl _ _).alloc (by simp) _))
      go_enter Tryz.func18, Tryz.ntmps18
      go_wp2_with fail
      refine (unhide CR _ ((unhide H0).later (unhide B0))).mono ?_
      rintro e w1 ⟨rfl, hb⟩
      have k0_0 : w1.cell? ⟨w.heap.size, 0, none⟩ = some (.bool x.num.g) := cell_later hb (by simp [go_sem])
      have k0_1 : w1.cell? ⟨w.heap.size, 1, none⟩ = some (.slice x.num.a x.num.n x.num.c) := cell_later hb (by simp [go_sem])
      have k0_2 : w1.cell? ⟨w.heap.size, 2, none⟩ = some (.bool x.den.g) := cell_later hb (by simp [go_sem])
      have k0_3 : w1.cell? ⟨w.heap.size, 3, none⟩ = some (.slice x.den.a x.den.n x.den.c) := cell_later hb (by simp [go_sem])
      have HB := hide (below_on (unhide B0) hb)
      clear hb
      go_wp2_with fail
      refine (unhide CL _ ((unhide H1).later (unhide HB))).mono ?_
      rintro e w2 ⟨rfl, hb⟩
      clear k0_0 k0_1 k0_2 k0_3
      replace HB := hide (below_on (unhide HB) hb)
      clear hb
      go_wp2
      go_ret2
      exact ⟨none, 0, 0, [], false, rfl, unhide HB, PRo.none _ _ _, .inr ⟨unhide PN, rfl, rfl⟩⟩
    · have CR := hide (fun w1 (k : PArQ w1 a n c l) => GoodPI a n c l w1 k)
      rw [hr] at CR
      have H0 := hide h
      have H1 := hide hx
      clear h hx
      have CL := hide (fun w1 (k : AllAr w1 [(x.num, d.num), (x.den, d.den)]) => coefI7 x d w1 k)
      rw [hs] at CL
      have PY : Hid (P = true) := hide (by rw [hP, hr, hs]; rfl)
      have GP := hide (goodPs_of (unhide H0) hr)
      have hs2 : sm d = true ∧ gQ d = true := by unfold gC at hs; rw [Bool.and_eq_true] at hs; exact hs
      have JX := isGood_of (unhide H1) hs2.2
      have DQ := hide (good_q JX hs2.1 hs2.2)
      have IX : Hid (IsQ w x (rp (qR d)).1 (rp (qR d)).2) := hide (by have e := qR_rp hs2.2 ⟨JX.pos, JX.low⟩; rw [← e]; exact JX.is)
      have HG := hide hr
      clear hP hr hs hs2 JX
      have B0 := hide (show Below w.heap.size w (w.alloc (.cells #[.bool x.num.g, .slice x.num.a x.num.n x.num.c, .bool x.den.g, .slice x.den.a x.den.n x.den.c] 32)) from ((Below.refl _ _).alloc (by simp) _))
      go_enter Tryz.func18, Tryz.ntmps18
      go_wp2_with fail
      refine (unhide CR _ ((unhide H0).later (unhide B0))).mono ?_
      rintro e w1 ⟨rfl, hb⟩
      have k0_0 : w1.cell? ⟨w.heap.size, 0, none⟩ = some (.bool x.num.g) := cell_later hb (by simp [go_sem])
      have k0_1 : w1.cell? ⟨w.heap.size, 1, none⟩ = some (.slice x.num.a x.num.n x.num.c) := cell_later hb (by simp [go_sem])
      have k0_2 : w1.cell? ⟨w.heap.size, 2, none⟩ = some (.bool x.den.g) := cell_later hb (by simp [go_sem])
      have k0_3 : w1.cell? ⟨w.heap.size, 3, none⟩ = some (.slice x.den.a x.den.n x.den.c) := cell_later hb (by simp [go_sem])
      have HB := hide (below_on (unhide B0) hb)
      clear hb
      go_wp2_with fail
      refine (unhide CL _ ((unhide H1).later (unhide HB))).mono ?_
      rintro e w2 ⟨rfl, hb⟩
      replace k0_0 := cell_later hb k0_0
      replace k0_1 := cell_later hb k0_1
      replace k0_2 := cell_later hb k0_2
      replace k0_3 := cell_later hb k0_3
      replace HB := hide (below_on (unhide HB) hb)
      clear hb
      go_wp2_with fail
      refine (shI a n c l x ((l.map Prod.snd).map qR) (qR d) _ ((unhide H0).later (unhide HB)) (unhide HG) (unhide GP).goods ((unhide IX).later (unhide HB)) (unhide DQ).2 (unhide GP).bd).mono ?_
      rintro e w3 ⟨a1, n1, c1, l1, rfl, hb, ro, ar, il⟩
      have IL := hide il
      have s3 := hb.size
      have s2 := (unhide HB).size
      clear k0_0 k0_1 k0_2 k0_3
      have RO := hide (ro)
      have AR := hide (ar)
      replace HB := hide (below_on (unhide HB) hb)
      clear hb
      clear ro ar il
      go_wp2_with fail
      refine (whereP a1 n1 c1 l1 (shC (l.map Prod.snd) d) w2.heap.size _ (unhide AR) (unhide RO) (unhide IL) (shC_low _ _)).mono ?_
      rintro e w4 ⟨a2, n2, c2, l2, ok, rfl, hb, ro2, hu⟩
      have UU := hide hu
      replace RO := hide ((unhide RO).later hb)
      replace AR := hide ((unhide AR).later hb)
      have RO2 := hide (ro2)
      replace HB := hide (below_on (unhide HB) hb)
      clear hb
      clear ro2 hu
      go_wp2
      go_ret2
      exact ⟨a2, n2, c2, l2, ok, rfl, unhide HB, (unhide RO2).wide s2 (Nat.le_refl _), by rw [unhide PY]; exact unhide UU⟩
end Go.Proofs.YtcbmecnipldcfaaGreat
namespace Go.Proofs.YtcbmecnipldcfaaGreat
open Go.RowKit
set_option linter.unusedVariables false
set_option maxRecDepth 100000
set_option linter.unusedSimpArgs false

structure TlawSh (w wx : World) (v1 : QV) (d1 : QD) : Prop where
  bel : Below w.heap.size w wx
  x1_0 : wx.cell? ⟨w.heap.size, 0, none⟩ = some (.bool v1.num.g)
  x1_1 : wx.cell? ⟨w.heap.size, 1, none⟩ = some (.slice v1.num.a v1.num.n v1.num.c)
  x1_2 : wx.cell? ⟨w.heap.size, 2, none⟩ = some (.bool v1.den.g)
  x1_3 : wx.cell? ⟨w.heap.size, 3, none⟩ = some (.slice v1.den.a v1.den.n v1.den.c)
  s1 : AllSl wx [(v1.num, d1.num), (v1.den, d1.den)]
theorem TlawSh.later {w wx wy : World} {v1 : QV} {d1 : QD} (h : TlawSh w wx v1 d1) (hb : Below wx.heap.size wx wy) : TlawSh w wy v1 d1 :=
  ⟨below_on h.bel hb, cell_later hb h.x1_0, cell_later hb h.x1_1, cell_later hb h.x1_2, cell_later hb h.x1_3, h.s1.later hb⟩
theorem TlawSh.but {w wx wy : World} {v1 : QV} {d1 : QD} {lo hi : Nat} (h : TlawSh w wx v1 d1) (hb : But lo hi wx wy) (hl : w.heap.size + 1 ≤ lo) (hx1 : AllSl w [(v1.num, d1.num), (v1.den, d1.den)]) : TlawSh w wy v1 d1 := by
  have hB := hb.below h.bel (by omega) h.bel.size
  exact ⟨hB, hb.cell h.x1_0 (by omega), hb.cell h.x1_1 (by omega), hb.cell h.x1_2 (by omega), hb.cell h.x1_3 (by omega), hx1.later hB⟩
theorem TlawSh.start (w : World) (v1 : QV) (d1 : QD) (t1 : TypeId) (hx1 : AllSl w [(v1.num, d1.num), (v1.den, d1.den)]) : TlawSh w (w.alloc (.cells #[.bool v1.num.g, .slice v1.num.a v1.num.n v1.num.c, .bool v1.den.g, .slice v1.den.a v1.den.n v1.den.c] t1)) v1 d1 := by
  have hb : Below w.heap.size w (w.alloc (.cells #[.bool v1.num.g, .slice v1.num.a v1.num.n v1.num.c, .bool v1.den.g, .slice v1.den.a v1.den.n v1.den.c] t1)) := ((Below.refl _ _).alloc (by simp) _)
  exact ⟨hb, by simp [go_sem], by simp [go_sem], by simp [go_sem], by simp [go_sem], hx1.later hb⟩
set_option maxRecDepth 100000 in
set_option maxHeartbeats 16000000 in
theorem lawSh_walk (a0 : Option Addr) (n0 c0 : Nat) (l0 : List (QV × QD)) (v1 : QV) (d1 : QD) (w : World) (h0 : PSlQ w a0 l0) (hn0 : l0.length = n0) (hx1 : AllSl w [(v1.num, d1.num), (v1.den, d1.den)]) (hm0 : n0 ≤ maxLen) (ml0 : ∀ p ∈ l0, p.1.num.n ≤ maxLen ∧ p.1.den.n ≤ maxLen) (m1_0 : v1.num.n ≤ maxLen) (m1_1 : v1.den.n ≤ maxLen) :
    Calls Tryz.prog 4 #[.slice a0 n0 c0, .agg #[.bool v1.num.g, .slice v1.num.a v1.num.n v1.num.c, .bool v1.den.g, .slice v1.den.a v1.den.n v1.den.c]] w fun e w' => e = .returned (.bool true) ∧ Below w.heap.size w w' := by
  obtain ⟨U, HU⟩ : ∃ U : List QD → Bool → Prop, Hid (U = AnsP (gP (l0.map Prod.snd) && gC d1) (shC (l0.map Prod.snd) d1)) := ⟨_, hide rfl⟩
  have US : Hid (∀ d ok d' ok', U d ok → U d' ok' → d = d' ∧ ok = ok') := hide (by rw [unhide HU]; exact fun d ok d' ok' h k => h.same k)
  have CS : Hid (∀ (a : Option Addr) (n c : Nat) (k : List (QV × QD)) (q1 : QV) (w : World), PArQ w a n c k → k.map Prod.snd = l0.map Prod.snd → AllAr w [(q1.num, d1.num), (q1.den, d1.den)] → Calls Tryz.prog 15 #[.slice a n c, .agg #[.bool q1.num.g, .slice q1.num.a q1.num.n q1.num.c, .bool q1.den.g, .slice q1.den.a q1.den.n q1.den.c]] w (RetPr w U)) := hide (by rw [unhide HU]; exact fun a n c k q1 w h e hx => (by have h2 := ShPS a n c k q1 d1 w h hx; rw [e] at h2; exact h2))
  have CI : Hid (∀ (a : Option Addr) (n c : Nat) (k : List (QV × QD)) (q1 : QV) (w : World), PArQ w a n c k → k.map Prod.snd = l0.map Prod.snd → AllAr w [(q1.num, d1.num), (q1.den, d1.den)] → Calls Tryz.prog 18 #[.slice a n c, .agg #[.bool q1.num.g, .slice q1.num.a q1.num.n q1.num.c, .bool q1.den.g, .slice q1.den.a q1.den.n q1.den.c]] w (RetPo w U)) := hide (by rw [unhide HU]; exact fun a n c k q1 w h e hx => (by have h2 := ShPI a n c k q1 d1 w h hx; rw [e] at h2; exact h2))
  clear HU
  have SZ0 := hide (fun w1 (left : Int) (b0 : 0 ≤ left) (b1 : left ≤ 1048576) (k : PSlQ w1 a0 l0) => szPQ a0 n0 c0 l0 left w1 k hn0 hm0 ml0 b0 b1)
  have HS0 := hide h0
  have HN0 := hide hn0
  have HX1 := hide hx1
  have MM1 := hide (And.intro m1_0 m1_1)
  clear h0 hn0 hm0 ml0 hx1 m1_0 m1_1
  have T := hide (TlawSh.start w v1 d1 26 (unhide HX1))
  go_enter Tryz.func4, Tryz.ntmps4
  go_wp2_with fail
  refine (unhide SZ0 _ 1048576 (by omega) (by omega) ((unhide HS0).later (unhide T).bel)).mono ?_
  rintro e ws0 ⟨r0, rfl, hb, hr⟩
  have z := hb.size
  replace T := hide ((unhide T).later hb)
  clear hb SZ0
  replace z : w.heap.size + 1 ≤ ws0.heap.size := by simp at z; omega
  by_cases hneg : r0 < 0
  · clear hr
    go_wp2
    go_ret
    exact ⟨rfl, (unhide T).bel⟩
  have e0 : Hid (r0 = 1048576 - (n0 : Int) - (lenPQ l0 : Int)) := hide (by
    rcases hr with e | e
    · exact absurd (show r0 < 0 by omega) hneg
    · exact e.2)
  clear hr
  have b0 : r0 ≤ 1048576 := by have := unhide e0; omega
  have pp0 : 0 ≤ r0 := by omega
  have y0 := (unhide T).x1_0
  have y1 := (unhide T).x1_1
  have y2 := (unhide T).x1_2
  have y3 := (unhide T).x1_3
  by_cases hc1 : r0 < (v1.num.n : Int) + (v1.den.n : Int)
  · go_wp2_with fail
    refine (szQ_out v1 (r0) _ (by omega) (by omega) (unhide MM1).1 (unhide MM1).2 hc1).mono ?_
    rintro e wz ⟨rfl, hb⟩
    replace T := hide ((unhide T).later hb)
    clear hb y0 y1 y2 y3
    go_wp2
    go_ret
    exact ⟨rfl, (unhide T).bel⟩
  have u1 : ¬ (r0 - (v1.num.n : Int) - (v1.den.n : Int) < 0) := by omega
  go_wp2_with fail
  refine (szQ_in v1 (r0) _ (by omega) (by omega) (by omega)).mono ?_
  rintro e wq1 ⟨rfl, hb⟩
  replace z : w.heap.size + 1 ≤ wq1.heap.size := Nat.le_trans z hb.size
  replace T := hide ((unhide T).later hb)
  clear hb y0 y1 y2 y3
  have l1_0 : v1.num.n ≤ 1048576 := by omega
  have l1_1 : v1.den.n ≤ 1048576 := by omega
  have M0 : Hid (∀ p ∈ l0, p.1.num.n ≤ 1048576 ∧ p.1.den.n ≤ 1048576) := hide (fun p hp => by have h1 := lenPQ_mem hp; have h2 : lenQ p = p.1.num.n + p.1.den.n := rfl; have := unhide e0; omega)
  have Z0 : Hid (2 * n0 + lenPQ l0 ≤ 3200000) := hide (by have := unhide e0; omega)
  have TT0 := hide (fun w1 (k : PSlQ w1 a0 l0) => toPQ a0 n0 c0 l0 w1 k (unhide HN0) (by have := unhide e0; omega) (unhide M0))
  go_upto_region 8 with fail
  have ka0 := (unhide T).x1_0
  have ka1 := (unhide T).x1_1
  have ka2 := (unhide T).x1_2
  have ka3 := (unhide T).x1_3
  go_region_held3 (fun w' => w'.cell? ⟨w.heap.size, 0, none⟩ = some (.bool v1.num.g) ∧ w'.cell? ⟨w.heap.size, 1, none⟩ = some (.slice v1.num.a v1.num.n v1.num.c) ∧ w'.cell? ⟨w.heap.size, 2, none⟩ = some (.bool v1.den.g) ∧ w'.cell? ⟨w.heap.size, 3, none⟩ = some (.slice v1.den.a v1.den.n v1.den.c)) (with_reducible (first | exact ⟨ka0, ka1, ka2, ka3⟩ | exact ⟨cd_other ka0, cd_other ka1, cd_other ka2, cd_other ka3⟩ | fail))
    (first
    | (go_at_call 16; refine (unhide TT0 _ ?_).mono ?_; exact ((unhide HS0).later (unhide T).bel).later (Below.refl _ _).drew; rintro e wa0 ⟨lA, rfl, hb, zA, dA, oA⟩; have hbx := below_of_drew hb; have szr0 := hbx.size; replace T := hide ((unhide T).later hbx); replace ka0 := (unhide T).x1_0; replace ka1 := (unhide T).x1_1; replace ka2 := (unhide T).x1_2; replace ka3 := (unhide T).x1_3; have A0 := hide oA; have DA := hide dA; clear hb hbx oA dA zA)
    | (go_at_call_of 17 (Value.agg #[Value.bool v1.num.g, Value.slice v1.num.a v1.num.n v1.num.c, Value.bool v1.den.g, Value.slice v1.den.a v1.den.n v1.den.c]); refine (toQ_at v1 d1 _ ?_ l1_0 l1_1).mono ?_; exact (unhide T).s1; rintro e wa1 ⟨qa1, rfl, hb, hna, ow, ar⟩; have hbx := hb; have szr1 := hbx.size; replace T := hide ((unhide T).later hbx); replace ka0 := (unhide T).x1_0; replace ka1 := (unhide T).x1_1; replace ka2 := (unhide T).x1_2; replace ka3 := (unhide T).x1_3; replace A0 := hide ((unhide A0).later hbx); have A1 := hide ar; clear hb hbx ow ar hna)
    | (go_at_call 15; refine (unhide CS _ _ _ lA qa1 _ ?_ ?_ ?_).mono ?_; exact (unhide A0).arg; exact unhide DA; exact unhide A1; rintro e wv ⟨av, nv, cv, lv, okv, rfl, hb, sv', lnv, uv⟩; have hbx := hb; have szr2 := hbx.size; replace T := hide ((unhide T).later hbx); replace ka0 := (unhide T).x1_0; replace ka1 := (unhide T).x1_1; replace ka2 := (unhide T).x1_2; replace ka3 := (unhide T).x1_3; replace A0 := hide ((unhide A0).later hbx); replace A1 := hide ((unhide A1).later hbx); have SV := hide sv'; have LV := hide lnv; have UV := hide uv; clear sv' lnv uv; clear hb hbx))
  clear A0 DA A1 ka0 ka1 ka2 ka3
  have yw : w.heap.size + 1 ≤ wv.heap.size := by omega
  clear szr0 szr1 szr2
  have HV := hide (Below.refl wv.heap.size wv)
  go_wp2_with fail
  refine (unhide TT0 _ ((unhide HS0).later (unhide T).bel)).mono ?_
  rintro e wx0 ⟨lX, rfl, hb, zX, dX, oX⟩
  have szx0 := hb.size
  replace T := hide ((unhide T).later hb)
  replace HV := hide (below_on (unhide HV) hb)
  have OX := hide oX
  have DX := hide dX
  clear hb dX oX
  have p0 := (unhide T).x1_0
  have p1 := (unhide T).x1_1
  have p2 := (unhide T).x1_2
  have p3 := (unhide T).x1_3
  go_wp2_with fail
  refine (toQ_at v1 d1 _ (unhide T).s1 l1_0 l1_1).mono ?_
  rintro e wx1 ⟨y1, rfl, hb, hnn, ow, ar⟩
  have szx1 := hb.size
  have hn1 := hide hnn
  have VX1 := hide (VarQ.start 32 ow)
  have AX1 := hide (ar.later ((Below.refl _ _).alloc (Nat.le_refl _) (.cells #[.bool y1.num.g, .slice y1.num.a y1.num.n y1.num.c, .bool y1.den.g, .slice y1.den.a y1.den.n y1.den.c] 32)))
  replace T := hide (((unhide T).later hb).later ((Below.refl _ _).alloc (Nat.le_refl _) (.cells #[.bool y1.num.g, .slice y1.num.a y1.num.n y1.num.c, .bool y1.den.g, .slice y1.den.a y1.den.n y1.den.c] 32)))
  replace OX := hide (((unhide OX).later hb).later ((Below.refl _ _).alloc (Nat.le_refl _) (.cells #[.bool y1.num.g, .slice y1.num.a y1.num.n y1.num.c, .bool y1.den.g, .slice y1.den.a y1.den.n y1.den.c] 32)))
  replace HV := hide (below_on (below_on (unhide HV) hb) ((Below.refl _ _).alloc (Nat.le_refl _) (.cells #[.bool y1.num.g, .slice y1.num.a y1.num.n y1.num.c, .bool y1.den.g, .slice y1.den.a y1.den.n y1.den.c] 32)))
  clear hb hnn ow ar p0 p1 p2 p3
  go_wp2_with fail
  refine (unhide CI _ _ _ lX y1 _ (unhide OX).arg (unhide DX) (unhide AX1)).mono ?_
  rintro e wg ⟨ag, ng, cg, lg, okg, rfl, hb, og, ug⟩
  obtain ⟨e1, e2⟩ := unhide US _ _ _ _ (unhide UV) ug
  subst e2
  have szg : wx1.heap.size + 1 ≤ wg.heap.size := by have := hb.size; simp at this; omega
  replace T := hide ((unhide T).later hb)
  replace OX := hide ((unhide OX).later hb)
  replace VX1 := hide ((unhide VX1).later hb)
  replace HV := hide (below_on (unhide HV) hb)
  have DG := hide e1
  have OG := hide (og.wide (B' := wx1.heap.size + 1) (by simp) (Nat.le_refl _))
  clear hb og ug e1 AX1
  have hng : Hid (ng = nv) := hide (by rw [← (unhide OG).len, ← unhide LV]; have h := congrArg List.length (unhide DG); simpa using h.symm)
  obtain rfl := unhide hng
  clear hng
  have PX : Hid (PRo wv.heap.size wx0.heap.size wg (some ⟨wv.heap.size, 0, none⟩) n0 n0 lX) := hide ((unhide OX).ro (Nat.lt_succ_self _) (by omega) (by rw [lenPQ_snd (unhide OX).arg.sl (unhide HS0) (unhide DX)]; exact unhide Z0) (ml_snd (unhide OX).arg.sl (unhide HS0) (unhide DX) (unhide M0)))
  have KL : Hid (lenPQ lX = lenPQ l0 ∧ lX.length = n0) := hide ⟨lenPQ_snd (unhide OX).arg.sl (unhide HS0) (unhide DX), (unhide OX).len⟩
  clear OX
  generalize wx1.heap.size = GX1 at *
  generalize wx0.heap.size = GX0 at *
  have SVa := hide (fun w1 (k : Below wv.heap.size wv w1) => (unhide SV).later k)
  clear SV
  have WW : wg.heap.size ≤ wg.heap.size := Nat.le_refl _
  have GGe : ∃ GG, GG = wg.heap.size := ⟨_, rfl⟩
  obtain ⟨GG, hGG⟩ := GGe
  rw [← hGG] at OG szg
  replace WW : GG ≤ wg.heap.size := by omega
  clear hGG
  have HG : (okv == okv) = true := by simp
  go_wp2_with fail
  refine (eqPQ _ _ _ _ _ lg lv _ (unhide OG).sl (unhide SVa _ (unhide HV)) (unhide OG).len ((unhide DG).symm) (unhide OG).max (unhide OG).lens).mono ?_
  rintro e w31 ⟨rfl, hb⟩
  replace T := hide ((unhide T).later hb)
  replace VX1 := hide ((unhide VX1).later hb)
  replace OG := hide ((unhide OG).later hb)
  replace PX := hide ((unhide PX).later hb)
  replace HV := hide (below_on (unhide HV) hb)
  replace WW : GG ≤ w31.heap.size := Nat.le_trans WW hb.size
  clear hb
  go_wp2_with fail
  refine (unhide TT0 _ ((unhide HS0).later (unhide T).bel)).mono ?_
  rintro e wy0 ⟨lY, rfl, hb, zY, dY, oY⟩
  replace T := hide ((unhide T).later hb)
  replace VX1 := hide ((unhide VX1).later hb)
  replace OG := hide ((unhide OG).later hb)
  replace PX := hide ((unhide PX).later hb)
  replace HV := hide (below_on (unhide HV) hb)
  replace WW : GG ≤ wy0.heap.size := Nat.le_trans WW hb.size
  have OY := hide oY
  have DY := hide dY
  clear hb zY dY oY
  go_wp2_with fail
  refine (eqPQ _ _ n0 _ _ lX lY _ (unhide PX).sl (unhide OY).arg.sl (unhide PX).len ((unhide DX).trans (unhide DY).symm) (unhide PX).max (unhide PX).lens).mono ?_
  rintro e wy1 ⟨rfl, hb⟩
  replace T := hide ((unhide T).later hb)
  replace VX1 := hide ((unhide VX1).later hb)
  replace OG := hide ((unhide OG).later hb)
  replace PX := hide ((unhide PX).later hb)
  replace HV := hide (below_on (unhide HV) hb)
  replace WW : GG ≤ wy1.heap.size := Nat.le_trans WW hb.size
  clear hb OY DY
  go_wp2_with fail
  have ka0 := (unhide T).x1_0
  have kx0 := (unhide VX1).c0
  have ka1 := (unhide T).x1_1
  have kx1 := (unhide VX1).c1
  have ka2 := (unhide T).x1_2
  have kx2 := (unhide VX1).c2
  have ka3 := (unhide T).x1_3
  have kx3 := (unhide VX1).c3
  go_region_held3 (fun w' => w'.cell? ⟨w.heap.size, 0, none⟩ = some (.bool v1.num.g) ∧ w'.cell? ⟨w.heap.size, 1, none⟩ = some (.slice v1.num.a v1.num.n v1.num.c) ∧ w'.cell? ⟨w.heap.size, 2, none⟩ = some (.bool v1.den.g) ∧ w'.cell? ⟨w.heap.size, 3, none⟩ = some (.slice v1.den.a v1.den.n v1.den.c) ∧ w'.cell? ⟨GX1, 0, none⟩ = some (.bool y1.num.g) ∧ w'.cell? ⟨GX1, 1, none⟩ = some (.slice y1.num.a y1.num.n y1.num.c) ∧ w'.cell? ⟨GX1, 2, none⟩ = some (.bool y1.den.g) ∧ w'.cell? ⟨GX1, 3, none⟩ = some (.slice y1.den.a y1.den.n y1.den.c)) (with_reducible (first | exact ⟨ka0, ka1, ka2, ka3, kx0, kx1, kx2, kx3⟩ | exact ⟨cd_other ka0, cd_other ka1, cd_other ka2, cd_other ka3, cd_other kx0, cd_other kx1, cd_other kx2, cd_other kx3⟩ | fail))
    (first
    | (go_at_call 17; refine (toQ_at v1 d1 _ ?_ l1_0 l1_1).mono ?_; exact (unhide T).s1.later (Below.refl _ _).drew; rintro e w7 ⟨u7, rfl, hb', hn7, ow7, ar7⟩; have hb := below_of_drew hb'; replace T := hide ((unhide T).later hb); replace VX1 := hide ((unhide VX1).later hb); replace OG := hide ((unhide OG).later hb); replace PX := hide ((unhide PX).later hb); replace HV := hide (below_on (unhide HV) hb); have Wa := hb.size; replace ka0 := (unhide T).x1_0; replace kx0 := (unhide VX1).c0; replace ka1 := (unhide T).x1_1; replace kx1 := (unhide VX1).c1; replace ka2 := (unhide T).x1_2; replace kx2 := (unhide VX1).c2; replace ka3 := (unhide T).x1_3; replace kx3 := (unhide VX1).c3; have S7 := hide ow7.sl; clear hb hb' ow7 ar7 hn7)
    | (go_at_call 20; refine (eqQ_at y1 u7 d1 _ (unhide VX1).own.sl (unhide S7) (by rw [(unhide hn1).1]; exact (unhide MM1).1) (by rw [(unhide hn1).2]; exact (unhide MM1).2)).mono ?_; rintro e w8 ⟨rfl, hb⟩; replace T := hide ((unhide T).later hb); replace VX1 := hide ((unhide VX1).later hb); replace OG := hide ((unhide OG).later hb); replace PX := hide ((unhide PX).later hb); replace HV := hide (below_on (unhide HV) hb); have Wb := hb.size; replace ka0 := (unhide T).x1_0; replace kx0 := (unhide VX1).c0; replace ka1 := (unhide T).x1_1; replace kx1 := (unhide VX1).c1; replace ka2 := (unhide T).x1_2; replace kx2 := (unhide VX1).c2; replace ka3 := (unhide T).x1_3; replace kx3 := (unhide VX1).c3; clear hb))
  clear S7 ka0 kx0 ka1 kx1 ka2 kx2 ka3 kx3
  replace WW : GG ≤ w8.heap.size := by omega
  clear Wa Wb
  go_wp2_with fail
  refine (markR _ _ _ n0 n0 lX _ (unhide PX) (by omega)).mono ?_
  rintro e wm0 ⟨rfl, hbt, _⟩
  have kb : 0 ≤ enK 1 lX ∧ enK 1 lX = 1 + 2 * (n0 : Int) + (lenPQ l0 : Int) := by rw [enK_eq, (unhide KL).1, (unhide KL).2]; omega
  have kb2 : enK 1 lX + (v1.num.n : Int) + (v1.den.n : Int) ≤ 2200000 := by have := unhide e0; omega
  generalize enK 1 lX = kk at *
  replace T := hide ((unhide T).but hbt (by omega) (unhide HX1))
  replace VX1 := hide ((unhide VX1).but hbt (by omega) (by omega))
  replace OG := hide ((unhide OG).but hbt (.inr (by omega)))
  replace HV := hide (hbt.below (unhide HV) (by omega) (by omega))
  replace WW : GG ≤ wm0.heap.size := Nat.le_trans WW hbt.size
  clear hbt PX KL
  have kb0 := hide kb.2
  replace kb := kb.1
  have p0 := (unhide VX1).c0
  have p1 := (unhide VX1).c1
  have p2 := (unhide VX1).c2
  have p3 := (unhide VX1).c3
  have hl0 : y1.num.n ≤ 1048576 := by rw [(unhide hn1).1]; exact l1_0
  have hl1 : y1.den.n ≤ 1048576 := by rw [(unhide hn1).2]; exact l1_1
  have kn1 : (y1.num.n : Int) = (v1.num.n : Int) ∧ (y1.den.n : Int) = (v1.den.n : Int) := by rw [(unhide hn1).1, (unhide hn1).2]; exact ⟨rfl, rfl⟩
  have KN1 := hide kn1
  clear kn1
  go_wp2_with fail
  refine (markQ_at y1 d1 [] [] _ (GX0) GX1 _ (unhide VX1).own hl0 hl1 (by have := (unhide VX1).gt; omega) (by omega) (by have := unhide KN1; omega)).mono ?_
  rintro e wm1 ⟨rfl, hbt, hmk⟩
  replace T := hide ((unhide T).but hbt (by omega) (unhide HX1))
  replace OG := hide ((unhide OG).but hbt (.inr (by omega)))
  replace HV := hide (hbt.below (unhide HV) (by omega) (by omega))
  replace WW : GG ≤ wm1.heap.size := Nat.le_trans WW hbt.size
  clear VX1 p0 p1 p2 p3 hbt hmk hl0 hl1
  have hk0 : decide (kk + (y1.num.n : Int) + (y1.den.n : Int) < 0) = false := decide_eq_false (by omega)
  go_wp2_with fail
  refine (eqPQ _ _ _ _ _ lg lv _ (unhide OG).sl (unhide SVa _ (unhide HV)) (unhide OG).len ((unhide DG).symm) (unhide OG).max (unhide OG).lens).mono ?_
  rintro e w41 ⟨rfl, hb⟩
  replace T := hide ((unhide T).later hb)
  replace OG := hide ((unhide OG).later hb)
  replace HV := hide (below_on (unhide HV) hb)
  replace WW : GG ≤ w41.heap.size := Nat.le_trans WW hb.size
  clear hb
  clear hk0
  go_wp2_with fail
  refine (markR _ _ _ _ _ lg _ (unhide OG) (by omega)).mono ?_
  rintro e wm2 ⟨rfl, hbt, om⟩
  have LG := hide (And.intro (unhide OG).sz (unhide OG).ml)
  have nk : ¬ (enK 1 lg < 0) := by rw [enK_eq]; omega
  replace T := hide ((unhide T).but hbt (by omega) (unhide HX1))
  replace HV := hide (hbt.below (unhide HV) (by omega) (by omega))
  replace OG := hide om
  clear hbt om
  go_wp2_with fail
  refine (heldR _ _ _ _ _ lg _ (unhide OG) (unhide LG).1 (unhide LG).2).mono ?_
  rintro e wh1 ⟨rfl, rfl⟩
  go_upto_region 31 with fail
  have ka0 := (unhide T).x1_0
  have ka1 := (unhide T).x1_1
  have ka2 := (unhide T).x1_2
  have ka3 := (unhide T).x1_3
  go_region_held3 (fun w' => w'.cell? ⟨w.heap.size, 0, none⟩ = some (.bool v1.num.g) ∧ w'.cell? ⟨w.heap.size, 1, none⟩ = some (.slice v1.num.a v1.num.n v1.num.c) ∧ w'.cell? ⟨w.heap.size, 2, none⟩ = some (.bool v1.den.g) ∧ w'.cell? ⟨w.heap.size, 3, none⟩ = some (.slice v1.den.a v1.den.n v1.den.c)) (with_reducible (first | exact ⟨ka0, ka1, ka2, ka3⟩ | exact ⟨cd_other ka0, cd_other ka1, cd_other ka2, cd_other ka3⟩ | fail))
    (first
    | (go_at_call 16; refine (unhide TT0 _ ?_).mono ?_; exact ((unhide HS0).later (unhide T).bel).later (Below.refl _ _).drew; rintro e wa0 ⟨lA, rfl, hb, zA, dA, oA⟩; have hbx := below_of_drew hb; have szr0 := hbx.size; replace T := hide ((unhide T).later hbx); replace OG := hide ((unhide OG).later hbx); replace HV := hide (below_on (unhide HV) hbx); replace ka0 := (unhide T).x1_0; replace ka1 := (unhide T).x1_1; replace ka2 := (unhide T).x1_2; replace ka3 := (unhide T).x1_3; have A0 := hide oA; have DA := hide dA; clear hb hbx oA dA zA)
    | (go_at_call_of 17 (Value.agg #[Value.bool v1.num.g, Value.slice v1.num.a v1.num.n v1.num.c, Value.bool v1.den.g, Value.slice v1.den.a v1.den.n v1.den.c]); refine (toQ_at v1 d1 _ ?_ l1_0 l1_1).mono ?_; exact (unhide T).s1; rintro e wa1 ⟨qa1, rfl, hb, hna, ow, ar⟩; have hbx := hb; have szr1 := hbx.size; replace T := hide ((unhide T).later hbx); replace OG := hide ((unhide OG).later hbx); replace HV := hide (below_on (unhide HV) hbx); replace ka0 := (unhide T).x1_0; replace ka1 := (unhide T).x1_1; replace ka2 := (unhide T).x1_2; replace ka3 := (unhide T).x1_3; replace A0 := hide ((unhide A0).later hbx); have A1 := hide ar; clear hb hbx ow ar hna)
    | (go_at_call 18; refine (unhide CI _ _ _ lA qa1 _ ?_ ?_ ?_).mono ?_; exact (unhide A0).arg; exact unhide DA; exact unhide A1; rintro e wh ⟨ah, nh, ch, lh, okh, rfl, hb, oh, uh⟩; have hbx := hb; have szr2 := hbx.size; replace T := hide ((unhide T).later hbx); replace OG := hide ((unhide OG).later hbx); replace HV := hide (below_on (unhide HV) hbx); replace ka0 := (unhide T).x1_0; replace ka1 := (unhide T).x1_1; replace ka2 := (unhide T).x1_2; replace ka3 := (unhide T).x1_3; replace A0 := hide ((unhide A0).later hbx); replace A1 := hide ((unhide A1).later hbx); have UH := hide uh; have OH := hide oh; clear oh uh; clear hb hbx))
  clear A0 DA A1 ka0 ka1 ka2 ka3
  obtain ⟨e1, e2⟩ := unhide US _ _ _ _ (unhide UV) (unhide UH)
  subst e2
  have DH := hide e1
  clear e1 UH
  have hnh : Hid (nh = ng) := hide (by rw [← (unhide OH).len, ← unhide LV]; have h := congrArg List.length (unhide DH); simpa using h.symm)
  obtain rfl := unhide hnh
  clear hnh szr0 szr1 szr2
  go_wp2_with fail
  refine (eqPQ _ _ _ _ _ lh lv _ (unhide OH).sl (unhide SVa _ (unhide HV)) (unhide OH).len ((unhide DH).symm) (unhide OH).max (unhide OH).lens).mono ?_
  rintro e w51 ⟨rfl, hb⟩
  replace T := hide ((unhide T).later hb)
  replace OG := hide ((unhide OG).later hb)
  replace OH := hide ((unhide OH).later hb)
  replace HV := hide (below_on (unhide HV) hb)
  clear hb
  go_wp2_with fail
  refine (heldR _ _ _ _ _ lg _ (unhide OG) (unhide LG).1 (unhide LG).2).mono ?_
  rintro e wh2 ⟨rfl, rfl⟩
  go_wp2
  go_ret
  exact ⟨rfl, (unhide T).bel⟩
end Go.Proofs.YtcbmecnipldcfaaGreat
namespace Go.Proofs.YtcbmecnipldcfaaGreat
open Go.ChangeShapes Go.WideShapes Go.ChangeAt Go.RowKit Go.Joins
set_option linter.unusedVariables false
set_option maxRecDepth 100000
set_option linter.unusedSimpArgs false

theorem open_ratc {H : Type} {enc : TypeId × Value → H} {W : World} {m : Nat} {c0 c1 c2 c3 : Value} {x : DataW H × List MemPlace}
    (hf : DataW.trod enc Tryz.prog W 0 (fun _ => true) true m 26 [c0, c1, c2, c3] = some x) :
    ∃ p : QV × QD, (c0 = .bool p.1.num.g ∧ c1 = .slice p.1.num.a p.1.num.n p.1.num.c ∧ c2 = .bool p.1.den.g ∧ c3 = .slice p.1.den.a p.1.den.n p.1.den.c) ∧ AllSl W [(p.1.num, p.2.num), (p.1.den, p.2.den)] ∧ p.1.num.n ≤ maxLen ∧ p.1.den.n ≤ maxLen := by
  obtain ⟨y0, y1, n, hx, _, h0, h1⟩ := trod_struct2 Tryz.underlying26 hf
  have k0 : DataW.trod enc Tryz.prog W 0 (fun _ => true) true n 24 [c0, c1] = some y0 := by simpa [Value.cells, Tryz.cells24] using h0
  have k1 : DataW.trod enc Tryz.prog W 0 (fun _ => true) true n 24 [c2, c3] = some y1 := by simpa [Value.cells, Tryz.cells24] using h1
  obtain ⟨z0, z1, n1, _, _, p0, p1⟩ := trod_struct2 Tryz.underlying24 k0
  obtain ⟨z2, z3, n2, _, _, p2, p3⟩ := trod_struct2 Tryz.underlying24 k1
  have c_b : Tryz.prog.cellsOf 4 = 1 := by kernel_rfl
  have c_s : Tryz.prog.cellsOf 22 = 1 := by kernel_rfl
  obtain ⟨g, a, n', c, xs, rfl, rfl, s1, s2, s3, _⟩ := open_two (c0 := c0) (c1 := c1) (by simpa [c_b] using p0) (by simpa [c_s] using p1)
  obtain ⟨h, b, q, e, us, rfl, rfl, t1, t2, t3, _⟩ := open_two (c0 := c2) (c1 := c3) (by simpa [c_b] using p2) (by simpa [c_s] using p3)
  exact ⟨(⟨⟨g, a, n', c⟩, ⟨h, b, q, e⟩⟩, ⟨⟨g, xs⟩, ⟨h, us⟩⟩), ⟨rfl, rfl, rfl, rfl⟩, AllSl.cons ⟨rfl, s1, s2⟩ (AllSl.cons ⟨rfl, t1, t2⟩ (AllSl.nil _)), s3, t3⟩
theorem addr_add (b off k : Nat) : (⟨b, off, none⟩ : Addr).add k = ⟨b, off + k, none⟩ := by
  unfold Addr.add
  split
  · rename_i h; subst h; rfl
  · rfl
theorem addr_add_block (a : Addr) (k : Nat) : (a.add k).block = a.block := by unfold Addr.add; split <;> rfl
theorem open_PQ {H : Type} {enc : TypeId × Value → H} {W : World} {r : Reach} {b0 : Nat} {v : Value} {d : DataW H} {p : List MemPlace}
    (hv : Value.okWide Tryz.prog W r b0 41 v) (h : DataW.Trod enc Tryz.prog W 0 (fun _ => true) true 41 v d p) :
    ∃ (a : Option Addr) (n c : Nat) (l : List (QV × QD)), v = .slice a n c ∧ PSlQ W a l ∧ l.length = n ∧ n ≤ maxLen ∧ ∀ p ∈ l, p.1.num.n ≤ maxLen ∧ p.1.den.n ≤ maxLen := by
  obtain ⟨a, n, c, rfl⟩ := okWide_slice Tryz.underlying41 hv
  obtain ⟨fuel, hf⟩ := h
  rcases Go.Deep.open_slice Tryz.underlying41 hf with ⟨hcs, _⟩ | ⟨a', len, cap, m, n', D, Pl, hcs, _, hl, hm, hmm, _, hx⟩
  · simp only [Value.cells, List.cons.injEq, Value.slice.injEq, and_true] at hcs
    obtain ⟨rfl, rfl, rfl⟩ := hcs
    exact ⟨none, 0, 0, [], rfl, ⟨.inl rfl, fun p hp => by cases hp⟩, rfl, Nat.zero_le _, fun p hp => by cases hp⟩
  · simp only [Value.cells, List.cons.injEq, Value.slice.injEq, and_true] at hcs
    obtain ⟨rfl, rfl, rfl⟩ := hcs
    simp only [if_true] at hmm
    subst hmm
    have each : ∀ i, i < n → ∃ p : QV × QD, (W.cell? ((a'.add (i * 4)).add 0) = some (.bool p.1.num.g) ∧ W.cell? ((a'.add (i * 4)).add 1) = some (.slice p.1.num.a p.1.num.n p.1.num.c) ∧ W.cell? ((a'.add (i * 4)).add 2) = some (.bool p.1.den.g) ∧ W.cell? ((a'.add (i * 4)).add 3) = some (.slice p.1.den.a p.1.den.n p.1.den.c)) ∧ AllSl W [(p.1.num, p.2.num), (p.1.den, p.2.den)] ∧ p.1.num.n ≤ maxLen ∧ p.1.den.n ≤ maxLen := by
      intro i hi
      obtain ⟨cs, h1, h2⟩ := hx i (by omega)
      rw [Tryz.cells26] at h1
      obtain ⟨_, h3, h4⟩ := World.cells?_some h1
      match cs, h3 with
      | [c0, c1, c2, c3], _ =>
        obtain ⟨p, ⟨rfl, rfl, rfl, rfl⟩, hp⟩ := open_ratc h2
        exact ⟨p, ⟨h4 0 (by omega), h4 1 (by omega), h4 2 (by omega), h4 3 (by omega)⟩, hp⟩
    have inh : Inhabited (QV × QD) := ⟨(⟨⟨false, none, 0, 0⟩, ⟨false, none, 0, 0⟩⟩, ⟨⟨false, []⟩, ⟨false, []⟩⟩)⟩
    obtain ⟨f, hf⟩ := Go.Deep.choose_lt each
    refine ⟨some a', n, m, (List.range n).map f, rfl, ⟨?_, ?_⟩, by simp, Nat.le_trans hl hm, ?_⟩
    · by_cases h0 : n = 0
      · subst h0; exact .inl rfl
      · obtain ⟨b, off, spot⟩ := a'
        have hc := (hf 0 (by omega)).1.1
        have hspot : spot = none := by simpa [Addr.add] using World.cell?_spot hc
        subst hspot
        refine .inr ⟨b, off, rfl, ?_, fun i hi => ?_⟩
        · have := World.block_lt_of_cell? _ _ hc
          rw [addr_add, addr_add] at this
          exact this
        · have hi' : i < n := by simpa using hi
          have h1 := (hf i hi').1
          rw [addr_add, addr_add, addr_add, addr_add, addr_add] at h1
          simpa using h1
    · intro p hp
      obtain ⟨i, hi, rfl⟩ := List.mem_map.1 hp
      exact (hf i (List.mem_range.1 hi)).2.1
    · intro p hp
      obtain ⟨i, hi, rfl⟩ := List.mem_map.1 hp
      exact (hf i (List.mem_range.1 hi)).2.2
end Go.Proofs.YtcbmecnipldcfaaGreat
namespace Go.Proofs.YtcbmecnipldcfaaGreat
open Go.ChangeShapes Go.WideShapes Go.ChangeAt Go.RowKit Go.Joins
set_option linter.unusedVariables false
set_option maxRecDepth 100000
set_option linter.unusedSimpArgs false

set_option maxRecDepth 100000 in
theorem sh_holds_lifted (os : Os) (started : os.Started) (H : Type) (enc : TypeId × Value → H) :
    ReturnsInHanded {} Tryz.checked os 4 .any (Rows.fnExactShiftPolySpec.pre6 enc Tryz.prog Tryz.f4 Rows.fnExactShiftPolyRow.domain false) (Rows.fnExactShiftPolySpec.post enc Tryz.prog Tryz.f4 false true false false) := by
  refine returnsInHanded_of_change (C := Tryz.checked) own started (by kernel_rfl) Tryz.func4
    (ChangeSpec.witness6 (enc := enc) (C := Tryz.checked) false ⟨#[], #[.slice none 0 0, .agg #[.bool false, .slice none 0 0, .bool false, .slice none 0 0]], []⟩ 8 (by kernel_rfl) (by kernel_rfl) (by kernel_rfl) (by kernel_rfl)) ?_
  intro W base args ds gs before hval0 hW hcnd _
  have hval : ∀ (j : Nat) t v, Tryz.f4.params[j]? = some t → args[j]? = some v → Value.okWide Tryz.prog W .any base t v := hval0
  have hW' := hW
  obtain ⟨p, q, hA0, hV, rfl, hfz, hnd⟩ := hW
  have hA : DataW.TrodAll enc Tryz.prog W 0 (fun _ => true) true Tryz.f4.params.toList args.toList ds p := hA0
  rw [Tryz.params4] at hA hval
  obtain ⟨v0, vs0, d0, ds0, p0, q0, hargs, rfl, rfl, h0, r0⟩ := trodAll_cons hA
  obtain ⟨v1, vs1, d1, ds1, p1, q1, rfl, rfl, rfl, h1, r1⟩ := trodAll_cons r0
  obtain ⟨rfl, rfl, rfl⟩ := trodAll_nil r1
  obtain rfl : args = #[v0, v1] := by cases args; simp_all
  obtain ⟨rfl, rfl⟩ := trodVars_none hV
  have lt0 : ∀ x ∈ p0, x.block < W.heap.size := by obtain ⟨m, hm⟩ := h0; exact DataW.trod_lt m _ _ _ hm
  obtain ⟨a0, n0, c0, l0, rfl, sl0, hn0, hm0, ml0⟩ := open_PQ (hval 0 41 v0 rfl rfl) h0
  have lt1 : ∀ x ∈ p1, x.block < W.heap.size := by obtain ⟨m, hm⟩ := h1; exact DataW.trod_lt m _ _ _ hm
  obtain ⟨u1, e1, rfl, sl1, m1_0, m1_1⟩ := open_Q (hval 1 26 v1 rfl rfl) h1
  clear hA0 hval0
  refine (lawSh_walk a0 n0 c0 l0 u1 e1 W sl0 hn0 sl1 hm0 ml0 m1_0 m1_1).mono fun e W' ⟨he, bel⟩ => ?_
  subst he
  exact ⟨_, rfl, _, _, _, [], _, [], hW', trodAll_mk1 (shut_bool Tryz.underlying4 _), (trodAll_cons_mk (Below.trod laidOut (by kernel_rfl) (of_decide_eq_true (by kernel_rfl)) h0 bel lt0) (trodAll_cons_mk (Below.trod laidOut (by kernel_rfl) (of_decide_eq_true (by kernel_rfl)) h1 bel lt1) trodAll_mk0)), rfl, bel.frame _, fun h => by cases h⟩

theorem sh_holds_c0 : (Rows.fnExactShiftPolyRow.wf (OpenSpec.ofChange Rows.fnExactShiftPolySpec)) = true := by kernel_rfl
theorem sh_holds_c1 : (laidOutB Tryz.pinned.checked.prog) = true := by kernel_rfl
theorem sh_holds_c2 : (mapsRowed Tryz.pinned.checked.prog) = true := by kernel_rfl
theorem sh_holds_c3 : (Tryz.f4.params.all (Tryz.pinned.checked.prog.readableRec ·)) = true := by kernel_rfl
theorem sh_holds_c4 : (namedTie Tryz.pinned.checked.prog Rows.fnExactShiftPolyRow.named Rows.fnExactShiftPolySpec.vars) = true := by kernel_rfl
theorem sh_holds_c5 : (Rows.fnExactShiftPolyRow.stops == []) = true := by kernel_rfl
theorem sh_holds_c6 : (Tryz.pinned.checked.prog.stops == []) = true := by kernel_rfl
theorem sh_holds_c7 : (Rows.fnExactShiftPolyRow.knobs == []) = true := by kernel_rfl
theorem sh_holds_c8 : (Tryz.pinned.checked.prog.stopKnobs == []) = true := by kernel_rfl
theorem sh_holds_c9 : (Rows.fnExactShiftPolyRow.inPlace == Tryz.pinned.checked.prog.inPlace 4) = true := by kernel_rfl
theorem sh_holds_c10 : (Rows.fnExactShiftPolyRow.unfollowed == Tryz.pinned.checked.prog.unfollowed 4) = true := by kernel_rfl
theorem sh_holds_c11 : (Rows.fnExactShiftPolyRow.recurses == Tryz.pinned.checked.prog.recurses 4) = true := by kernel_rfl
theorem sh_holds_c12 : (Rows.fnExactShiftPolyRow.named == Tryz.pinned.checked.prog.varsNamed 4) = true := by kernel_rfl
theorem sh_holds_c13 : (Rows.fnExactShiftPolyRow.maps == (Tryz.f4.params.toList ++ Rows.fnExactShiftPolySpec.plain.varTypes Tryz.pinned.checked.prog).any (Tryz.pinned.checked.prog.mapsRec ·)) = true := by kernel_rfl
theorem sh_holds_c14 : (Rows.fnExactShiftPolyRow.ifaces == (Tryz.f4.params.toList ++ Rows.fnExactShiftPolySpec.plain.varTypes Tryz.pinned.checked.prog).any (Tryz.pinned.checked.prog.ifacesRec ·)) = true := by kernel_rfl
theorem sh_holds_c15 : (Rows.fnExactShiftPolyRow.mapsOut == Tryz.pinned.checked.prog.mapsAmong Tryz.f4.resultTypes.toList) = true := by kernel_rfl
theorem sh_holds_c16 : (Rows.fnExactShiftPolyRow.loops == (Tryz.f4.params.toList ++ Rows.fnExactShiftPolySpec.plain.varTypes Tryz.pinned.checked.prog).any (Tryz.pinned.checked.prog.loopsFrom ·)) = true := by kernel_rfl
theorem sh_holds_c17 : (Rows.fnExactShiftPolyRow.wideKeys == (Tryz.f4.params.toList ++ Rows.fnExactShiftPolySpec.plain.varTypes Tryz.pinned.checked.prog ++ Tryz.f4.resultTypes.toList).any (Tryz.pinned.checked.prog.wideKeysFrom ·)) = true := by kernel_rfl
theorem sh_holds_c18 : (Rows.fnExactShiftPolySpec.vars.all (Tryz.pinned.checked.prog.varReadable ·)) = true := by kernel_rfl
theorem sh_holds_c19 : (Tryz.f4.resultTypes.all (fun t => Tryz.pinned.checked.prog.readableRec t && decide (t < Tryz.pinned.checked.prog.types.size))) = true := by kernel_rfl
theorem sh_holds_c20 : (Rows.fnExactShiftPolyRow.ifacesOut == Tryz.f4.resultTypes.toList.any (Tryz.pinned.checked.prog.ifacesRec ·)) = true := by kernel_rfl
theorem sh_holds_c21 : (Rows.fnExactShiftPolyRow.loopsOut == Tryz.f4.resultTypes.toList.any (Tryz.pinned.checked.prog.loopsFrom ·)) = true := by kernel_rfl
theorem sh_holds_c22 : (Rows.fnExactShiftPolyRow.plainKeys == Tryz.pinned.checked.prog.plainKeys) = true := by kernel_rfl
theorem sh_holds_c23 : (Rows.fnExactShiftPolyRow.shortTexts.isNone) = true := by kernel_rfl
theorem sh_holds_c24 : (Tryz.pinned.checked.prog.stopsHeard) = true := by kernel_rfl
theorem sh_holds_c25 : (Tryz.pinned.checked.prog.mayEnter) = true := io_enter
theorem sh_holds_c26 : (Rows.fnExactShiftPolyRow.lifted == Tryz.pinned.checked.prog.liftsFinal) = true := by rw [io_lifts]; kernel_rfl
theorem sh_holds_c27 : (Tryz.pinned.checked.prog.make == some Rows.fnExactShiftPolyRow.make) = true := by rw [io_make]; kernel_rfl
theorem sh_holds_c28 : (Rows.fnExactShiftPolyRow.kinds == (if Rows.fnExactShiftPolyRow.domain.isEmpty then [] else Tryz.f4.params.toList.map fun t => match Tryz.pinned.checked.prog.underlying t with | some (.int k) => some k | _ => none)) = true := by kernel_rfl
theorem sh_holds_c29 : (Rows.fnExactShiftPolyRow.pinned == Rows.fnExactShiftPolyRow.pinnedBy) = true := by kernel_rfl
theorem sh_holds_c30 : (Rows.fnExactShiftPolyRow.veiled == (Tryz.f4.params.toList ++ Rows.fnExactShiftPolySpec.plain.varTypes Tryz.pinned.checked.prog ++ Tryz.f4.resultTypes.toList).any (Tryz.pinned.checked.prog.veiledRec ·)) = true := by kernel_rfl
theorem sh_holds_c31 : (Rows.fnExactShiftPolyRow.veiledFits Tryz.pinned.checked.prog Tryz.f4.params.toList (Tryz.f4.params.toList ++ Rows.fnExactShiftPolySpec.plain.varTypes Tryz.pinned.checked.prog ++ Tryz.f4.resultTypes.toList)) = true := by kernel_rfl
theorem sh_holds_and {a b : Bool} (h : a = true) (k : b = true) : (a && b) = true := by rw [h, k]; rfl
theorem sh_holds_closed : joinedFacts Tryz.pinned.checked.prog 4 Tryz.f4 Rows.fnExactShiftPolySpec Rows.fnExactShiftPolyRow = true := (sh_holds_and (sh_holds_and (sh_holds_and (sh_holds_and (sh_holds_and (sh_holds_and (sh_holds_and (sh_holds_and (sh_holds_and (sh_holds_and (sh_holds_and (sh_holds_and (sh_holds_and (sh_holds_and (sh_holds_and (sh_holds_and (sh_holds_and (sh_holds_and (sh_holds_and (sh_holds_and (sh_holds_and (sh_holds_and (sh_holds_and (sh_holds_and (sh_holds_and (sh_holds_and (sh_holds_and (sh_holds_and (sh_holds_and (sh_holds_and (sh_holds_and sh_holds_c0 sh_holds_c1) sh_holds_c2) sh_holds_c3) sh_holds_c4) sh_holds_c5) sh_holds_c6) sh_holds_c7) sh_holds_c8) sh_holds_c9) sh_holds_c10) sh_holds_c11) sh_holds_c12) sh_holds_c13) sh_holds_c14) sh_holds_c15) sh_holds_c16) sh_holds_c17) sh_holds_c18) sh_holds_c19) sh_holds_c20) sh_holds_c21) sh_holds_c22) sh_holds_c23) sh_holds_c24) sh_holds_c25) sh_holds_c26) sh_holds_c27) sh_holds_c28) sh_holds_c29) sh_holds_c30) sh_holds_c31)
theorem sh_holds_named : Tryz.pinned.checked.prog.funcNamed Rows.fnExactShiftPolyRow.func = some 4 := by kernel_rfl
theorem sh_holds_inst : Tryz.f4.isInstance Tryz.pinned.checked.prog Rows.fnExactShiftPolyRow.origin Rows.fnExactShiftPolyRow.targs := of_decide_eq_true (by kernel_rfl)
theorem sh_holds_wrap : Tryz.f4.isWrapper Tryz.pinned.checked.prog Rows.fnExactShiftPolyRow.wrapper Rows.fnExactShiftPolyRow.mainSum := by unfold Func.isWrapper; first | (rw [if_pos (by decide +kernel)]; kernel_rfl) | (rw [if_neg (by decide +kernel)]; exact ⟨rfl, rfl⟩)
theorem sh_holds : Rows.FnExactShiftPolySaid :=
  OpenClaim.holds_of_wide 4 Tryz.f4 rfl rfl rfl rfl rfl rfl rfl ⟨rfl, rfl, rfl, rfl, rfl⟩ rfl rfl rfl rfl rfl sh_holds_named Tryz.func4 sh_holds_closed sh_holds_inst sh_holds_wrap
    (fun os started H enc _ => sh_holds_lifted os started H enc)
#print axioms sh_holds
end Go.Proofs.YtcbmecnipldcfaaGreat
