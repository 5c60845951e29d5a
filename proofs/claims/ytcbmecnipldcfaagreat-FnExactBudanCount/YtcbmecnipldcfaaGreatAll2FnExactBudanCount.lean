/- The law FnExactBudanCount returns true for every argument and leaves it as it was: the given statement FnExactBudanCountSaid. No condition. -/
import Derived.Test.YtcbmecnipldcfaaGreatPackU6
import Derived.Test.YtcbmecnipldcfaaGreatPackT6
import Derived.Lib.SliceRun
import Derived.Lib.LazyBuf
import Derived.Test.YtcbmecnipldcfaaGreatOpenQ
import Derived.Deep.Slices
import Derived.Test.YtcbmecnipldcfaaGreatIo
namespace Go.Proofs.YtcbmecnipldcfaaGreat
open Go.RowKit
set_option linter.unusedVariables false
set_option maxRecDepth 100000
set_option linter.unusedSimpArgs false

def pv (out : List Rat) (j : Nat) : Rat := if j = 0 then 0 else ct out (j - 1)
theorem pv_zero (out : List Rat) : pv out 0 = 0 := rfl
theorem pv_succ (out : List Rat) (j : Nat) : pv out (j + 1) = ct out j := rfl
theorem ct_rep (N j : Nat) : ct (List.replicate N 0) j = 0 := by
  unfold ct
  rw [List.getElem?_replicate]
  split <;> rfl
theorem mll_ct (out : List Rat) (A : Rat) (N : Nat) (hN : out.length + 2 ≤ N) : ∀ i, i ≤ out.length → (mll out [A, 1] 2 i (List.replicate N 0)).length = N ∧ ∀ j, ct (mll out [A, 1] 2 i (List.replicate N 0)) j = if j < i then pv out j + ct out j * A else if j = i then pv out j else 0
  | 0, h => by
    refine ⟨by show (List.replicate N 0).length = N; simp, fun j => ?_⟩
    show ct (List.replicate N 0) j = _
    rw [ct_rep, if_neg (by omega)]
    split
    · rename_i e; rw [e]; rfl
    · rfl
  | i + 1, h => by
    obtain ⟨l0, ih⟩ := mll_ct out A N hN i (by omega)
    obtain ⟨L, hL⟩ : ∃ L, L = mll out [A, 1] 2 i (List.replicate N 0) := ⟨_, rfl⟩
    rw [← hL] at l0 ih
    have e : mll out [A, 1] 2 (i + 1) (List.replicate N 0) = (L.set i (ct L i + ct out i * A)).set (i + 1) (ct (L.set i (ct L i + ct out i * A)) (i + 1) + ct out i * 1) := by rw [hL]; rfl
    rw [e]
    refine ⟨by simp [l0], fun j => ?_⟩
    have c1 : ct (L.set i (ct L i + ct out i * A)) (i + 1) = ct L (i + 1) := by rw [ct_set (by omega), if_neg (by omega)]
    have c2 : ct (L.set i (ct L i + ct out i * A)) j = if j = i then ct L i + ct out i * A else ct L j := ct_set (by omega)
    rw [ct_set (by simp; omega), c1, c2, ih (i + 1), ih i, ih j]
    rw [if_neg (show ¬ i + 1 < i by omega), if_neg (show ¬ i + 1 = i by omega), if_neg (Nat.lt_irrefl i), if_pos rfl]
    by_cases e1 : j = i + 1
    · subst e1
      rw [if_pos rfl, if_neg (Nat.lt_irrefl _), if_pos rfl, pv_succ]
      grind
    · rw [if_neg e1]
      by_cases e2 : j = i
      · subst e2
        rw [if_pos rfl, if_pos (by omega)]
      · rw [if_neg e2]
        by_cases e3 : j < i
        · rw [if_pos e3, if_pos (by omega)]
        · rw [if_neg e3, if_neg e2, if_neg (by omega), if_neg e1]
/-- The product with x and A. -/
def cv (A : Rat) (out : List Rat) : List Rat := mll out [A, 1] 2 out.length (List.replicate (out.length + 2) 0)
theorem cv_len (A : Rat) (out : List Rat) : (cv A out).length = out.length + 2 := (mll_ct out A (out.length + 2) (Nat.le_refl _) out.length (Nat.le_refl _)).1
theorem cv_ct (A : Rat) (out : List Rat) (j : Nat) : ct (cv A out) j = if j ≤ out.length then pv out j + ct out j * A else 0 := by
  have h := (mll_ct out A (out.length + 2) (Nat.le_refl _) out.length (Nat.le_refl _)).2 j
  unfold cv
  rw [h]
  by_cases e : j < out.length
  · rw [if_pos e, if_pos (by omega)]
  · rw [if_neg e]
    by_cases e2 : j = out.length
    · subst e2
      rw [if_pos rfl, if_pos (Nat.le_refl _), ct_out (Nat.le_refl _)]
      grind
    · rw [if_neg e2, if_neg (by omega)]
theorem stp_ct (A : Rat) : ∀ (u : List Rat) (j : Nat), ct (stp A u) j = ct u j + ct u (j + 1) * A
  | [], j => by show ct [] j = _; rw [ct_nil, ct_nil]; grind
  | [x], 0 => by show x = x + ct [x] 1 * A; rw [show ct [x] 1 = 0 from rfl]; grind
  | [x], j + 1 => by show ct [x] (j + 1) = _; rw [show ct [x] (j + 1) = 0 from rfl, show ct [x] (j + 1 + 1) = 0 from rfl]; grind
  | x :: y :: t, 0 => rfl
  | x :: y :: t, j + 1 => by
    show ct (stp A (y :: t)) j = _
    rw [stp_ct A (y :: t) j]
    rfl
theorem stp_len (A : Rat) : ∀ u, (stp A u).length = u.length
  | [] => rfl
  | [x] => rfl
  | x :: y :: t => by show (stp A (y :: t)).length + 1 = _; rw [stp_len A (y :: t)]; rfl
def nwL (A p : Rat) (out : List Rat) : List Rat := (p + ct out 0 * A) :: stp A out
theorem nwL_len (A p : Rat) (out : List Rat) : (nwL A p out).length = out.length + 1 := by unfold nwL; rw [List.length_cons, stp_len]
theorem nwL_ct (A p : Rat) (out : List Rat) (j : Nat) : ct (nwL A p out) j = pv out j + ct out j * A + (if j = 0 then p else 0) := by
  cases j with
  | zero => show p + ct out 0 * A = _; rw [pv_zero, if_pos rfl]; grind
  | succ j => show ct (stp A out) j = _; rw [stp_ct, pv_succ, if_neg (by omega)]; grind
theorem hS_cons (A c : Rat) (t : List Rat) : hS A (c :: t) = nwL A c (hS A t) := rfl
theorem hS_len (A : Rat) : ∀ u, (hS A u).length = u.length
  | [] => rfl
  | c :: t => by rw [hS_cons, nwL_len, hS_len A t]; rfl
theorem hS_last (A : Rat) : ∀ (u : List Rat), 0 < u.length → ct (hS A u) (u.length - 1) = ct u (u.length - 1)
  | [c], _ => by show c + ct [] 0 * A = c; rw [ct_nil]; grind
  | c :: d :: t, _ => by
    have ih := hS_last A (d :: t) (by simp)
    rw [hS_cons, nwL_ct]
    rw [show (c :: d :: t).length - 1 = t.length + 1 from rfl, pv_succ, if_neg (by omega), show ct (hS A (d :: t)) (t.length + 1) = 0 from ct_out (by rw [hS_len]; simp)]
    rw [show (d :: t).length - 1 = t.length from rfl] at ih
    rw [ih]
    show ct (d :: t) t.length + 0 * A + 0 = ct (d :: t) t.length
    grind
theorem new_eq {A p : Rat} {out : List Rat} {m2 m3 : Nat} (h2 : m2 = if out.length = 0 then 0 else out.length + 1) (h3 : m3 = if p = 0 then 0 else 1) (hl : out.length = 0 → p ≠ 0) :
    (List.range (max m2 m3)).map (fun k => ct ((cv A out).take m2) k + ct ([p].take m3) k) = nwL A p out := by
  have hm : max m2 m3 = out.length + 1 := by
    by_cases e : out.length = 0
    · rw [if_pos e] at h2; rw [if_neg (hl e)] at h3; omega
    · rw [if_neg e] at h2; split at h3 <;> omega
  rw [hm]
  refine ct_ext (by rw [List.length_map, List.length_range, nwL_len]) fun k hk => ?_
  rw [List.length_map, List.length_range] at hk
  have e0 : ct ((List.range (out.length + 1)).map (fun k => ct ((cv A out).take m2) k + ct ([p].take m3) k)) k = ct ((cv A out).take m2) k + ct ([p].take m3) k := by
    generalize hf : (fun k => ct ((cv A out).take m2) k + ct ([p].take m3) k) = f
    show ((((List.range (out.length + 1)).map f)[k]?).getD 0) = _
    rw [List.getElem?_map, List.getElem?_range hk]
    show f k = _
    rw [← hf]
  rw [e0, nwL_ct]
  have e3 : ct ([p].take m3) k = if k = 0 then p else 0 := by
    by_cases hp : p = 0
    · rw [if_pos hp] at h3
      subst h3
      show ct [] k = _
      rw [ct_nil, hp]
      split <;> rfl
    · rw [if_neg hp] at h3
      subst h3
      show ct [p] k = _
      cases k with
      | zero => rfl
      | succ k => rfl
  rw [e3]
  congr 1
  by_cases e : out.length = 0
  · rw [if_pos e] at h2
    subst h2
    have : out = [] := List.length_eq_zero_iff.1 e
    subst this
    obtain rfl : k = 0 := by simpa using hk
    show ct [] 0 = pv [] 0 + ct [] 0 * A
    rw [ct_nil, pv_zero]
    grind
  · rw [if_neg e] at h2
    rw [ct_take (by omega), cv_ct, if_pos (by omega)]
/-- How long coefficients may be behind t steps. -/
def oB : Nat → Nat
  | 0 => 6
  | t + 1 => 2 * oB t + 7
theorem oB_le {t : Nat} (h : t ≤ 7) : 6 ≤ oB t ∧ oB t ≤ 1700 := by
  have : ∀ k : Fin 8, 6 ≤ oB k.val ∧ oB k.val ≤ 1700 := by decide
  exact this ⟨t, by omega⟩
theorem pv_bd {out : List Rat} {L : Nat} (h : AllB out L) (hL : 1 ≤ L) (j : Nat) : BdR (pv out j) L := by
  cases j with
  | zero => exact bdR_zero.mono hL
  | succ j => exact h.ct hL j
theorem cv_bd {A : Rat} {out : List Rat} {L : Nat} (ha : BdR A 6) (h : AllB out L) (hL : 6 ≤ L) : AllB (cv A out) (2 * L + 7) := allB_of fun j => by
  rw [cv_ct]
  split
  · exact ((pv_bd h (by omega) j).add ((h.ct (by omega) j).mul ha)).mono (by omega)
  · exact bdR_zero.mono (by omega)
theorem nwL_bd {A p : Rat} {out : List Rat} {L : Nat} (ha : BdR A 6) (hp : BdR p 6) (h : AllB out L) (hL : 6 ≤ L) : AllB (nwL A p out) (2 * L + 7) := allB_of fun j => by
  cases j with
  | zero =>
    show BdR (p + ct out 0 * A) _
    exact (hp.add ((h.ct (by omega) 0).mul ha)).mono (by omega)
  | succ j =>
    show BdR (ct (stp A out) j) _
    rw [stp_ct]
    exact ((h.ct (by omega) j).add ((h.ct (by omega) (j + 1)).mul ha)).mono (by omega)
theorem hS_bd {A : Rat} (ha : BdR A 6) : ∀ {u : List Rat}, AllB u 6 → u.length ≤ 7 → AllB (hS A u) (oB u.length)
  | [], h, _ => fun q hq => by cases hq
  | c :: t, h, hl => by
    have hl' : t.length + 1 ≤ 7 := hl
    exact nwL_bd ha (h c List.mem_cons_self) (hS_bd ha (fun q hq => h q (List.mem_cons_of_mem _ hq)) (by omega)) (oB_le (by omega)).1
/-- A fraction that is read is this rational number. -/
theorem isD_nz {q : Rat} {d : QD} (h : IsD (rp q) d) : nz d = true ↔ q = 0 := by
  unfold nz
  rw [decide_eq_true_eq, ← rp_nz]
  have := h.n1.nil_iff
  rw [List.length_eq_zero_iff, this]
  omega
theorem isL_ct {qs : List Rat} {ds : List QD} (h : IsL (rps qs) ds) : ∀ j (hj : j < ds.length), IsD (rp (ct qs j)) ds[j] := fun j hj => by
  have hl : qs.length = ds.length := by have := h.len; unfold rps at this; simpa using this
  refine h.get j (c := rp (ct qs j)) ?_ (by rw [List.getElem?_eq_getElem hj])
  unfold rps
  rw [List.getElem?_map, ct_get (by omega)]
  rfl
theorem cut_is {qs : List Rat} {ds : List QD} {m k : Nat} (h : IsL (rps qs) ds) (hk : k ≤ qs.length) (ho : ∀ j, k ≤ j → ct qs j = 0) (ht : 0 < k → ct qs (k - 1) ≠ 0) (hc : CutAt ds m) : m = k := by
  have hl : qs.length = ds.length := by have := h.len; unfold rps at this; simpa using this
  refine hc.same ⟨by omega, fun j hj hkj => (isD_nz (isL_ct h j hj)).2 (ho j hkj), fun h0 => ?_⟩
  rw [Bool.eq_false_iff]
  exact fun e => ht h0 ((isD_nz (isL_ct h (k - 1) (by omega))).1 e)
theorem isD_good7 {q : Rat} {d : QD} (h : IsD (rp q) d) (k : BdR q 2200) : GqE d ∧ nQ d = (rp q).1 ∧ dQ d = (rp q).2 := by
  have e1 : nQ d = (rp q).1 := by
    unfold nQ sv
    rw [h.g1, h.n1.v]
    by_cases c : (rp q).1 < 0
    · rw [if_pos (by simpa using c)]; omega
    · rw [if_neg (by simpa using c)]; omega
  have e2 : dQ d = (rp q).2 := by
    unfold dQ sv
    rw [h.g2, h.n2.v]
    have := rp_pos q
    rw [if_neg (by simp; omega)]; omega
  exact ⟨⟨by rw [e1, e2]; exact h, by rw [e2]; exact rp_pos q, by rw [e1]; exact k.n, by rw [e2]; exact k.d⟩, e1, e2⟩
theorem isL_goods {qs : List Rat} {ds : List QD} (h : IsL (rps qs) ds) (k : AllB qs 2200) : goods ds = rps qs := by
  have hl : qs.length = ds.length := by have := h.len; unfold rps at this; simpa using this
  refine List.ext_getElem? fun j => ?_
  unfold goods rps
  rw [List.getElem?_map, List.getElem?_map]
  by_cases hj : j < ds.length
  · have e := isD_good7 (isL_ct h j hj) (k.ct (by omega) j)
    rw [ct_get (l := qs) (k := j) (by omega), List.getElem?_eq_getElem hj]
    show some (nQ ds[j], dQ ds[j]) = some (rp (ct qs j))
    rw [e.2.1, e.2.2]
  · rw [List.getElem?_eq_none (by omega), List.getElem?_eq_none (by omega)]
    rfl
theorem isL_gq {qs : List Rat} {l : List (QV × QD)} (h : IsL (rps qs) (l.map Prod.snd)) (k : AllB qs 2200) : Gq l := fun y hy => by
  obtain ⟨j, hj, rfl⟩ := List.mem_iff_getElem.1 hy
  have := (isD_good7 (isL_ct h j (by simpa using hj)) (k.ct (by omega) j)).1
  simpa using this
theorem AllB.mono {u : List Rat} {L M : Nat} (h : AllB u L) (k : L ≤ M) : AllB u M := fun q hq => (h q hq).mono k
theorem AllB.take {u : List Rat} {L : Nat} (h : AllB u L) (m : Nat) : AllB (u.take m) L := fun q hq => h q (List.mem_of_mem_take hq)
theorem isL_take {qs : List Rat} {ds : List QD} (h : IsL (rps qs) ds) (m : Nat) : IsL (rps (qs.take m)) (ds.take m) := by
  have := IsL.take m h
  unfold rps at this ⊢
  rw [List.map_take]
  exact this
/-- A coefficient's rational number. -/
def qR (d : QD) : Rat := Rat.divInt (nQ d) (dQ d)
theorem qR_rp {d : QD} (hg : gQ d = true) (hl : Low (nQ d) (dQ d)) : (nQ d, dQ d) = rp (qR d) := low_is (c := (nQ d, dQ d)) hl
end Go.Proofs.YtcbmecnipldcfaaGreat
namespace Go.Proofs.YtcbmecnipldcfaaGreat
open Go.RowKit
set_option linter.unusedVariables false
set_option maxRecDepth 100000
set_option linter.unusedSimpArgs false

theorem baS2 {w w1 : World} {o o' : Obj} (h : Below ((w.alloc o).alloc o').heap.size ((w.alloc o).alloc o') w1) : Below w.heap.size w w1 := ba (ba h)
theorem badS2 {w w1 : World} {o o' : Obj} (h : Below ((w.alloc o).alloc o').drew.heap.size ((w.alloc o).alloc o').drew w1) : Below w.heap.size w w1 := baS2 (below_of_drew h)
theorem lay1c {w : World} {b : Nat} {y : QV × QD} (g0 : w.cell? ⟨b, 0, none⟩ = some (.bool y.1.num.g)) (g1 : w.cell? ⟨b, 1, none⟩ = some (.slice y.1.num.a y.1.num.n y.1.num.c)) (g2 : w.cell? ⟨b, 2, none⟩ = some (.bool y.1.den.g)) (g3 : w.cell? ⟨b, 3, none⟩ = some (.slice y.1.den.a y.1.den.n y.1.den.c)) (h : AllAr w [(y.1.num, y.2.num), (y.1.den, y.2.den)]) : PArQ w (some ⟨b, 0, none⟩) 1 1 [y] := by
  refine ⟨.inr ⟨b, 0, rfl, World.block_lt_of_cell? _ _ g0, fun i hi => ?_⟩, fun p hp => by rw [List.mem_singleton.1 hp]; exact h, rfl, Nat.le_refl _, by unfold maxLen; omega⟩
  obtain rfl : i = 0 := by simp at hi; omega
  exact ⟨g0, g1, g2, g3⟩
theorem lay1 {w : World} {y : QV × QD} {t : TypeId} (h : AllAr w [(y.1.num, y.2.num), (y.1.den, y.2.den)]) : PArQ (w.alloc (.cells #[.bool y.1.num.g, .slice y.1.num.a y.1.num.n y.1.num.c, .bool y.1.den.g, .slice y.1.den.a y.1.den.n y.1.den.c] t)) (some ⟨w.heap.size, 0, none⟩) 1 1 [y] :=
  lay1c (by simp [go_sem]) (by simp [go_sem]) (by simp [go_sem]) (by simp [go_sem]) (h.later ((Below.refl _ _).alloc (Nat.le_refl _) _))
theorem lay2 {w : World} {x one : QV} {d e : QD} {t : TypeId} (h : AllAr w [(x.num, d.num), (x.den, d.den)]) (k : AllAr w [(one.num, e.num), (one.den, e.den)]) : PArQ (w.alloc (.cells #[.bool x.num.g, .slice x.num.a x.num.n x.num.c, .bool x.den.g, .slice x.den.a x.den.n x.den.c, .bool one.num.g, .slice one.num.a one.num.n one.num.c, .bool one.den.g, .slice one.den.a one.den.n one.den.c] t)) (some ⟨w.heap.size, 0, none⟩) 2 2 [(x, d), (one, e)] := by
  have al : Below w.heap.size w (w.alloc (.cells #[.bool x.num.g, .slice x.num.a x.num.n x.num.c, .bool x.den.g, .slice x.den.a x.den.n x.den.c, .bool one.num.g, .slice one.num.a one.num.n one.num.c, .bool one.den.g, .slice one.den.a one.den.n one.den.c] t)) := (Below.refl _ _).alloc (Nat.le_refl _) _
  refine ⟨.inr ⟨w.heap.size, 0, rfl, by simp, fun i hi => ?_⟩, fun p hp => ?_, rfl, Nat.le_refl _, by unfold maxLen; omega⟩
  · have hi' : i < 2 := by simpa using hi
    match i, hi' with
    | 0, _ => simp [go_sem]
    | 1, _ => simp [go_sem]
  · rcases List.mem_cons.1 hp with rfl | hp
    · exact h.later al
    · rw [List.mem_singleton.1 hp]; exact k.later al
theorem lay2' {w : World} {x one : QV} {d e : QD} {t : TypeId} {o : Obj} (h : AllAr w [(x.num, d.num), (x.den, d.den)]) (k : AllAr w [(one.num, e.num), (one.den, e.den)]) : PArQ ((w.alloc o).alloc (.cells #[.bool x.num.g, .slice x.num.a x.num.n x.num.c, .bool x.den.g, .slice x.den.a x.den.n x.den.c, .bool one.num.g, .slice one.num.a one.num.n one.num.c, .bool one.den.g, .slice one.den.a one.den.n one.den.c] t)) (some ⟨w.heap.size + 1, 0, none⟩) 2 2 [(x, d), (one, e)] := by
  have al : Below w.heap.size w (w.alloc o) := (Below.refl _ _).alloc (Nat.le_refl _) _
  have := lay2 (t := t) (h.later al) (k.later al)
  rw [show (w.alloc o).heap.size = w.heap.size + 1 by simp] at this
  exact this
theorem isD_one {lo1 lo2 : List Int} (m1 : Nm lo1 (1 : Int).natAbs) (m2 : Nm lo2 (1 : Int).natAbs) : IsD (rp 1) (⟨⟨decide ((1 : Int) < 0), lo1⟩, ⟨decide ((1 : Int) < 0), lo2⟩⟩ : QD) := ⟨rfl, m1, rfl, m2⟩
theorem isL_two {A : Rat} {d e : QD} (h : IsD (rp A) d) (k : IsD (rp 1) e) : IsL (rps [A, 1]) [d, e] := ⟨h, k, trivial⟩
theorem cut_two {A : Rat} {d e : QD} {m : Nat} (h : IsD (rp A) d) (k : IsD (rp 1) e) (c : CutAt [d, e] m) : m = 2 := by
  refine cut_is (qs := [A, 1]) (isL_two h k) (by simp) (fun j hj => ct_out (by simpa using hj)) (fun _ => ?_) c
  show (1 : Rat) ≠ 0
  decide
theorem shM2 {A : Rat} {out : List Rat} {ds : List QD} {m : Nat} (h : IsL (rps (cv A out)) ds) (ht : out.length ≠ 0 → ct out (out.length - 1) ≠ 0) (c : CutAt ds m) : m = if out.length = 0 then 0 else out.length + 1 := by
  by_cases e : out.length = 0
  · rw [if_pos e]
    have : out = [] := List.length_eq_zero_iff.1 e
    subst this
    refine cut_is h (Nat.zero_le _) (fun j _ => ?_) (fun h0 => absurd h0 (by omega)) c
    rw [cv_ct]
    split
    · rename_i hj
      have : j = 0 := by simpa using hj
      subst this
      rw [pv_zero, ct_nil]; grind
    · rfl
  · rw [if_neg e]
    refine cut_is h (by rw [cv_len]; omega) (fun j hj => by rw [cv_ct, if_neg (by omega)]) (fun _ => ?_) c
    rw [Nat.add_sub_cancel, cv_ct, if_pos (Nat.le_refl _), ct_out (Nat.le_refl _)]
    obtain ⟨m, hm⟩ : ∃ m, out.length = m + 1 := ⟨out.length - 1, by omega⟩
    rw [hm, pv_succ]
    have := ht e
    rw [hm, Nat.add_sub_cancel] at this
    intro hc
    apply this
    grind
theorem shM3 {q : Rat} {e : QD} {m : Nat} (h : IsD (rp q) e) (c : CutAt [e] m) : m = if q = 0 then 0 else 1 := by
  by_cases hq : q = 0
  · rw [if_pos hq]
    refine cut_is (qs := [q]) (ds := [e]) ⟨h, trivial⟩ (Nat.zero_le _) (fun j _ => ?_) (fun h0 => absurd h0 (by omega)) c
    cases j with
    | zero => exact hq
    | succ j => rfl
  · rw [if_neg hq]
    exact cut_is (qs := [q]) (ds := [e]) ⟨h, trivial⟩ (by simp) (fun j hj => ct_out (by simpa using hj)) (fun _ => hq) c
theorem nw_top {A q : Rat} {out : List Rat} (ht : out.length ≠ 0 → ct out (out.length - 1) ≠ 0) (hl : out.length = 0 → q ≠ 0) : ct (nwL A q out) out.length ≠ 0 := by
  rw [nwL_ct, ct_out (Nat.le_refl _)]
  by_cases e : out.length = 0
  · rw [e, pv_zero, if_pos rfl]
    have := hl e
    intro hc
    apply this
    grind
  · obtain ⟨m, hm⟩ : ∃ m, out.length = m + 1 := ⟨out.length - 1, by omega⟩
    rw [hm, pv_succ, if_neg (by omega)]
    have := ht e
    rw [hm, Nat.add_sub_cancel] at this
    intro hc
    apply this
    grind
/-- A step of the specification's loop, by value. -/
theorem shStep {A q : Rat} {out : List Rat} {vs us4 : List (QV × QD)} {y : QV × QD} {m2 m3 m4 : Nat} (ha : BdR A 6) (hq : BdR q 6) (hb : AllB out 900) (hv : IsL (rps (cv A out)) (vs.map Prod.snd)) (c2 : CutAt (vs.map Prod.snd) m2) (hy : IsD (rp q) y.2) (c3 : CutAt [y.2] m3) (ht : out.length ≠ 0 → ct out (out.length - 1) ≠ 0) (hl : out.length = 0 → q ≠ 0)
    (h4 : IsL (sums (goods ((vs.take m2).map Prod.snd)) (goods (([y].take m3).map Prod.snd)) (max m2 m3)) (us4.map Prod.snd)) (c4 : CutAt (us4.map Prod.snd) m4) : IsL (rps (nwL A q out)) (us4.map Prod.snd) ∧ m4 = out.length + 1 ∧ us4.take m4 = us4 := by
  have e2 := shM2 hv ht c2
  have e3 := shM3 hy c3
  have b1 : AllB (cv A out) 2200 := (cv_bd ha (hb.mono (show 900 ≤ 900 by omega)) (by omega)).mono (by omega)
  have g1 : goods ((vs.take m2).map Prod.snd) = rps ((cv A out).take m2) := isL_goods (by rw [List.map_take]; exact isL_take hv m2) (b1.take m2)
  have b2 : AllB [q] 2200 := fun z hz => by rw [List.mem_singleton.1 hz]; exact hq.mono (by omega)
  have g2 : goods (([y].take m3).map Prod.snd) = rps ([q].take m3) := isL_goods (by rw [List.map_take]; exact isL_take (qs := [q]) (ds := [y.2]) ⟨hy, trivial⟩ m3) (b2.take m3)
  rw [g1, g2, sums_rps, new_eq e2 e3 hl] at h4
  have hlen : us4.length = out.length + 1 := by have := h4.len; unfold rps at this; simp only [List.length_map, nwL_len] at this; omega
  have e4 := cut_is h4 (k := out.length + 1) (by rw [nwL_len]; omega) (fun j hj => ct_out (by rw [nwL_len]; omega)) (fun _ => by rw [Nat.add_sub_cancel]; exact nw_top ht hl) c4
  exact ⟨h4, e4, List.take_of_length_le (by omega)⟩
theorem good_q {w : World} {q : QV} {d : QD} (j : IsGood w q d) (hs : sm d = true) (hg : gQ d = true) : IsD (rp (qR d)) d ∧ BdR (qR d) 6 := by
  have e := qR_rp hg ⟨j.pos, j.low⟩
  have h := (good_isD hg).1
  unfold sm at hs
  rw [Bool.and_eq_true, decide_eq_true_eq, decide_eq_true_eq] at hs
  refine ⟨by rw [← e]; exact h, ?_, ?_⟩
  · rw [← e]; exact h.n1.bd hs.1
  · rw [← e]; exact h.n2.bd hs.2
theorem isL_of_all : ∀ {ds : List QD}, (∀ y ∈ ds, IsD (rp (qR y)) y) → IsL (rps (ds.map qR)) ds
  | [], _ => trivial
  | y :: t, h => ⟨h y List.mem_cons_self, isL_of_all (fun z hz => h z (List.mem_cons_of_mem _ hz))⟩
structure GoodPs (ds : List QD) : Prop where
  is : IsL (rps (ds.map qR)) ds
  bd : AllB (ds.map qR) 6
  len : ds.length ≤ 7
  top : 0 < ds.length → ct (ds.map qR) (ds.length - 1) ≠ 0
theorem goodPs_of {w : World} {a : Option Addr} {n c : Nat} {l : List (QV × QD)} (h : PArQ w a n c l) (hg : gP (l.map Prod.snd) = true) : GoodPs (l.map Prod.snd) := by
  have hm := gP_mem hg
  have hq : ∀ y ∈ l.map Prod.snd, IsD (rp (qR y)) y ∧ BdR (qR y) 6 := fun y hy => by
    obtain ⟨p, hp, rfl⟩ := List.mem_map.1 hy
    exact good_q (good_of_mem h hg hp) (hm.2 _ hy).2 (hm.2 _ hy).1
  have his := isL_of_all (fun y hy => (hq y hy).1)
  refine ⟨his, fun q hq' => ?_, hm.1, fun h0 => ?_⟩
  · obtain ⟨y, hy, rfl⟩ := List.mem_map.1 hq'
    exact (hq y hy).2
  · have hlast : lastOk (l.map Prod.snd) = true := by unfold gP at hg; rw [Bool.and_eq_true] at hg; exact hg.2
    unfold lastOk at hlast
    rw [List.getLast?_eq_getElem?, List.getElem?_eq_getElem (by omega)] at hlast
    have hnz : nz ((l.map Prod.snd)[(l.map Prod.snd).length - 1]'(by omega)) = false := by simpa using hlast
    intro hc
    have := (isD_nz (isL_ct his ((l.map Prod.snd).length - 1) (by omega))).2 hc
    rw [hnz] at this
    cases this
theorem GoodPs.goods {ds : List QD} (h : GoodPs ds) : goods ds = rps (ds.map qR) := isL_goods h.is (h.bd.mono (by omega))
/-- The shifted polynomial. -/
def shC (ds : List QD) (d : QD) : List (Int × Int) := rps (hS (qR d) (ds.map qR))
theorem shC_low (ds : List QD) (d : QD) : LowL (shC ds d) := fun c hc => by
  unfold shC rps at hc
  obtain ⟨q, hq, rfl⟩ := List.mem_map.1 hc
  exact rp_low q

end Go.Proofs.YtcbmecnipldcfaaGreat
namespace Go.Proofs.YtcbmecnipldcfaaGreat
open Go.RowKit
set_option linter.unusedVariables false
set_option maxRecDepth 100000
set_option linter.unusedSimpArgs false

set_option maxHeartbeats 2000000 in
theorem coefI7 (x : QV) (d : QD) (w : World) (h : AllAr w [(x.num, d.num), (x.den, d.den)]) : Calls Tryz.prog 52 #[.agg #[.bool x.num.g, .slice x.num.a x.num.n x.num.c, .bool x.den.g, .slice x.den.a x.den.n x.den.c]] w fun e w' => e = .returned (.bool (gC d)) ∧ Below w.heap.size w w' := by
  have CL := hide (fun w1 (k : AllAr w1 [(x.num, d.num), (x.den, d.den)]) => longI x d w1 k)
  unfold gC
  cases hs : sm d
  · rw [hs] at CL
    rw [Bool.false_and]
    have H1 := hide h
    clear h
    have B0 := hide (show Below w.heap.size w (w.alloc (.cells #[.bool x.num.g, .slice x.num.a x.num.n x.num.c, .bool x.den.g, .slice x.den.a x.den.n x.den.c] 32)) from ((Below.refl _ _).alloc (by simp) _))
    go_enter Tryz.func52, Tryz.ntmps52
    go_wp2_with fail
    refine (unhide CL _ ((unhide H1).later (unhide B0))).mono ?_
    rintro e w1 ⟨rfl, hb⟩
    have HB := hide (below_on (unhide B0) hb)
    clear hb
    go_wp2
    go_ret
    exact ⟨rfl, unhide HB⟩
  · rw [hs] at CL
    rw [Bool.true_and]
    have H1 := hide h
    clear h
    have B0 := hide (show Below w.heap.size w (w.alloc (.cells #[.bool x.num.g, .slice x.num.a x.num.n x.num.c, .bool x.den.g, .slice x.den.a x.den.n x.den.c] 32)) from ((Below.refl _ _).alloc (by simp) _))
    go_enter Tryz.func52, Tryz.ntmps52
    go_wp2_with fail
    refine (unhide CL _ ((unhide H1).later (unhide B0))).mono ?_
    rintro e w1 ⟨rfl, hb⟩
    have k0_0 : w1.cell? ⟨w.heap.size, 0, none⟩ = some (.bool x.num.g) := cell_later hb (by simp [go_sem])
    have k0_1 : w1.cell? ⟨w.heap.size, 1, none⟩ = some (.slice x.num.a x.num.n x.num.c) := cell_later hb (by simp [go_sem])
    have k0_2 : w1.cell? ⟨w.heap.size, 2, none⟩ = some (.bool x.den.g) := cell_later hb (by simp [go_sem])
    have k0_3 : w1.cell? ⟨w.heap.size, 3, none⟩ = some (.slice x.den.a x.den.n x.den.c) := cell_later hb (by simp [go_sem])
    have HB := hide (below_on (unhide B0) hb)
    clear hb
    go_wp2_with fail
    refine (goodQI x d _ ((unhide H1).later (unhide HB))).mono ?_
    rintro e w2 ⟨rfl, hb⟩
    clear k0_0 k0_1 k0_2 k0_3
    replace HB := hide (below_on (unhide HB) hb)
    clear hb
    go_wp2
    go_ret
    exact ⟨rfl, unhide HB⟩

end Go.Proofs.YtcbmecnipldcfaaGreat
namespace Go.Proofs.YtcbmecnipldcfaaGreat
open Go.RowKit
set_option linter.unusedVariables false
set_option maxRecDepth 100000
set_option linter.unusedSimpArgs false

/-- An answer that may stand as an argument. -/
def RetPa (w : World) (U : List QD → Bool → Prop) (e : Ending) (w' : World) : Prop := ∃ (a : Option Addr) (n c : Nat) (l : List (QV × QD)) (ok : Bool), e = .returned (.tuple #[.slice a n c, .bool ok]) ∧ Below w.heap.size w w' ∧ PArQ w' a n c l ∧ U (l.map Prod.snd) ok
theorem arNone (w : World) : PArQ w none 0 0 [] := ⟨.inl rfl, fun p hp => (by cases hp), rfl, Nat.le_refl _, Nat.zero_le _⟩

set_option maxHeartbeats 4000000 in
theorem fitsQA (q : QV) (d : QD) (w : World) (h : AllAr w [(q.num, d.num), (q.den, d.den)]) (j : IsGood w q d) (hg : gQ d = true) :
    Calls Tryz.prog 72 #[.agg #[.bool q.num.g, .slice q.num.a q.num.n q.num.c, .bool q.den.g, .slice q.den.a q.den.n q.den.c]] w fun r w' => ∃ v : QV, r = .returned (.tuple #[.agg #[.bool v.num.g, .slice v.num.a v.num.n v.num.c, .bool v.den.g, .slice v.den.a v.den.n v.den.c], .bool true]) ∧ Below w.heap.size w w' ∧ AllOwn w.heap.size w'.heap.size w' [(v.num, d.num), (v.den, d.den)] ∧ AllAr w' [(v.num, d.num), (v.den, d.den)] := by
  have e := (good_isD hg).1
  have t1 : decide ((40 : Int) < (q.num.n : Int)) = false := by have := j.is.1.len j.kn; simp; omega
  have t2 : decide ((40 : Int) < (q.den.n : Int)) = false := by have := j.is.2.len j.kd; simp; omega
  have l1 : q.num.n ≤ 1048576 := by have := j.is.1.len j.kn; omega
  have l2 : q.den.n ≤ 1048576 := by have := j.is.2.len j.kd; omega
  have N1 : Hid (Nm d.num.xs (nQ d).natAbs) := hide e.n1
  have N2 : Hid (Nm d.den.xs (dQ d).natAbs) := hide e.n2
  have SG : Hid ((⟨decide (sU q.num.g ((nQ d).natAbs : Int) < 0), d.num.xs⟩ : BD) = d.num ∧ (⟨decide (sU false ((dQ d).natAbs : Int) < 0), d.den.xs⟩ : BD) = d.den) := hide (by
    have s1 := h.head.sg
    have p := j.pos
    refine ⟨?_, ?_⟩
    · rw [s1, e.g1]
      show (⟨decide (sU (decide (nQ d < 0)) ((nQ d).natAbs : Int) < 0), d.num.xs⟩ : BD) = d.num
      have : decide (sU (decide (nQ d < 0)) ((nQ d).natAbs : Int) < 0) = d.num.g := by
        rw [e.g1]
        show decide (sU (decide (nQ d < 0)) ((nQ d).natAbs : Int) < 0) = decide (nQ d < 0)
        unfold sU
        by_cases c : nQ d < 0 <;> simp [c] <;> omega
      rw [this]
    · have : decide (sU false ((dQ d).natAbs : Int) < 0) = d.den.g := by
        rw [e.g2]
        show decide (sU false ((dQ d).natAbs : Int) < 0) = decide (dQ d < 0)
        unfold sU
        have : ¬ dQ d < 0 := by omega
        simp [this]
      rw [this])
  have X1 := hide h.head.ar
  have X2 := hide h.tail.head.ar
  clear e h j hg
  go_enter Tryz.func72, Tryz.ntmps72
  go_upto_region 3 with fail
  have hb : Below w.heap.size w ((w.alloc (.cells #[.bool q.num.g, .slice q.num.a q.num.n q.num.c, .bool q.den.g, .slice q.den.a q.den.n q.den.c] 32)).alloc (.cells #[.bool false, .slice none 0 0, .bool false, .slice none 0 0] 32)) := (((Below.refl _ _).alloc (by simp) _).alloc (by simp) _)
  have k0_0 : ((w.alloc (.cells #[.bool q.num.g, .slice q.num.a q.num.n q.num.c, .bool q.den.g, .slice q.den.a q.den.n q.den.c] 32)).alloc (.cells #[.bool false, .slice none 0 0, .bool false, .slice none 0 0] 32)).cell? ⟨w.heap.size, 0, none⟩ = some (.bool q.num.g) := by simp [go_sem]
  have k0_1 : ((w.alloc (.cells #[.bool q.num.g, .slice q.num.a q.num.n q.num.c, .bool q.den.g, .slice q.den.a q.den.n q.den.c] 32)).alloc (.cells #[.bool false, .slice none 0 0, .bool false, .slice none 0 0] 32)).cell? ⟨w.heap.size, 1, none⟩ = some (.slice q.num.a q.num.n q.num.c) := by simp [go_sem]
  have k0_3 : ((w.alloc (.cells #[.bool q.num.g, .slice q.num.a q.num.n q.num.c, .bool q.den.g, .slice q.den.a q.den.n q.den.c] 32)).alloc (.cells #[.bool false, .slice none 0 0, .bool false, .slice none 0 0] 32)).cell? ⟨w.heap.size, 3, none⟩ = some (.slice q.den.a q.den.n q.den.c) := by simp [go_sem]
  have k1_0 : ((w.alloc (.cells #[.bool q.num.g, .slice q.num.a q.num.n q.num.c, .bool q.den.g, .slice q.den.a q.den.n q.den.c] 32)).alloc (.cells #[.bool false, .slice none 0 0, .bool false, .slice none 0 0] 32)).cell? ⟨w.heap.size + 1, 0, none⟩ = some (.bool false) := by simp [go_sem]
  have k1_1 : ((w.alloc (.cells #[.bool q.num.g, .slice q.num.a q.num.n q.num.c, .bool q.den.g, .slice q.den.a q.den.n q.den.c] 32)).alloc (.cells #[.bool false, .slice none 0 0, .bool false, .slice none 0 0] 32)).cell? ⟨w.heap.size + 1, 1, none⟩ = some (.slice none 0 0) := by simp [go_sem]
  have k1_2 : ((w.alloc (.cells #[.bool q.num.g, .slice q.num.a q.num.n q.num.c, .bool q.den.g, .slice q.den.a q.den.n q.den.c] 32)).alloc (.cells #[.bool false, .slice none 0 0, .bool false, .slice none 0 0] 32)).cell? ⟨w.heap.size + 1, 2, none⟩ = some (.bool false) := by simp [go_sem]
  have k1_3 : ((w.alloc (.cells #[.bool q.num.g, .slice q.num.a q.num.n q.num.c, .bool q.den.g, .slice q.den.a q.den.n q.den.c] 32)).alloc (.cells #[.bool false, .slice none 0 0, .bool false, .slice none 0 0] 32)).cell? ⟨w.heap.size + 1, 3, none⟩ = some (.slice none 0 0) := by simp [go_sem]
  have z1 : ∀ o, ((w.alloc (.cells #[.bool q.num.g, .slice q.num.a q.num.n q.num.c, .bool q.den.g, .slice q.den.a q.den.n q.den.c] 32)).alloc (.cells #[.bool false, .slice none 0 0, .bool false, .slice none 0 0] 32)).frozen? ⟨w.heap.size + 1, o, none⟩ = false := fun o => by simp [go_sem]
  have A1 := hide ((unhide X1).later hb)
  have A2 := hide ((unhide X2).later hb)
  have szw0 : w.heap.size + 2 ≤ ((w.alloc (.cells #[.bool q.num.g, .slice q.num.a q.num.n q.num.c, .bool q.den.g, .slice q.den.a q.den.n q.den.c] 32)).alloc (.cells #[.bool false, .slice none 0 0, .bool false, .slice none 0 0] 32)).heap.size := by simp
  have HB := hide hb
  clear hb
  generalize ((w.alloc (.cells #[.bool q.num.g, .slice q.num.a q.num.n q.num.c, .bool q.den.g, .slice q.den.a q.den.n q.den.c] 32)).alloc (.cells #[.bool false, .slice none 0 0, .bool false, .slice none 0 0] 32)) = w0 at *
  have ne0_1 : w.heap.size ≠ w.heap.size + 1 := by omega
  go_region_held3 (fun w' => w'.cell? ⟨w.heap.size, 0, none⟩ = some (.bool q.num.g) ∧ w'.cell? ⟨w.heap.size, 1, none⟩ = some (.slice q.num.a q.num.n q.num.c) ∧ w'.cell? ⟨w.heap.size, 3, none⟩ = some (.slice q.den.a q.den.n q.den.c)) (with_reducible (first | exact ⟨k0_0, k0_1, k0_3⟩ | exact ⟨cd_other k0_0, cd_other k0_1, cd_other k0_3⟩ | exact ⟨cs_other (cs_other (cs_other (cs_other (k0_0) ne0_1) ne0_1) ne0_1) ne0_1, cs_other (cs_other (cs_other (cs_other (k0_1) ne0_1) ne0_1) ne0_1) ne0_1, cs_other (cs_other (cs_other (cs_other (k0_3) ne0_1) ne0_1) ne0_1) ne0_1⟩ | fail))
    (first
    | (go_at_call_of 71 (Value.bool q.num.g); refine (makeS_v _ q.num.a q.num.n q.num.c d.num.xs _ _ ?_ (unhide N1) l1).mono ?_; exact (unhide A1).later (Below.refl _ _).drew; rintro e w1 ⟨x1, rfl, hb, ow1, ar1⟩; have hbx : Below w0.heap.size w0 w1 := below_of_drew hb; have szw1 := hbx.size; replace z1 := fun o => frozen_later hbx (World.block_lt_of_cell? _ _ k1_0) (z1 o); replace k0_0 := cell_later hbx k0_0; replace k0_1 := cell_later hbx k0_1; replace k0_3 := cell_later hbx k0_3; replace k1_0 := cell_later hbx k1_0; replace k1_1 := cell_later hbx k1_1; replace k1_2 := cell_later hbx k1_2; replace k1_3 := cell_later hbx k1_3; replace A1 := hide ((unhide A1).later hbx); replace A2 := hide ((unhide A2).later hbx); rw [(unhide SG).1] at ow1 ar1; replace ow1 : AllOwn w0.heap.size w1.heap.size w1 [(x1, d.num)] := ow1; have O1 := hide (ow1); have R1 := hide (ar1); have HBr := hide hbx; clear hbx hb ow1 ar1)
    | (go_at_call_of 71 (Value.bool false); refine (makeS_v false q.den.a q.den.n q.den.c d.den.xs _ _ ?_ (unhide N2) l2).mono ?_; exact (unhide A2).later (Below.refl _ _); rintro e w2 ⟨x2, rfl, hb, ow2, ar2⟩; have hbx : Below w1.heap.size w1 w2 := hb; have szw2 := hbx.size; replace z1 := fun o => frozen_later hbx (World.block_lt_of_cell? _ _ k1_0) (z1 o); replace k0_0 := cell_later hbx k0_0; replace k0_1 := cell_later hbx k0_1; replace k0_3 := cell_later hbx k0_3; replace k1_0 := cell_later hbx k1_0; replace k1_1 := cell_later hbx k1_1; replace k1_2 := cell_later hbx k1_2; replace k1_3 := cell_later hbx k1_3; replace A1 := hide ((unhide A1).later hbx); replace A2 := hide ((unhide A2).later hbx); replace O1 := hide ((unhide O1).later hbx); replace R1 := hide ((unhide R1).later hbx); rw [(unhide SG).2] at ow2 ar2; have O2 := hide (ow2); have R2 := hide (ar2); have HBr := hide (below_on (unhide HBr) hbx); clear hbx hb ow2 ar2))
  replace HB := hide (below_on (unhide HB) (unhide HBr))
  clear HBr
  have OO : Hid (AllOwn (w.heap.size + 1 + 1) w2.heap.size w2 [(x1, d.num), (x2, d.den)]) := hide (((unhide O1).join (unhide O2) (by omega) (by omega)).wide (by omega) (by omega))
  have RR : Hid (AllAr w2 [(x1, d.num), (x2, d.den)]) := hide ((unhide R1).append (unhide R2))
  go_wp2
  refine bodyPost_ret (v := .tuple #[.agg #[.bool x1.g, .slice x1.a x1.n x1.c, .bool x2.g, .slice x2.a x2.n x2.c], .bool true]) (by simp [results, Tryz.results72, go_sem, k1_0, k1_1, k1_2, k1_3]) rfl ?_
  have bt := metQ_but (w5 := w2) (v := ⟨x1, x2⟩) (G := w.heap.size + 1)
  exact ⟨⟨x1, x2⟩, rfl, bt.below (unhide HB) (by omega) (unhide HB).size, (own_fin bt (unhide OO) (Nat.le_refl _)).wide (by omega) bt.size, ar_fin bt (unhide OO) (unhide RR) (Nat.le_refl _)⟩

set_option maxHeartbeats 8000000 in
theorem fitsPA (a : Option Addr) (n c : Nat) (l : List (QV × QD)) (cs : List (Int × Int)) (w : World) (h : PArQ w a n c l) (hl : IsL cs (l.map Prod.snd)) :
    Calls Tryz.prog 49 #[.slice a n c] w (RetPa w (AnsP true cs)) := by
  obtain ⟨i0, hi, hz0, hz1, hz2⟩ := info_parts Tryz.info32
  have GS := hide (fun w1 (k : PArQ w1 a n c l) => GoodPS a n c l w1 k)
  have HS := hide h
  have HN := hide h.len
  have HL := hide hl
  clear h hl
  cases hg : gP (l.map Prod.snd)
  · rw [hg] at GS
    have HG := hide hg
    clear hg
    go_enter Tryz.func49, Tryz.ntmps49
    go_wp2_with fail
    refine (unhide GS _ (unhide HS)).mono ?_
    rintro e w1 ⟨rfl, hb⟩
    have HB := hide hb
    clear hb GS
    go_wp2
    go_ret2
    exact ⟨none, 0, 0, [], false, rfl, unhide HB, arNone _, .inl ⟨rfl, _, unhide HL, .inr ⟨unhide HG, rfl, rfl⟩⟩⟩
  · rw [hg] at GS
    have HG := hide hg
    have n7 : n ≤ 7 := by have := (gP_mem hg).1; rw [List.length_map, unhide HN] at this; exact this
    clear hg
    go_enter Tryz.func49, Tryz.ntmps49
    go_wp2_with fail
    refine (unhide GS _ (unhide HS)).mono ?_
    rintro e w1 ⟨rfl, hb⟩
    have HB0 := hide hb
    clear hb GS
    go_wp2
    go_loopw [4, 14] (fun v iv wr => ∃ (i : Nat) (us : List (QV × QD)), i ≤ n ∧ iv = .int .i64 i ∧ us.length = i ∧ Hid (us.map Prod.snd = (l.map Prod.snd).take i) ∧ Hid (wr.ownsRow w.heap.size 32 4 v i (flatC us)) ∧ Hid (Typ wr (zipPQ us)) ∧ Hid (AllAr wr (zipPQ us)) ∧ Hid (Below w.heap.size w wr)) (fun _ iv _ => n - (intOf iv).toNat)
    case atStart => exact ⟨0, [], Nat.zero_le _, rfl, rfl, hide (by simp), hide ⟨rfl, .inl ⟨rfl, rfl⟩⟩, hide (fun p hp => by cases hp), hide (fun p hp => by cases hp), HB0⟩
    case round =>
      clear HB0
      obtain ⟨i, us, hi', rfl, hu, ED, OW, OO, AA, HB⟩ := hrel
      by_cases hlt : i < n
      · have hlt' : (i : Int) < (n : Int) := by omega
        have hlx : i < n := hlt
        rcases (unhide HS).at_ with e | ⟨b, off, rfl, hb, hc⟩
        · exact absurd (unhide HN) (by rw [e]; simp; omega)
        have e0 := hc i (by rw [unhide HN]; exact hlx)
        obtain ⟨y, hy⟩ : ∃ y, y = l[i]'(by rw [unhide HN]; exact hlx) := ⟨_, rfl⟩
        rw [← hy] at e0
        have MY : Hid (y ∈ l) := hide (by rw [hy]; exact List.getElem_mem _)
        have EY := hide hy
        clear hy
        have E0 : wr.cell? ⟨b, off + i * 4, none⟩ = some (.bool y.1.num.g) := ((unhide HB).cell (p := ⟨b, off + i * 4, none⟩) hb).trans (e0.1)
        have E1 : wr.cell? ⟨b, off + i * 4 + 1, none⟩ = some (.slice y.1.num.a y.1.num.n y.1.num.c) := ((unhide HB).cell (p := ⟨b, off + i * 4 + 1, none⟩) hb).trans (e0.2.1)
        have E2 : wr.cell? ⟨b, off + i * 4 + 2, none⟩ = some (.bool y.1.den.g) := ((unhide HB).cell (p := ⟨b, off + i * 4 + 2, none⟩) hb).trans (e0.2.2.1)
        have E3 : wr.cell? ⟨b, off + i * 4 + 3, none⟩ = some (.slice y.1.den.a y.1.den.n y.1.den.c) := ((unhide HB).cell (p := ⟨b, off + i * 4 + 3, none⟩) hb).trans (e0.2.2.2)
        clear e0
        clear hc
        have JY := hide ((good_of_mem (unhide HS) (unhide HG) (unhide MY)).later (unhide HB))
        have GY : Hid (gQ y.2 = true) := hide ((gP_mem (unhide HG)).2 y.2 (List.mem_map.2 ⟨y, unhide MY, rfl⟩)).1
        have TK : Hid ((l.map Prod.snd).take (i + 1) = (l.map Prod.snd).take i ++ [y.2]) := hide (by
          have h : (l.map Prod.snd)[i]? = some y.2 := by
            rw [List.getElem?_map, List.getElem?_eq_getElem (by rw [unhide HN]; exact hlx), ← unhide EY]
            rfl
          rw [List.take_add_one, h]
          rfl)
        have al : Below wr.heap.size wr (wr.alloc (.cells #[.bool y.1.num.g, .slice y.1.num.a y.1.num.n y.1.num.c, .bool y.1.den.g, .slice y.1.den.a y.1.den.n y.1.den.c] 32)) := (Below.refl _ _).alloc (Nat.le_refl _) _
        have JA := hide ((unhide JY).later al)
        have YR := hide (((unhide HS).rd y (unhide MY)).later (below_on (unhide HB) al))
        clear al
        go_wp2_with fail
        refine (fitsQA y.1 y.2 _ (unhide YR) (unhide JA) (unhide GY)).mono ?_
        rintro e w2 ⟨v, rfl, hb2, ov, va⟩
        have hbx := ba hb2
        have sz2 := hbx.size
        have a2 : Below w2.heap.size w2 ((w2.alloc (.cells #[.bool v.num.g, .slice v.num.a v.num.n v.num.c, .bool v.den.g, .slice v.den.a v.den.n v.den.c] 32)).alloc (.cells #[.bool v.num.g, .slice v.num.a v.num.n v.num.c, .bool v.den.g, .slice v.den.a v.den.n v.den.c] 32)) := ((Below.refl _ _).alloc (Nat.le_refl _) _).alloc (by simp) _
        have HB2 := hide (below_on (unhide HB) hbx)
        have HB3 := hide (below_on (unhide HB2) a2)
        have OW2 := hide (owns_later (owns_later (unhide OW) hbx) a2)
        have OO2 := hide ((((unhide OO).later hbx).append ov.typ).later a2)
        have AA2 := hide ((((unhide AA).later hbx).append va).later a2)
        have zv : w.heap.size ≤ w2.heap.size := (unhide HB2).size
        clear hb2 ov va YR hbx a2 JY JA E0 E1 E2 E3 OW OO AA HB
        go_wp2_with (at_builtin; refine wpList_append_lies _ rfl (.tmp 23) (.tmp 25) 44 rfl w.heap.size 32 i0 (.agg #[.bool false, .slice none 0 0, .bool false, .slice none 0 0]) 4 64 Tryz.underlying44 hi hz0 hz1 hz2 rfl (by decide) _ i (flatC us) rfl (unhide OW2) ⟨w2.heap.size + 1, 0, none⟩ 1 1 [.bool v.num.g, .slice v.num.a v.num.n v.num.c, .bool v.den.g, .slice v.den.a v.den.n v.den.c] rfl rfl (World.news_of_block (cs := #[.bool v.num.g, .slice v.num.a v.num.n v.num.c, .bool v.den.g, .slice v.den.a v.den.n v.den.c]) (t := 32) (fr := (0, 0)) (by rw [show w2.heap.size + 1 = (w2.alloc (.cells #[.bool v.num.g, .slice v.num.a v.num.n v.num.c, .bool v.den.g, .slice v.den.a v.den.n v.den.c] 32)).heap.size from by simp]; exact heap_alloc_new _ _)) (by intro u' hu'; simp at hu'; rcases hu' with rfl | rfl | rfl | rfl <;> rfl) (by omega) (by unfold maxLen; omega) (by omega) (by simp; omega) _ rfl ?_)
        intro g cap w3 hown hgrow hor hlt3
        have OW3 : Hid (w3.ownsRow w.heap.size 32 4 (.slice (some ⟨g, 0, none⟩) (i + 1) cap) (i + 1) (flatC (us ++ [(v, y.2)]))) := hide (by rw [flatC_append]; exact hown)
        have OO3 := hide ((unhide OO2).grown hgrow (unhide OW2))
        have AA3 : Hid (AllAr w3 (zipPQ (us ++ [(v, y.2)]))) := hide (by rw [zipPQ_append, zipPQ_one]; exact Typ.ar (unhide OO3) (unhide AA2))
        have OO4 : Hid (Typ w3 (zipPQ (us ++ [(v, y.2)]))) := hide (by rw [zipPQ_append, zipPQ_one]; exact unhide OO3)
        have HB4 := hide ((unhide HB3).grown hgrow (unhide HB3).size (owns_base (unhide OW2)))
        have ED3 : Hid ((us ++ [(v, y.2)]).map Prod.snd = (l.map Prod.snd).take (i + 1)) := hide (by rw [unhide TK, List.map_append, unhide ED]; rfl)
        clear hown hgrow hor hlt3 OW2 OO2 AA2 HB2 HB3 OO3
        go_wp2
        go_roundw
        case rel => exact ⟨i + 1, us ++ [(v, y.2)], by omega, by go_num, by simp [hu], ED3, OW3, OO4, AA3, HB4⟩
        case measure => simp [intOf]; omega
      · obtain rfl : i = n := by omega
        have EL : Hid (us.map Prod.snd = l.map Prod.snd) := hide (by have h := unhide ED; rw [List.take_of_length_le (by simp; rw [unhide HN]; exact Nat.le_refl _)] at h; exact h)
        obtain ⟨a3, c3, rfl, _, p3⟩ := owns_arg (unhide OW) hu (unhide AA)
        have P3 := hide p3
        clear p3 OW OO AA ED
        go_wp2
        go_ret2
        refine ⟨_, _, _, us, true, rfl, unhide HB, unhide P3, ?_⟩
        rw [unhide EL]
        exact .inl ⟨rfl, _, unhide HL, .inl ⟨unhide HG, rfl, rfl⟩⟩


set_option maxRecDepth 100000 in
set_option maxHeartbeats 32000000 in
theorem ShPA (a : Option Addr) (n c : Nat) (l : List (QV × QD)) (x : QV) (d : QD) (w : World) (h : PArQ w a n c l) (hx : AllAr w [(x.num, d.num), (x.den, d.den)]) :
    Calls Tryz.prog 15 #[.slice a n c, .agg #[.bool x.num.g, .slice x.num.a x.num.n x.num.c, .bool x.den.g, .slice x.den.a x.den.n x.den.c]] w (RetPa w (AnsP (gP (l.map Prod.snd) && gC d) (shC (l.map Prod.snd) d))) := by
  obtain ⟨P, hP⟩ : ∃ P : Bool, P = (gP (l.map Prod.snd) && gC d) := ⟨_, rfl⟩
  rw [← hP]
  cases hr : gP (l.map Prod.snd)
  · have CR := hide (fun w1 (k : PArQ w1 a n c l) => GoodPS a n c l w1 k)
    rw [hr] at CR
    have H0 := hide h
    have H1 := hide hx
    clear h hx
    have PN : Hid (P = false) := hide (by rw [hP]; unfold gC; rw [hr, Bool.false_and])
    clear hP hr
    have B0 := hide (show Below w.heap.size w (w.alloc (.cells #[.bool x.num.g, .slice x.num.a x.num.n x.num.c, .bool x.den.g, .slice x.den.a x.den.n x.den.c] 32)) from ((Below.refl _ _).alloc (by simp) _))
    go_enter Tryz.func15, Tryz.ntmps15
    go_wp2_with fail
    refine (unhide CR _ ((unhide H0).later (unhide B0))).mono ?_
    rintro e w1 ⟨rfl, hb⟩
    have HB := hide (below_on (unhide B0) hb)
    clear hb
    go_wp2
    go_ret2
    exact ⟨none, 0, 0, [], false, rfl, unhide HB, arNone _, .inr ⟨unhide PN, rfl, rfl⟩⟩
  · cases hs : sm d
    · have CR := hide (fun w1 (k : PArQ w1 a n c l) => GoodPS a n c l w1 k)
      rw [hr] at CR
      have H0 := hide h
      have H1 := hide hx
      clear h hx
      have CL := hide (fun w1 (k : AllAr w1 [(x.num, d.num), (x.den, d.den)]) => smallS x d w1 k)
      rw [hs] at CL
      have PN : Hid (P = false) := hide (by rw [hP]; unfold gC; rw [hr, hs, Bool.false_and, Bool.and_false])
      clear hP hr hs
      have B0 := hide (show Below w.heap.size w (w.alloc (.cells #[.bool x.num.g, .slice x.num.a x.num.n x.num.c, .bool x.den.g, .slice x.den.a x.den.n x.den.c] 32)) from ((Below.refl _ _).alloc (by simp) _))
      go_enter Tryz.func15, Tryz.ntmps15
      go_wp2_with fail
      refine (unhide CR _ ((unhide H0).later (unhide B0))).mono ?_
      rintro e w1 ⟨rfl, hb⟩
      have k0_0 : w1.cell? ⟨w.heap.size, 0, none⟩ = some (.bool x.num.g) := cell_later hb (by simp [go_sem])
      have k0_1 : w1.cell? ⟨w.heap.size, 1, none⟩ = some (.slice x.num.a x.num.n x.num.c) := cell_later hb (by simp [go_sem])
      have k0_2 : w1.cell? ⟨w.heap.size, 2, none⟩ = some (.bool x.den.g) := cell_later hb (by simp [go_sem])
      have k0_3 : w1.cell? ⟨w.heap.size, 3, none⟩ = some (.slice x.den.a x.den.n x.den.c) := cell_later hb (by simp [go_sem])
      have HB := hide (below_on (unhide B0) hb)
      clear hb
      go_wp2_with fail
      refine (unhide CL _ ((unhide H1).later (unhide HB))).mono ?_
      rintro e w2 ⟨rfl, hb⟩
      clear k0_0 k0_1 k0_2 k0_3
      replace HB := hide (below_on (unhide HB) hb)
      clear hb
      go_wp2
      go_ret2
      exact ⟨none, 0, 0, [], false, rfl, unhide HB, arNone _, .inr ⟨unhide PN, rfl, rfl⟩⟩
    · cases hq : gQ d
      · have CR := hide (fun w1 (k : PArQ w1 a n c l) => GoodPS a n c l w1 k)
        rw [hr] at CR
        have H0 := hide h
        have H1 := hide hx
        clear h hx
        have CL := hide (fun w1 (k : AllAr w1 [(x.num, d.num), (x.den, d.den)]) => smallS x d w1 k)
        rw [hs] at CL
        have CG := hide (fun w1 (k : AllAr w1 [(x.num, d.num), (x.den, d.den)]) => goodQS x d w1 k)
        rw [hq] at CG
        have PN : Hid (P = false) := hide (by rw [hP]; unfold gC; rw [hr, hs, hq, Bool.and_false, Bool.and_false])
        clear hP hr hs hq
        have B0 := hide (show Below w.heap.size w (w.alloc (.cells #[.bool x.num.g, .slice x.num.a x.num.n x.num.c, .bool x.den.g, .slice x.den.a x.den.n x.den.c] 32)) from ((Below.refl _ _).alloc (by simp) _))
        go_enter Tryz.func15, Tryz.ntmps15
        go_wp2_with fail
        refine (unhide CR _ ((unhide H0).later (unhide B0))).mono ?_
        rintro e w1 ⟨rfl, hb⟩
        have k0_0 : w1.cell? ⟨w.heap.size, 0, none⟩ = some (.bool x.num.g) := cell_later hb (by simp [go_sem])
        have k0_1 : w1.cell? ⟨w.heap.size, 1, none⟩ = some (.slice x.num.a x.num.n x.num.c) := cell_later hb (by simp [go_sem])
        have k0_2 : w1.cell? ⟨w.heap.size, 2, none⟩ = some (.bool x.den.g) := cell_later hb (by simp [go_sem])
        have k0_3 : w1.cell? ⟨w.heap.size, 3, none⟩ = some (.slice x.den.a x.den.n x.den.c) := cell_later hb (by simp [go_sem])
        have HB := hide (below_on (unhide B0) hb)
        clear hb
        go_wp2_with fail
        refine (unhide CL _ ((unhide H1).later (unhide HB))).mono ?_
        rintro e w2 ⟨rfl, hb⟩
        replace k0_0 := cell_later hb k0_0
        replace k0_1 := cell_later hb k0_1
        replace k0_2 := cell_later hb k0_2
        replace k0_3 := cell_later hb k0_3
        replace HB := hide (below_on (unhide HB) hb)
        clear hb
        go_wp2_with fail
        refine (unhide CG _ ((unhide H1).later (unhide HB))).mono ?_
        rintro e w3 ⟨rfl, hb⟩
        clear k0_0 k0_1 k0_2 k0_3
        replace HB := hide (below_on (unhide HB) hb)
        clear hb
        go_wp2
        go_ret2
        exact ⟨none, 0, 0, [], false, rfl, unhide HB, arNone _, .inr ⟨unhide PN, rfl, rfl⟩⟩
      · have CR := hide (fun w1 (k : PArQ w1 a n c l) => GoodPS a n c l w1 k)
        rw [hr] at CR
        have H0 := hide h
        have H1 := hide hx
        clear h hx
        have CL := hide (fun w1 (k : AllAr w1 [(x.num, d.num), (x.den, d.den)]) => smallS x d w1 k)
        rw [hs] at CL
        have CG := hide (fun w1 (k : AllAr w1 [(x.num, d.num), (x.den, d.den)]) => goodQS x d w1 k)
        rw [hq] at CG
        have PY : Hid (P = true) := hide (by rw [hP]; unfold gC; rw [hr, hs, hq]; rfl)
        have GP := hide (goodPs_of (unhide H0) hr)
        have DQ := good_q (isGood_of (unhide H1) hq) hs hq
        obtain ⟨A, hA⟩ : ∃ A : Rat, A = qR d := ⟨_, rfl⟩
        obtain ⟨ps, hps⟩ : ∃ ps : List Rat, ps = (l.map Prod.snd).map qR := ⟨_, rfl⟩
        rw [← hA] at DQ
        have DX := hide DQ.1
        have KA := hide DQ.2
        have HA := hide hA
        have HPS := hide hps
        have pl : ps.length = n := by rw [hps, List.length_map, List.length_map]; exact (unhide H0).len
        have n7 : n ≤ 7 := by have := (unhide GP).len; rw [List.length_map, (unhide H0).len] at this; exact this
        have PB : Hid (AllB ps 6) := hide (by rw [hps]; exact (unhide GP).bd)
        have PI : Hid (IsL (rps ps) (l.map Prod.snd)) := hide (by rw [hps]; exact (unhide GP).is)
        have PT : Hid (0 < n → ct ps (n - 1) ≠ 0) := hide (fun h0 => by have := (unhide GP).top (by rw [List.length_map, (unhide H0).len]; exact h0); rw [List.length_map, (unhide H0).len, ← hps] at this; exact this)
        clear DQ hA hps hP hr hs hq GP
        have B0 := hide (show Below w.heap.size w (w.alloc (.cells #[.bool x.num.g, .slice x.num.a x.num.n x.num.c, .bool x.den.g, .slice x.den.a x.den.n x.den.c] 32)) from ((Below.refl _ _).alloc (by simp) _))
        go_enter Tryz.func15, Tryz.ntmps15
        go_wp2_with fail
        refine (unhide CR _ ((unhide H0).later (unhide B0))).mono ?_
        rintro e w1 ⟨rfl, hb⟩
        have k0_0 : w1.cell? ⟨w.heap.size, 0, none⟩ = some (.bool x.num.g) := cell_later hb (by simp [go_sem])
        have k0_1 : w1.cell? ⟨w.heap.size, 1, none⟩ = some (.slice x.num.a x.num.n x.num.c) := cell_later hb (by simp [go_sem])
        have k0_2 : w1.cell? ⟨w.heap.size, 2, none⟩ = some (.bool x.den.g) := cell_later hb (by simp [go_sem])
        have k0_3 : w1.cell? ⟨w.heap.size, 3, none⟩ = some (.slice x.den.a x.den.n x.den.c) := cell_later hb (by simp [go_sem])
        have HB := hide (below_on (unhide B0) hb)
        clear hb
        go_wp2_with fail
        refine (unhide CL _ ((unhide H1).later (unhide HB))).mono ?_
        rintro e w2 ⟨rfl, hb⟩
        replace k0_0 := cell_later hb k0_0
        replace k0_1 := cell_later hb k0_1
        replace k0_2 := cell_later hb k0_2
        replace k0_3 := cell_later hb k0_3
        replace HB := hide (below_on (unhide HB) hb)
        clear hb
        go_wp2_with fail
        refine (unhide CG _ ((unhide H1).later (unhide HB))).mono ?_
        rintro e w3 ⟨rfl, hb⟩
        replace k0_0 := cell_later hb k0_0
        replace k0_1 := cell_later hb k0_1
        replace k0_2 := cell_later hb k0_2
        replace k0_3 := cell_later hb k0_3
        replace HB := hide (below_on (unhide HB) hb)
        clear hb
        have T0 := k0_0
        have T1 := k0_1
        have T2 := k0_2
        have T3 := k0_3
        clear k0_0 k0_1 k0_2 k0_3
        go_wp2
        go_loopw [6, 7] (fun ov kv wr => ∃ (k1 : Nat) (a' : Option Addr) (n' c' : Nat) (us : List (QV × QD)), k1 ≤ n ∧ ov = .slice a' n' c' ∧ kv = .int .i64 ((k1 : Int) - 1) ∧ n' + k1 = n ∧ Hid (PArQ wr a' n' c' us) ∧ Hid (IsL (rps (hS A (ps.drop k1))) (us.map Prod.snd)) ∧ Hid (Below w.heap.size w wr) ∧ Hid (wr.cell? ⟨w.heap.size, 0, none⟩ = some (.bool x.num.g)) ∧ Hid (wr.cell? ⟨w.heap.size, 1, none⟩ = some (.slice x.num.a x.num.n x.num.c)) ∧ Hid (wr.cell? ⟨w.heap.size, 2, none⟩ = some (.bool x.den.g)) ∧ Hid (wr.cell? ⟨w.heap.size, 3, none⟩ = some (.slice x.den.a x.den.n x.den.c))) (fun _ kv _ => (intOf kv + 1).toNat)
        case atStart => exact ⟨n, none, 0, 0, [], Nat.le_refl _, rfl, by go_num, by omega, hide ⟨.inl rfl, fun p hp => (by cases hp), rfl, Nat.le_refl _, Nat.zero_le _⟩, hide (by rw [List.drop_eq_nil_of_le (by omega)]; exact trivial), HB, hide T0, hide T1, hide T2, hide T3⟩
        case round =>
          clear HB T0 T1 T2 T3
          obtain ⟨k1, a', n', c', us, hk1, rfl, rfl, hn', OUTP, OI, HB, T0, T1, T2, T3⟩ := hrel
          replace T0 := unhide T0
          replace T1 := unhide T1
          replace T2 := unhide T2
          replace T3 := unhide T3
          rcases Nat.eq_zero_or_pos k1 with h0 | h0
          · subst h0
            have hd : ¬ 0 ≤ ((0 : Nat) : Int) - 1 := by omega
            go_wp2_with fail
            refine (fitsPA a' n' c' us _ _ (unhide OUTP) (unhide OI)).mono ?_
            rintro e w5 ⟨a5, n5, c5, l5, ok, rfl, hb, hsl, hu⟩
            have HF := hide (And.intro (below_on (unhide HB) hb) (And.intro hsl hu))
            clear hb hsl hu
            go_wp2
            go_ret2
            refine ⟨a5, n5, c5, l5, ok, rfl, (unhide HF).1, (unhide HF).2.1, ?_⟩
            rw [unhide PY]
            have hu := (unhide HF).2.2
            unfold shC
            rw [← unhide HA, ← unhide HPS]
            exact hu
          · obtain ⟨k, rfl⟩ : ∃ k, k1 = k + 1 := ⟨k1 - 1, by omega⟩
            have ek : (((k + 1 : Nat) : Int) - 1) = (k : Int) := by omega
            rw [ek]
            clear ek h0
            have hd : 0 ≤ (k : Int) := by omega
            have hkn : (k : Int) < (n : Int) := by omega
            have hkt : ((k : Int)).toNat = k := by omega
            rcases (unhide H0).at_ with e | ⟨b, off, ea, hbl, hc⟩
            · exact absurd (unhide H0).len (by rw [e]; simp; omega)
            subst ea
            have e0 := hc k (by rw [(unhide H0).len]; omega)
            obtain ⟨y, hy⟩ : ∃ y, y = l[k]'(by rw [(unhide H0).len]; omega) := ⟨_, rfl⟩
            rw [← hy] at e0
            have MY : y ∈ l := by rw [hy]; exact List.getElem_mem _
            have YA := hide (((unhide H0).rd y MY).later (unhide HB))
            obtain ⟨Q, hQ⟩ : ∃ Q, Q = ct ps k := ⟨_, rfl⟩
            have DY : Hid (IsD (rp Q) y.2) := hide (by have h := isL_ct (unhide PI) k (by rw [List.length_map, (unhide H0).len]; omega); rw [List.getElem_map, ← hy, ← hQ] at h; exact h)
            have KQ : Hid (BdR Q 6) := hide (by rw [hQ]; exact (unhide PB).ct (by omega) k)
            have ED : Hid (hS A (ps.drop k) = nwL A Q (hS A (ps.drop (k + 1)))) := hide (by rw [hQ, List.drop_eq_getElem_cons (by omega), hS_cons]; have := ct_get (l := ps) (k := k) (by omega); rw [List.getElem?_eq_getElem (by omega)] at this; rw [Option.some.inj this])
            have OL : Hid ((hS A (ps.drop (k + 1))).length = n') := hide (by rw [hS_len, List.length_drop]; omega)
            have OB : Hid (AllB (hS A (ps.drop (k + 1))) 900) := hide (by
              have hb := hS_bd (unhide KA) (u := ps.drop (k + 1)) (fun q hq => unhide PB q (List.mem_of_mem_drop hq)) (by rw [List.length_drop]; omega)
              refine hb.mono ?_
              have : ∀ t : Fin 7, oB t.val ≤ 900 := by decide
              exact this ⟨(ps.drop (k + 1)).length, by rw [List.length_drop]; omega⟩)
            have TOP : Hid ((hS A (ps.drop (k + 1))).length ≠ 0 → ct (hS A (ps.drop (k + 1))) ((hS A (ps.drop (k + 1))).length - 1) ≠ 0) := hide (fun h1 => by
              rw [hS_len] at h1 ⊢
              rw [hS_last A _ (by omega), ct_drop, List.length_drop]
              have := unhide PT (by omega)
              rw [show k + 1 + (ps.length - (k + 1) - 1) = n - 1 by rw [List.length_drop] at h1; omega]
              exact this)
            have BOT : Hid ((hS A (ps.drop (k + 1))).length = 0 → Q ≠ 0) := hide (fun h1 => by
              rw [unhide OL] at h1
              rw [hQ, show k = n - 1 by omega]
              exact unhide PT (by omega))
            have GQ1 := hide (isL_gq (unhide OI) ((unhide OB).mono (by omega)))
            have GG1 := hide (isL_goods (unhide OI) ((unhide OB).mono (by omega)))
            have CVB : Hid (AllB (cv A (hS A (ps.drop (k + 1)))) 2200) := hide ((cv_bd (unhide KA) (unhide OB) (by omega)).mono (by omega))
            have XA := hide ((unhide H1).later (unhide HB))
            clear hQ
            have E0 : wr.cell? ⟨b, off + k * 4, none⟩ = some (.bool y.1.num.g) := ((unhide HB).cell (p := ⟨b, off + k * 4, none⟩) hbl).trans (e0.1)
            have E1 : wr.cell? ⟨b, off + k * 4 + 1, none⟩ = some (.slice y.1.num.a y.1.num.n y.1.num.c) := ((unhide HB).cell (p := ⟨b, off + k * 4 + 1, none⟩) hbl).trans (e0.2.1)
            have E2 : wr.cell? ⟨b, off + k * 4 + 2, none⟩ = some (.bool y.1.den.g) := ((unhide HB).cell (p := ⟨b, off + k * 4 + 2, none⟩) hbl).trans (e0.2.2.1)
            have E3 : wr.cell? ⟨b, off + k * 4 + 3, none⟩ = some (.slice y.1.den.a y.1.den.n y.1.den.c) := ((unhide HB).cell (p := ⟨b, off + k * 4 + 3, none⟩) hbl).trans (e0.2.2.2)
            clear e0 hc hy MY
            go_upto_region 7 with fail
            go_region_held3 (fun w' => w'.cell? ⟨w.heap.size, 0, none⟩ = some (.bool x.num.g) ∧ w'.cell? ⟨w.heap.size, 1, none⟩ = some (.slice x.num.a x.num.n x.num.c) ∧ w'.cell? ⟨w.heap.size, 2, none⟩ = some (.bool x.den.g) ∧ w'.cell? ⟨w.heap.size, 3, none⟩ = some (.slice x.den.a x.den.n x.den.c) ∧ w'.cell? ⟨b, off + k * 4, none⟩ = some (.bool y.1.num.g) ∧ w'.cell? ⟨b, off + k * 4 + 1, none⟩ = some (.slice y.1.num.a y.1.num.n y.1.num.c) ∧ w'.cell? ⟨b, off + k * 4 + 2, none⟩ = some (.bool y.1.den.g) ∧ w'.cell? ⟨b, off + k * 4 + 3, none⟩ = some (.slice y.1.den.a y.1.den.n y.1.den.c)) (with_reducible (refine ⟨?_, ?_, ?_, ?_, ?_, ?_, ?_, ?_⟩ <;> repeat (first | exact T0 | exact T1 | exact T2 | exact T3 | exact E0 | exact E1 | exact E2 | exact E3 | refine cd_other ?_ | refine ca_other ?_)))
                    (first
                    | (go_at_call 48; refine (wholeS 1 _ (by omega) (by omega)).mono ?_; rintro e w1 ⟨one, lo1, lo2, rfl, hb, oo, ao, m1, m2⟩; have hbx : Below wr.heap.size wr w1 := (by first | exact below_of_drew hb | exact bad hb | exact badS2 hb); have sz0 := hbx.size; replace T0 := cell_later hbx T0; replace T1 := cell_later hbx T1; replace T2 := cell_later hbx T2; replace T3 := cell_later hbx T3; replace E0 := cell_later hbx E0; replace E1 := cell_later hbx E1; replace E2 := cell_later hbx E2; replace E3 := cell_later hbx E3; (try (replace g0 := cell_later hbx g0; replace g1 := cell_later hbx g1; replace g2 := cell_later hbx g2; replace g3 := cell_later hbx g3)); (first | (have chk := g0; clear chk) | (refine cutP (p := w1.cell? ⟨wr.heap.size, 0, none⟩ = some (.bool y.1.num.g) ∧ w1.cell? ⟨wr.heap.size, 1, none⟩ = some (.slice y.1.num.a y.1.num.n y.1.num.c) ∧ w1.cell? ⟨wr.heap.size, 2, none⟩ = some (.bool y.1.den.g) ∧ w1.cell? ⟨wr.heap.size, 3, none⟩ = some (.slice y.1.den.a y.1.den.n y.1.den.c)) ?_ (fun dd => ?_); (focus (refine ⟨cell_later hb ?_, cell_later hb ?_, cell_later hb ?_, cell_later hb ?_⟩ <;> (simp [go_sem]; done))); obtain ⟨g0, g1, g2, g3⟩ := dd) | (refine cutP (p := w1.cell? ⟨wr.heap.size + 1, 0, none⟩ = some (.bool y.1.num.g) ∧ w1.cell? ⟨wr.heap.size + 1, 1, none⟩ = some (.slice y.1.num.a y.1.num.n y.1.num.c) ∧ w1.cell? ⟨wr.heap.size + 1, 2, none⟩ = some (.bool y.1.den.g) ∧ w1.cell? ⟨wr.heap.size + 1, 3, none⟩ = some (.slice y.1.den.a y.1.den.n y.1.den.c)) ?_ (fun dd => ?_); (focus (refine ⟨cell_later hb ?_, cell_later hb ?_, cell_later hb ?_, cell_later hb ?_⟩ <;> (simp [go_sem]; done))); obtain ⟨g0, g1, g2, g3⟩ := dd) | skip); replace OUTP := hide ((unhide OUTP).later hbx); replace XA := hide ((unhide XA).later hbx); replace YA := hide ((unhide YA).later hbx); replace HB := hide (below_on (unhide HB) hbx); have ONE := hide ao; have DO := hide (isD_one m1 m2); clear hb hbx oo ao m1 m2)
                    | (have chk := MU; clear chk; go_at_call 47; refine (cutS_some ⟨_, 0, none⟩ 1 1 [y] _ ?_ (by omega)).mono ?_; (first | exact lay1c g0 g1 g2 g3 (unhide YA) | exact lay1 (unhide YA)); rintro e w4 ⟨a3, m3, c3, rfl, hb, hc, hp⟩; have hbx : Below w3.heap.size w3 w4 := (by first | exact hb | exact ba hb | exact baS2 hb); have sz3 := hbx.size; replace T0 := cell_later hbx T0; replace T1 := cell_later hbx T1; replace T2 := cell_later hbx T2; replace T3 := cell_later hbx T3; replace E0 := cell_later hbx E0; replace E1 := cell_later hbx E1; replace E2 := cell_later hbx E2; replace E3 := cell_later hbx E3; (try (replace g0 := cell_later hbx g0; replace g1 := cell_later hbx g1; replace g2 := cell_later hbx g2; replace g3 := cell_later hbx g3)); (first | (have chk := g0; clear chk) | (refine cutP (p := w4.cell? ⟨w3.heap.size, 0, none⟩ = some (.bool y.1.num.g) ∧ w4.cell? ⟨w3.heap.size, 1, none⟩ = some (.slice y.1.num.a y.1.num.n y.1.num.c) ∧ w4.cell? ⟨w3.heap.size, 2, none⟩ = some (.bool y.1.den.g) ∧ w4.cell? ⟨w3.heap.size, 3, none⟩ = some (.slice y.1.den.a y.1.den.n y.1.den.c)) ?_ (fun dd => ?_); (focus (refine ⟨cell_later hb ?_, cell_later hb ?_, cell_later hb ?_, cell_later hb ?_⟩ <;> (simp [go_sem]; done))); obtain ⟨g0, g1, g2, g3⟩ := dd) | (refine cutP (p := w4.cell? ⟨w3.heap.size + 1, 0, none⟩ = some (.bool y.1.num.g) ∧ w4.cell? ⟨w3.heap.size + 1, 1, none⟩ = some (.slice y.1.num.a y.1.num.n y.1.num.c) ∧ w4.cell? ⟨w3.heap.size + 1, 2, none⟩ = some (.bool y.1.den.g) ∧ w4.cell? ⟨w3.heap.size + 1, 3, none⟩ = some (.slice y.1.den.a y.1.den.n y.1.den.c)) ?_ (fun dd => ?_); (focus (refine ⟨cell_later hb ?_, cell_later hb ?_, cell_later hb ?_, cell_later hb ?_⟩ <;> (simp [go_sem]; done))); obtain ⟨g0, g1, g2, g3⟩ := dd) | skip); replace OUTP := hide ((unhide OUTP).later hbx); replace XA := hide ((unhide XA).later hbx); replace YA := hide ((unhide YA).later hbx); replace MU := hide ((unhide MU).later hbx); replace HB := hide (below_on (unhide HB) hbx); have em3 := hide (shM3 (unhide DY) hc); have CC := hide hc; have CP := hide hp; clear hb hbx hc hp)
                    | (go_at_call 47; refine (cutS_some ⟨_, 0, none⟩ 2 2 [(x, d), (one, (⟨⟨decide ((1 : Int) < 0), lo1⟩, ⟨decide ((1 : Int) < 0), lo2⟩⟩ : QD))] _ ?_ (by omega)).mono ?_; (first | exact lay2 (unhide XA) (unhide ONE) | exact lay2' (unhide XA) (unhide ONE) | exact (lay2 (unhide XA) (unhide ONE)).later ((Below.refl _ _).alloc (Nat.le_refl _) _)); rintro e w2 ⟨a1, m1, c1, rfl, hb, hc, hp⟩; have hbx : Below w1.heap.size w1 w2 := (by first | exact hb | exact ba hb | exact baS2 hb); have sz1 := hbx.size; replace T0 := cell_later hbx T0; replace T1 := cell_later hbx T1; replace T2 := cell_later hbx T2; replace T3 := cell_later hbx T3; replace E0 := cell_later hbx E0; replace E1 := cell_later hbx E1; replace E2 := cell_later hbx E2; replace E3 := cell_later hbx E3; (try (replace g0 := cell_later hbx g0; replace g1 := cell_later hbx g1; replace g2 := cell_later hbx g2; replace g3 := cell_later hbx g3)); (first | (have chk := g0; clear chk) | (refine cutP (p := w2.cell? ⟨w1.heap.size, 0, none⟩ = some (.bool y.1.num.g) ∧ w2.cell? ⟨w1.heap.size, 1, none⟩ = some (.slice y.1.num.a y.1.num.n y.1.num.c) ∧ w2.cell? ⟨w1.heap.size, 2, none⟩ = some (.bool y.1.den.g) ∧ w2.cell? ⟨w1.heap.size, 3, none⟩ = some (.slice y.1.den.a y.1.den.n y.1.den.c)) ?_ (fun dd => ?_); (focus (refine ⟨cell_later hb ?_, cell_later hb ?_, cell_later hb ?_, cell_later hb ?_⟩ <;> (simp [go_sem]; done))); obtain ⟨g0, g1, g2, g3⟩ := dd) | (refine cutP (p := w2.cell? ⟨w1.heap.size + 1, 0, none⟩ = some (.bool y.1.num.g) ∧ w2.cell? ⟨w1.heap.size + 1, 1, none⟩ = some (.slice y.1.num.a y.1.num.n y.1.num.c) ∧ w2.cell? ⟨w1.heap.size + 1, 2, none⟩ = some (.bool y.1.den.g) ∧ w2.cell? ⟨w1.heap.size + 1, 3, none⟩ = some (.slice y.1.den.a y.1.den.n y.1.den.c)) ?_ (fun dd => ?_); (focus (refine ⟨cell_later hb ?_, cell_later hb ?_, cell_later hb ?_, cell_later hb ?_⟩ <;> (simp [go_sem]; done))); obtain ⟨g0, g1, g2, g3⟩ := dd) | skip); replace OUTP := hide ((unhide OUTP).later hbx); replace XA := hide ((unhide XA).later hbx); replace YA := hide ((unhide YA).later hbx); replace HB := hide (below_on (unhide HB) hbx); have em1 := cut_two (unhide DX) (unhide DO) hc; subst em1; have CU := hide hp; have GQ2 := hide (isL_gq (qs := [A, 1]) (l := [(x, d), (one, (⟨⟨decide ((1 : Int) < 0), lo1⟩, ⟨decide ((1 : Int) < 0), lo2⟩⟩ : QD))]) (isL_two (unhide DX) (unhide DO)) (fun q hq => by rcases List.mem_cons.1 hq with rfl | hq; exact (unhide KA).mono (by omega); rw [List.mem_singleton.1 hq]; exact bdR_one.mono (by omega))); have GG2 := hide (isL_goods (isL_two (unhide DX) (unhide DO)) (fun q hq => by rcases List.mem_cons.1 hq with rfl | hq; exact (unhide KA).mono (by omega); rw [List.mem_singleton.1 hq]; exact bdR_one.mono (by omega))); clear hb hbx hc hp)
                    | (go_at_call 46; refine (mulS7 a' n' c' us a1 2 c1 [(x, d), (one, (⟨⟨decide ((1 : Int) < 0), lo1⟩, ⟨decide ((1 : Int) < 0), lo2⟩⟩ : QD))] _ ?_ ?_ (unhide GQ1) (unhide GQ2) (by omega) (by omega)).mono ?_; (first | exact (unhide OUTP) | exact (unhide OUTP).later ((Below.refl _ _).alloc (Nat.le_refl _) _)); (first | exact (unhide CU) | exact (unhide CU).later ((Below.refl _ _).alloc (Nat.le_refl _) _)); rintro e w3 ⟨a2, m2, c2, vs, rfl, hb, il, hc, hp⟩; have hbx : Below w2.heap.size w2 w3 := (by first | exact hb | exact ba hb | exact baS2 hb); have sz2 := hbx.size; replace T0 := cell_later hbx T0; replace T1 := cell_later hbx T1; replace T2 := cell_later hbx T2; replace T3 := cell_later hbx T3; replace E0 := cell_later hbx E0; replace E1 := cell_later hbx E1; replace E2 := cell_later hbx E2; replace E3 := cell_later hbx E3; (try (replace g0 := cell_later hbx g0; replace g1 := cell_later hbx g1; replace g2 := cell_later hbx g2; replace g3 := cell_later hbx g3)); (first | (have chk := g0; clear chk) | (refine cutP (p := w3.cell? ⟨w2.heap.size, 0, none⟩ = some (.bool y.1.num.g) ∧ w3.cell? ⟨w2.heap.size, 1, none⟩ = some (.slice y.1.num.a y.1.num.n y.1.num.c) ∧ w3.cell? ⟨w2.heap.size, 2, none⟩ = some (.bool y.1.den.g) ∧ w3.cell? ⟨w2.heap.size, 3, none⟩ = some (.slice y.1.den.a y.1.den.n y.1.den.c)) ?_ (fun dd => ?_); (focus (refine ⟨cell_later hb ?_, cell_later hb ?_, cell_later hb ?_, cell_later hb ?_⟩ <;> (simp [go_sem]; done))); obtain ⟨g0, g1, g2, g3⟩ := dd) | (refine cutP (p := w3.cell? ⟨w2.heap.size + 1, 0, none⟩ = some (.bool y.1.num.g) ∧ w3.cell? ⟨w2.heap.size + 1, 1, none⟩ = some (.slice y.1.num.a y.1.num.n y.1.num.c) ∧ w3.cell? ⟨w2.heap.size + 1, 2, none⟩ = some (.bool y.1.den.g) ∧ w3.cell? ⟨w2.heap.size + 1, 3, none⟩ = some (.slice y.1.den.a y.1.den.n y.1.den.c)) ?_ (fun dd => ?_); (focus (refine ⟨cell_later hb ?_, cell_later hb ?_, cell_later hb ?_, cell_later hb ?_⟩ <;> (simp [go_sem]; done))); obtain ⟨g0, g1, g2, g3⟩ := dd) | skip); replace OUTP := hide ((unhide OUTP).later hbx); replace XA := hide ((unhide XA).later hbx); replace YA := hide ((unhide YA).later hbx); replace HB := hide (below_on (unhide HB) hbx); have il2 : IsL (rps (cv A (hS A (ps.drop (k + 1))))) (vs.map Prod.snd) := (by have h := il; rw [unhide GG1, show goods ([(x, d), (one, (⟨⟨decide ((1 : Int) < 0), lo1⟩, ⟨decide ((1 : Int) < 0), lo2⟩⟩ : QD))].map Prod.snd) = rps [A, 1] from unhide GG2, noughts_rps, mall_rps] at h; have e := unhide OL; unfold cv; rw [e]; exact h); have em2 := hide (shM2 il2 (unhide TOP) hc); have MI := hide (And.intro il2 hc); have MU := hide hp; clear hb hbx il hc hp il2 CU)
                    | (go_at_call 45; refine (addS7 a2 m2 c2 (vs.take m2) a3 m3 c3 ([y].take m3) _ (unhide MU) (unhide CP) (isL_gq (qs := (cv A (hS A (ps.drop (k + 1)))).take m2) (by rw [List.map_take]; exact isL_take (unhide MI).1 m2) ((unhide CVB).take m2)) (isL_gq (qs := [Q].take m3) (by rw [List.map_take]; exact isL_take (qs := [Q]) (ds := [y.2]) ⟨unhide DY, trivial⟩ m3) (AllB.take (fun q hq => by rw [List.mem_singleton.1 hq]; exact (unhide KQ).mono (by omega)) m3)) (by have h := unhide em2; have := unhide OL; split at h <;> omega) (by have h := unhide em3; split at h <;> omega)).mono ?_; rintro e w5 ⟨a4, m4, c4, us4, rfl, hb, il, hc, hp⟩; have hbx : Below w4.heap.size w4 w5 := (by first | exact hb | exact ba hb | exact baS2 hb); have sz4 := hbx.size; replace T0 := cell_later hbx T0; replace T1 := cell_later hbx T1; replace T2 := cell_later hbx T2; replace T3 := cell_later hbx T3; replace E0 := cell_later hbx E0; replace E1 := cell_later hbx E1; replace E2 := cell_later hbx E2; replace E3 := cell_later hbx E3; (try (replace g0 := cell_later hbx g0; replace g1 := cell_later hbx g1; replace g2 := cell_later hbx g2; replace g3 := cell_later hbx g3)); (first | (have chk := g0; clear chk) | (refine cutP (p := w5.cell? ⟨w4.heap.size, 0, none⟩ = some (.bool y.1.num.g) ∧ w5.cell? ⟨w4.heap.size, 1, none⟩ = some (.slice y.1.num.a y.1.num.n y.1.num.c) ∧ w5.cell? ⟨w4.heap.size, 2, none⟩ = some (.bool y.1.den.g) ∧ w5.cell? ⟨w4.heap.size, 3, none⟩ = some (.slice y.1.den.a y.1.den.n y.1.den.c)) ?_ (fun dd => ?_); (focus (refine ⟨cell_later hb ?_, cell_later hb ?_, cell_later hb ?_, cell_later hb ?_⟩ <;> (simp [go_sem]; done))); obtain ⟨g0, g1, g2, g3⟩ := dd) | (refine cutP (p := w5.cell? ⟨w4.heap.size + 1, 0, none⟩ = some (.bool y.1.num.g) ∧ w5.cell? ⟨w4.heap.size + 1, 1, none⟩ = some (.slice y.1.num.a y.1.num.n y.1.num.c) ∧ w5.cell? ⟨w4.heap.size + 1, 2, none⟩ = some (.bool y.1.den.g) ∧ w5.cell? ⟨w4.heap.size + 1, 3, none⟩ = some (.slice y.1.den.a y.1.den.n y.1.den.c)) ?_ (fun dd => ?_); (focus (refine ⟨cell_later hb ?_, cell_later hb ?_, cell_later hb ?_, cell_later hb ?_⟩ <;> (simp [go_sem]; done))); obtain ⟨g0, g1, g2, g3⟩ := dd) | skip); replace OUTP := hide ((unhide OUTP).later hbx); replace XA := hide ((unhide XA).later hbx); replace YA := hide ((unhide YA).later hbx); replace HB := hide (below_on (unhide HB) hbx); have ST := shStep (unhide KA) (unhide KQ) (unhide OB) (unhide MI).1 (unhide MI).2 (unhide DY) (unhide CC) (unhide TOP) (unhide BOT) il hc; have NW := hide (And.intro ST.1 ST.2.1); rw [ST.2.2] at hp; have NP := hide hp; clear hb hbx il hc hp ST))
            all_goals go_wp2
            all_goals go_roundw
            all_goals (first | (simp [intOf]; done) | (simp [intOf]; omega; done) | skip)
            all_goals exact ⟨k, a4, m4, c4, us4, by omega, rfl, by go_num, by have := (unhide NW).2; have := unhide OL; omega, NP, hide (by rw [unhide ED]; exact (unhide NW).1), HB, hide T0, hide T1, hide T2, hide T3⟩

set_option maxHeartbeats 2000000 in
theorem whereA (a : Option Addr) (n c : Nat) (l : List (QV × QD)) (cs : List (Int × Int)) (B : Nat) (w : World) (h : PArQ w a n c l) (ho : PRo B w.heap.size w a n c l) (hl : IsL cs (l.map Prod.snd)) (low : LowL cs) :
    Calls Tryz.prog 53 #[.slice a n c, .func (Fn.func 55) #[] #[]] w (RetPa w (AnsP true cs)) := by
  have PF := hide (fun w1 (k : PArQ w1 a n c l) => polyFits_v a n c l w1 k)
  have EG := hide (gP_fits hl low)
  have HS := hide h
  have HO := hide ho
  have HL := hide hl
  clear h ho hl low
  cases hb0 : ((decide (l.length ≤ 7) && (l.map Prod.snd).all sm) && lastOk (l.map Prod.snd))
  · rw [hb0] at PF
    have GF : Hid (gP (l.map Prod.snd) = false) := hide (by rw [unhide EG, List.length_map]; exact hb0)
    clear hb0
    go_enter Tryz.func53, Tryz.ntmps53
    go_wp2_with fail
    refine (unhide PF _ (unhide HS)).mono ?_
    rintro e w1 ⟨rfl, hb⟩
    have HB := hide hb
    clear hb PF
    go_wp2
    go_ret2
    exact ⟨none, 0, 0, [], false, rfl, unhide HB, arNone _, .inl ⟨rfl, _, unhide HL, .inr ⟨unhide GF, rfl, rfl⟩⟩⟩
  · rw [hb0] at PF
    have GF : Hid (gP (l.map Prod.snd) = true) := hide (by rw [unhide EG, List.length_map]; exact hb0)
    clear hb0
    go_enter Tryz.func53, Tryz.ntmps53
    go_wp2_with fail
    refine (unhide PF _ (unhide HS)).mono ?_
    rintro e w1 ⟨rfl, hb⟩
    have HB := hide hb
    replace HS := hide ((unhide HS).later hb)
    clear hb PF
    go_wp2
    go_ret2
    exact ⟨_, _, _, l, true, rfl, unhide HB, unhide HS, .inl ⟨rfl, _, unhide HL, .inl ⟨unhide GF, rfl, rfl⟩⟩⟩

set_option maxHeartbeats 4000000 in
theorem ShPJ (a : Option Addr) (n c : Nat) (l : List (QV × QD)) (x : QV) (d : QD) (w : World) (h : PArQ w a n c l) (hx : AllAr w [(x.num, d.num), (x.den, d.den)]) :
    Calls Tryz.prog 18 #[.slice a n c, .agg #[.bool x.num.g, .slice x.num.a x.num.n x.num.c, .bool x.den.g, .slice x.den.a x.den.n x.den.c]] w (RetPa w (AnsP (gP (l.map Prod.snd) && gC d) (shC (l.map Prod.snd) d))) := by
  obtain ⟨P, hP⟩ : ∃ P : Bool, P = (gP (l.map Prod.snd) && gC d) := ⟨_, rfl⟩
  rw [← hP]
  cases hr : gP (l.map Prod.snd)
  · have CR := hide (fun w1 (k : PArQ w1 a n c l) => GoodPI a n c l w1 k)
    rw [hr] at CR
    have H0 := hide h
    have H1 := hide hx
    clear h hx
    have PN : Hid (P = false) := hide (by rw [hP, hr, Bool.false_and])
    clear hP hr
    have B0 := hide (show Below w.heap.size w (w.alloc (.cells #[.bool x.num.g, .slice x.num.a x.num.n x.num.c, .bool x.den.g, .slice x.den.a x.den.n x.den.c] 32)) from ((Below.refl _ _).alloc (by simp) _))
    go_enter Tryz.func18, Tryz.ntmps18
    go_wp2_with fail
    refine (unhide CR _ ((unhide H0).later (unhide B0))).mono ?_
    rintro e w1 ⟨rfl, hb⟩
    have HB := hide (below_on (unhide B0) hb)
    clear hb
    go_wp2
    go_ret2
    exact ⟨none, 0, 0, [], false, rfl, unhide HB, arNone _, .inr ⟨unhide PN, rfl, rfl⟩⟩
  · cases hs : gC d
    · have CR := hide (fun w1 (k : PArQ w1 a n c l) => GoodPI a n c l w1 k)
      rw [hr] at CR
      have H0 := hide h
      have H1 := hide hx
      clear h hx
      have CL := hide (fun w1 (k : AllAr w1 [(x.num, d.num), (x.den, d.den)]) => coefI7 x d w1 k)
      rw [hs] at CL
      have PN : Hid (P = false) := hide (by rw [hP, hr, hs, Bool.and_false])
      clear hP hr hs
      have B0 := hide (show Below w.heap.size w (w.alloc (.cells #[.bool x.num.g, .slice x.num.a x.num.n x.num.c, .bool x.den.g, .slice x.den.a x.den.n x.den.c] 32)) from ((Below.refl _ _).alloc (by simp) _))
      go_enter Tryz.func18, Tryz.ntmps18
      go_wp2_with fail
      refine (unhide CR _ ((unhide H0).later (unhide B0))).mono ?_
      rintro e w1 ⟨rfl, hb⟩
      have k0_0 : w1.cell? ⟨w.heap.size, 0, none⟩ = some (.bool x.num.g) := cell_later hb (by simp [go_sem])
      have k0_1 : w1.cell? ⟨w.heap.size, 1, none⟩ = some (.slice x.num.a x.num.n x.num.c) := cell_later hb (by simp [go_sem])
      have k0_2 : w1.cell? ⟨w.heap.size, 2, none⟩ = some (.bool x.den.g) := cell_later hb (by simp [go_sem])
      have k0_3 : w1.cell? ⟨w.heap.size, 3, none⟩ = some (.slice x.den.a x.den.n x.den.c) := cell_later hb (by simp [go_sem])
      have HB := hide (below_on (unhide B0) hb)
      clear hb
      go_wp2_with fail
      refine (unhide CL _ ((unhide H1).later (unhide HB))).mono ?_
      rintro e w2 ⟨rfl, hb⟩
      clear k0_0 k0_1 k0_2 k0_3
      replace HB := hide (below_on (unhide HB) hb)
      clear hb
      go_wp2
      go_ret2
      exact ⟨none, 0, 0, [], false, rfl, unhide HB, arNone _, .inr ⟨unhide PN, rfl, rfl⟩⟩
    · have CR := hide (fun w1 (k : PArQ w1 a n c l) => GoodPI a n c l w1 k)
      rw [hr] at CR
      have H0 := hide h
      have H1 := hide hx
      clear h hx
      have CL := hide (fun w1 (k : AllAr w1 [(x.num, d.num), (x.den, d.den)]) => coefI7 x d w1 k)
      rw [hs] at CL
      have PY : Hid (P = true) := hide (by rw [hP, hr, hs]; rfl)
      have GP := hide (goodPs_of (unhide H0) hr)
      have hs2 : sm d = true ∧ gQ d = true := by unfold gC at hs; rw [Bool.and_eq_true] at hs; exact hs
      have JX := isGood_of (unhide H1) hs2.2
      have DQ := hide (good_q JX hs2.1 hs2.2)
      have IX : Hid (IsQ w x (rp (qR d)).1 (rp (qR d)).2) := hide (by have e := qR_rp hs2.2 ⟨JX.pos, JX.low⟩; rw [← e]; exact JX.is)
      have HG := hide hr
      clear hP hr hs hs2 JX
      have B0 := hide (show Below w.heap.size w (w.alloc (.cells #[.bool x.num.g, .slice x.num.a x.num.n x.num.c, .bool x.den.g, .slice x.den.a x.den.n x.den.c] 32)) from ((Below.refl _ _).alloc (by simp) _))
      go_enter Tryz.func18, Tryz.ntmps18
      go_wp2_with fail
      refine (unhide CR _ ((unhide H0).later (unhide B0))).mono ?_
      rintro e w1 ⟨rfl, hb⟩
      have k0_0 : w1.cell? ⟨w.heap.size, 0, none⟩ = some (.bool x.num.g) := cell_later hb (by simp [go_sem])
      have k0_1 : w1.cell? ⟨w.heap.size, 1, none⟩ = some (.slice x.num.a x.num.n x.num.c) := cell_later hb (by simp [go_sem])
      have k0_2 : w1.cell? ⟨w.heap.size, 2, none⟩ = some (.bool x.den.g) := cell_later hb (by simp [go_sem])
      have k0_3 : w1.cell? ⟨w.heap.size, 3, none⟩ = some (.slice x.den.a x.den.n x.den.c) := cell_later hb (by simp [go_sem])
      have HB := hide (below_on (unhide B0) hb)
      clear hb
      go_wp2_with fail
      refine (unhide CL _ ((unhide H1).later (unhide HB))).mono ?_
      rintro e w2 ⟨rfl, hb⟩
      replace k0_0 := cell_later hb k0_0
      replace k0_1 := cell_later hb k0_1
      replace k0_2 := cell_later hb k0_2
      replace k0_3 := cell_later hb k0_3
      replace HB := hide (below_on (unhide HB) hb)
      clear hb
      go_wp2_with fail
      refine (shI a n c l x ((l.map Prod.snd).map qR) (qR d) _ ((unhide H0).later (unhide HB)) (unhide HG) (unhide GP).goods ((unhide IX).later (unhide HB)) (unhide DQ).2 (unhide GP).bd).mono ?_
      rintro e w3 ⟨a1, n1, c1, l1, rfl, hb, ro, ar, il⟩
      have IL := hide il
      have s3 := hb.size
      have s2 := (unhide HB).size
      clear k0_0 k0_1 k0_2 k0_3
      have RO := hide (ro)
      have AR := hide (ar)
      replace HB := hide (below_on (unhide HB) hb)
      clear hb
      clear ro ar il
      go_wp2_with fail
      refine (whereA a1 n1 c1 l1 (shC (l.map Prod.snd) d) w2.heap.size _ (unhide AR) (unhide RO) (unhide IL) (shC_low _ _)).mono ?_
      rintro e w4 ⟨a2, n2, c2, l2, ok, rfl, hb, ro2, hu⟩
      have UU := hide hu
      replace RO := hide ((unhide RO).later hb)
      replace AR := hide ((unhide AR).later hb)
      have RO2 := hide (ro2)
      replace HB := hide (below_on (unhide HB) hb)
      clear hb
      clear ro2 hu
      go_wp2
      go_ret2
      exact ⟨a2, n2, c2, l2, ok, rfl, unhide HB, unhide RO2, by rw [unhide PY]; exact unhide UU⟩
end Go.Proofs.YtcbmecnipldcfaaGreat
namespace Go.Proofs.YtcbmecnipldcfaaGreat
open Go.RowKit
set_option linter.unusedVariables false
set_option maxRecDepth 100000
set_option linter.unusedSimpArgs false

/-- At most one limb each; at most four. -/
def sm1 (d : QD) : Bool := decide (d.num.xs.length ≤ 1) && decide (d.den.xs.length ≤ 1)
def sm4 (d : QD) : Bool := decide (d.num.xs.length ≤ 4) && decide (d.den.xs.length ≤ 4)
def pl (d : QD) : Bool := sm4 d && gQ d
def rP (l : List QD) : Bool := ((decide (2 ≤ l.length) && decide (l.length ≤ 5)) && l.all sm1) && gP l
theorem longRI (q : QV) (d : QD) (w : World) (h : AllAr w [(q.num, d.num), (q.den, d.den)]) : Calls Tryz.prog 102 #[.agg #[.bool q.num.g, .slice q.num.a q.num.n q.num.c, .bool q.den.g, .slice q.den.a q.den.n q.den.c]] w fun e w' => e = .returned (.bool (!sm1 d)) ∧ Below w.heap.size w w' := by
  have CC := hide (fun w1 => inL q 1 w1)
  rw [show (decide (q.num.n ≤ 1) && decide (q.den.n ≤ 1)) = sm1 d from by unfold sm1; rw [h.head.ar.len, h.tail.head.ar.len]] at CC
  clear h
  have B0 := hide (show Below w.heap.size w (w.alloc (.cells #[.bool q.num.g, .slice q.num.a q.num.n q.num.c, .bool q.den.g, .slice q.den.a q.den.n q.den.c] 32)) from ((Below.refl _ _).alloc (by simp) _))
  go_enter Tryz.func102, Tryz.ntmps102
  go_wp2_with fail
  refine (unhide CC _).mono ?_
  rintro e w1 ⟨rfl, hb⟩
  have HB := hide (below_on (unhide B0) hb)
  clear hb
  go_wp2
  go_ret
  exact ⟨rfl, unhide HB⟩

set_option maxHeartbeats 2000000 in
theorem indexLongR (a : Option Addr) (n c : Nat) (l : List (QV × QD)) (w : World) (h : PArQ w a n c l) :
    Calls Tryz.prog 124 #[.slice a n c, .func (Fn.func 102) #[] #[]] w fun e w' => ∃ r : Int, e = .returned (.int .i64 r) ∧ Below w.heap.size w w' ∧ decide (0 ≤ r) = (l.map Prod.snd).any (fun d => !sm1 d) ∧ -1 ≤ r ∧ r ≤ 9223372036854775807 := by
  have HS := hide h
  have HN := hide h.len
  have hm : n ≤ maxLen := Nat.le_trans h.cap h.top
  clear h
  unfold maxLen at hm
  go_enter Tryz.func124, Tryz.ntmps124
  go_wp2
  go_loopw [8] (fun iv wr => ∃ (i : Nat), i ≤ n ∧ iv = .int .i64 i ∧ Hid (((l.take i).map Prod.snd).any (fun d => !sm1 d) = false) ∧ Hid (Below w.heap.size w wr)) (fun iv _ => n - (intOf iv).toNat)
  case atStart => exact ⟨0, Nat.zero_le _, rfl, hide (by simp), hide (Below.refl _ _)⟩
  case round =>
    obtain ⟨i, hi, rfl, EA, HB⟩ := hrel
    by_cases hlt : i < n
    · have hlt' : (i : Int) < (n : Int) := by omega
      rcases (unhide HS).at_ with e | ⟨b, off, rfl, hb, hc⟩
      · exact absurd (unhide HN) (by rw [e]; simp; omega)
      have e0 := hc i (by rw [unhide HN]; exact hlt)
      obtain ⟨y, hy⟩ : ∃ y, y = l[i]'(by rw [unhide HN]; exact hlt) := ⟨_, rfl⟩
      rw [← hy] at e0
      have MY : Hid (y ∈ l) := hide (by rw [hy]; exact List.getElem_mem _)
      have EY := hide hy
      clear hy
      have E0 : wr.cell? ⟨b, off + i * 4, none⟩ = some (.bool y.1.num.g) := ((unhide HB).cell (p := ⟨b, off + i * 4, none⟩) hb).trans (e0.1)
      have E1 : wr.cell? ⟨b, off + i * 4 + 1, none⟩ = some (.slice y.1.num.a y.1.num.n y.1.num.c) := ((unhide HB).cell (p := ⟨b, off + i * 4 + 1, none⟩) hb).trans (e0.2.1)
      have E2 : wr.cell? ⟨b, off + i * 4 + 2, none⟩ = some (.bool y.1.den.g) := ((unhide HB).cell (p := ⟨b, off + i * 4 + 2, none⟩) hb).trans (e0.2.2.1)
      have E3 : wr.cell? ⟨b, off + i * 4 + 3, none⟩ = some (.slice y.1.den.a y.1.den.n y.1.den.c) := ((unhide HB).cell (p := ⟨b, off + i * 4 + 3, none⟩) hb).trans (e0.2.2.2)
      clear e0 hc
      have TK : Hid (l.take (i + 1) = l.take i ++ [y]) := hide (by have h := take_succQ (l := l) (i := i) (by rw [unhide HN]; exact hlt); rw [← unhide EY] at h; exact h)
      have R1 := hide (((unhide HS).rd y (unhide MY)).later (unhide HB))
      have CC := hide (fun w1 (k : AllAr w1 [(y.1.num, y.2.num), (y.1.den, y.2.den)]) => longRI y.1 y.2 w1 k)
      cases hp : (fun d => !sm1 d) y.2
      · have hp' : (!sm1 y.2) = false := hp
        rw [hp'] at CC
        go_wp2_with fail
        refine (unhide CC _ (unhide R1)).mono ?_
        rintro e w1 ⟨rfl, hb1⟩
        have HB1 := hide (below_on (unhide HB) hb1)
        clear hb1 E0 E1 E2 E3 CC
        go_wp2
        go_roundw
        case rel => exact ⟨i + 1, by omega, by go_num, hide (by rw [unhide TK, List.map_append, List.any_append, unhide EA]; simp only [List.map_cons, List.map_nil, List.any_cons, List.any_nil]; rw [hp']; rfl), HB1⟩
        case measure => simp [intOf]; omega
      · have hp' : (!sm1 y.2) = true := hp
        rw [hp'] at CC
        have AN := hide (show (l.map Prod.snd).any (fun d => !sm1 d) = true from List.any_eq_true.2 ⟨y.2, List.mem_map.2 ⟨y, unhide MY, rfl⟩, hp'⟩)
        go_wp2_with fail
        refine (unhide CC _ (unhide R1)).mono ?_
        rintro e w1 ⟨rfl, hb1⟩
        have HB1 := hide (below_on (unhide HB) hb1)
        clear hb1 E0 E1 E2 E3 CC
        go_wp2
        go_ret
        exact ⟨_, rfl, unhide HB1, by rw [unhide AN]; exact decide_eq_true (by omega), by omega, by omega⟩
    · obtain rfl : i = n := by omega
      have EL := hide (show (l.map Prod.snd).any (fun d => !sm1 d) = false from by have := unhide EA; rw [← unhide HN, List.take_length] at this; exact this)
      go_wp2
      go_ret
      exact ⟨_, rfl, unhide HB, by rw [unhide EL]; rfl, by omega, by omega⟩
theorem containsLongR (a : Option Addr) (n c : Nat) (l : List (QV × QD)) (w : World) (h : PArQ w a n c l) :
    Calls Tryz.prog 91 #[.slice a n c, .func (Fn.func 102) #[] #[]] w fun e w' => e = .returned (.bool ((l.map Prod.snd).any (fun d => !sm1 d))) ∧ Below w.heap.size w w' := by
  have HS := hide h
  clear h
  go_enter Tryz.func91, Tryz.ntmps91
  go_wp2_with fail
  refine (indexLongR a n c l _ (unhide HS)).mono ?_
  rintro e w1 ⟨r, rfl, hb1, hr, r0, r1⟩
  have HB1 := hide hb1
  have HR := hide hr
  clear hb1 hr
  go_wp2
  go_ret
  exact ⟨by rw [← unhide HR]; rfl, unhide HB1⟩

set_option maxHeartbeats 4000000 in
theorem RootsPI (a : Option Addr) (n c : Nat) (l : List (QV × QD)) (w : World) (h : PArQ w a n c l) :
    Calls Tryz.prog 62 #[.slice a n c] w fun e w' => e = .returned (.bool (rP (l.map Prod.snd))) ∧ Below w.heap.size w w' := by
  unfold rP
  rw [List.length_map, h.len]
  have hm : n ≤ maxLen := Nat.le_trans h.cap h.top
  unfold maxLen at hm
  have HS := hide h
  clear h
  have CC := hide (fun w1 (k : PArQ w1 a n c l) => containsLongR a n c l w1 k)
  rw [any_not_all] at CC
  have GG := hide (fun w1 (k : PArQ w1 a n c l) => GoodPI a n c l w1 k)
  by_cases h2 : 2 ≤ n
  · have b2 : ¬ ((n : Int) < 2) := by omega
    rw [decide_eq_true h2, Bool.true_and]
    by_cases h5 : n ≤ 5
    · have b5 : ¬ ((5 : Int) < (n : Int)) := by omega
      rw [decide_eq_true h5, Bool.true_and]
      cases hA : (l.map Prod.snd).all sm1
      · rw [hA] at CC
        rw [Bool.false_and]
        go_enter Tryz.func62, Tryz.ntmps62
        go_wp2_with fail
        refine (unhide CC _ (unhide HS)).mono ?_
        rintro e w1 ⟨rfl, hb1⟩
        have HB1 := hide hb1
        clear hb1 CC GG
        go_wp2
        go_ret
        exact ⟨rfl, unhide HB1⟩
      · rw [hA] at CC
        rw [Bool.true_and]
        go_enter Tryz.func62, Tryz.ntmps62
        go_wp2_with fail
        refine (unhide CC _ (unhide HS)).mono ?_
        rintro e w1 ⟨rfl, hb1⟩
        have HB1 := hide hb1
        clear hb1 CC
        go_wp2_with fail
        refine (unhide GG _ ((unhide HS).later (unhide HB1))).mono ?_
        rintro e w2 ⟨rfl, hb2⟩
        have HB2 := hide (below_on (unhide HB1) hb2)
        clear hb2 GG
        go_wp2
        go_ret
        exact ⟨rfl, unhide HB2⟩
    · have b5 : (5 : Int) < (n : Int) := by omega
      rw [decide_eq_false h5, Bool.false_and, Bool.false_and]
      go_enter Tryz.func62, Tryz.ntmps62
      go_wp2
      go_ret
      exact ⟨rfl, Below.refl _ _⟩
  · have b2 : (n : Int) < 2 := by omega
    rw [decide_eq_false h2, Bool.false_and, Bool.false_and, Bool.false_and]
    go_enter Tryz.func62, Tryz.ntmps62
    go_wp2
    go_ret
    exact ⟨rfl, Below.refl _ _⟩
theorem in_ok2 (n lo hi : Int) (w : World) (b : Bool) (h : b = decide (lo ≤ n ∧ n ≤ hi)) : Calls Tryz.prog 27 #[.int .i64 n, .int .i64 lo, .int .i64 hi] w fun e w' => e = .returned (.bool b) ∧ w' = w := by
  subst h
  by_cases h1 : lo ≤ n
  · by_cases h2 : n ≤ hi
    · rw [show decide (lo ≤ n ∧ n ≤ hi) = true from decide_eq_true ⟨h1, h2⟩]
      go_enter Tryz.func27, Tryz.ntmps27
      go_wp2
      go_ret
      exact ⟨rfl, rfl⟩
    · rw [show decide (lo ≤ n ∧ n ≤ hi) = false from decide_eq_false (fun h => h2 h.2)]
      go_enter Tryz.func27, Tryz.ntmps27
      go_wp2
      go_ret
      exact ⟨rfl, rfl⟩
  · rw [show decide (lo ≤ n ∧ n ≤ hi) = false from decide_eq_false (fun h => h1 h.1)]
    go_enter Tryz.func27, Tryz.ntmps27
    go_wp2
    go_ret
    exact ⟨rfl, rfl⟩

set_option maxHeartbeats 4000000 in
theorem RootsPS (a : Option Addr) (n c : Nat) (l : List (QV × QD)) (w : World) (h : PArQ w a n c l) :
    Calls Tryz.prog 100 #[.slice a n c] w fun e w' => e = .returned (.bool (rP (l.map Prod.snd))) ∧ Below w.heap.size w w' := by
  have HS := hide h
  have HN := hide h.len
  have hm : n ≤ maxLen := Nat.le_trans h.cap h.top
  clear h
  unfold maxLen at hm
  go_enter Tryz.func100, Tryz.ntmps100
  go_wp2
  go_loopw [7] (fun iv wr => ∃ (i : Nat), i ≤ n ∧ iv = .int .i64 i ∧ Hid (((l.take i).map Prod.snd).all sm1 = true) ∧ Hid (Below w.heap.size w wr)) (fun iv _ => n - (intOf iv).toNat)
  case atStart => exact ⟨0, Nat.zero_le _, rfl, hide (by simp), hide (Below.refl _ _)⟩
  case round =>
    obtain ⟨i, hi, rfl, EA, HB⟩ := hrel
    by_cases hlt : i < n
    · have hlt' : (i : Int) < (n : Int) := by omega
      rcases (unhide HS).at_ with e | ⟨b, off, rfl, hb, hc⟩
      · exact absurd (unhide HN) (by rw [e]; simp; omega)
      have e0 := hc i (by rw [unhide HN]; exact hlt)
      obtain ⟨y, hy⟩ : ∃ y, y = l[i]'(by rw [unhide HN]; exact hlt) := ⟨_, rfl⟩
      rw [← hy] at e0
      have MY : Hid (y ∈ l) := hide (by rw [hy]; exact List.getElem_mem _)
      have EY := hide hy
      clear hy
      have E0 : wr.cell? ⟨b, off + i * 4, none⟩ = some (.bool y.1.num.g) := ((unhide HB).cell (p := ⟨b, off + i * 4, none⟩) hb).trans (e0.1)
      have E1 : wr.cell? ⟨b, off + i * 4 + 1, none⟩ = some (.slice y.1.num.a y.1.num.n y.1.num.c) := ((unhide HB).cell (p := ⟨b, off + i * 4 + 1, none⟩) hb).trans (e0.2.1)
      have E2 : wr.cell? ⟨b, off + i * 4 + 2, none⟩ = some (.bool y.1.den.g) := ((unhide HB).cell (p := ⟨b, off + i * 4 + 2, none⟩) hb).trans (e0.2.2.1)
      have E3 : wr.cell? ⟨b, off + i * 4 + 3, none⟩ = some (.slice y.1.den.a y.1.den.n y.1.den.c) := ((unhide HB).cell (p := ⟨b, off + i * 4 + 3, none⟩) hb).trans (e0.2.2.2)
      clear e0 hc
      have TK : Hid (l.take (i + 1) = l.take i ++ [y]) := hide (by have h := take_succQ (l := l) (i := i) (by rw [unhide HN]; exact hlt); rw [← unhide EY] at h; exact h)
      have e1 := ((unhide HS).rd y (unhide MY)).head.ar.len
      have e2 := ((unhide HS).rd y (unhide MY)).tail.head.ar.len
      by_cases k1 : y.1.num.n ≤ 1
      · by_cases k2 : y.1.den.n ≤ 1
        · have S1 : Hid (sm1 y.2 = true) := hide (by unfold sm1; rw [e1, e2]; simp; omega)
          have b1 : ¬ ((1 : Int) < (y.1.num.n : Int)) := by omega
          have b2 : ¬ ((1 : Int) < (y.1.den.n : Int)) := by omega
          clear e1 e2
          go_wp2
          go_roundw
          case rel => exact ⟨i + 1, by omega, by go_num, hide (by rw [unhide TK, List.map_append, List.all_append, unhide EA]; simp only [List.map_cons, List.map_nil, List.all_cons, List.all_nil]; rw [unhide S1]; rfl), hide (below_on (unhide HB) ((Below.refl _ _).alloc (Nat.le_refl _) _))⟩
          case measure => simp [intOf]; omega
        · have S1 : Hid (sm1 y.2 = false) := hide (by unfold sm1; rw [e1, e2]; simp; omega)
          have b1 : ¬ ((1 : Int) < (y.1.num.n : Int)) := by omega
          have b2 : (1 : Int) < (y.1.den.n : Int) := by omega
          have AN := hide (show rP (l.map Prod.snd) = false from by
            have ha : (l.map Prod.snd).all sm1 = false := by
              apply Bool.eq_false_iff.2
              intro h
              have h2 := List.all_eq_true.1 h y.2 (List.mem_map.2 ⟨y, unhide MY, rfl⟩)
              rw [unhide S1] at h2
              cases h2
            unfold rP
            rw [ha, Bool.and_false, Bool.false_and])
          clear e1 e2
          go_wp2
          go_ret
          exact ⟨by rw [unhide AN]; rfl, below_on (unhide HB) ((Below.refl _ _).alloc (Nat.le_refl _) _)⟩
      · have S1 : Hid (sm1 y.2 = false) := hide (by unfold sm1; rw [e1, e2]; simp; omega)
        have b1 : (1 : Int) < (y.1.num.n : Int) := by omega
        have AN := hide (show rP (l.map Prod.snd) = false from by
          have ha : (l.map Prod.snd).all sm1 = false := by
            apply Bool.eq_false_iff.2
            intro h
            have h2 := List.all_eq_true.1 h y.2 (List.mem_map.2 ⟨y, unhide MY, rfl⟩)
            rw [unhide S1] at h2
            cases h2
          unfold rP
          rw [ha, Bool.and_false, Bool.false_and])
        clear e1 e2
        go_wp2
        go_ret
        exact ⟨by rw [unhide AN]; rfl, below_on (unhide HB) ((Below.refl _ _).alloc (Nat.le_refl _) _)⟩
    · obtain rfl : i = n := by omega
      have RP : Hid (rP (l.map Prod.snd) = (gP (l.map Prod.snd) && decide ((2 : Int) ≤ (i : Int) ∧ (i : Int) ≤ 5))) := hide (by
        have EL : (l.map Prod.snd).all sm1 = true := by have := unhide EA; rw [← unhide HN, List.take_length] at this; exact this
        unfold rP
        rw [EL, List.length_map, unhide HN, Bool.and_true, Bool.and_comm, ← Bool.decide_and]
        congr 1
        exact decide_eq_decide.2 ⟨fun h => by omega, fun h => by omega⟩)
      have GG := hide (fun w1 (k : PArQ w1 a i c l) => GoodPS a i c l w1 k)
      clear EA
      cases hg : gP (l.map Prod.snd)
      · rw [hg] at GG RP
        go_wp2_with fail
        refine (unhide GG _ ((unhide HS).later (unhide HB))).mono ?_
        rintro e w1 ⟨rfl, hb1⟩
        have HB1 := hide (below_on (unhide HB) hb1)
        clear hb1 GG
        go_wp2
        go_ret
        exact ⟨by rw [unhide RP]; rfl, unhide HB1⟩
      · rw [hg] at GG RP
        go_wp2_with fail
        refine (unhide GG _ ((unhide HS).later (unhide HB))).mono ?_
        rintro e w1 ⟨rfl, hb1⟩
        have HB1 := hide (below_on (unhide HB) hb1)
        clear hb1 GG
        go_wp2_with fail
        refine (in_ok2 i 2 5 _ _ rfl).mono ?_
        rintro e w2 ⟨rfl, rfl⟩
        rw [Bool.true_and] at RP
        generalize decide ((2 : Int) ≤ (i : Int) ∧ (i : Int) ≤ 5) = bb at *
        go_wp2
        go_ret
        exact ⟨by rw [unhide RP]; rfl, unhide HB1⟩

set_option maxHeartbeats 2000000 in
theorem placeI (q : QV) (d : QD) (w : World) (h : AllAr w [(q.num, d.num), (q.den, d.den)]) : Calls Tryz.prog 103 #[.agg #[.bool q.num.g, .slice q.num.a q.num.n q.num.c, .bool q.den.g, .slice q.den.a q.den.n q.den.c]] w fun e w' => e = .returned (.bool (pl d)) ∧ Below w.heap.size w w' := by
  have CC := hide (fun w1 => inL q 4 w1)
  rw [show (decide (q.num.n ≤ 4) && decide (q.den.n ≤ 4)) = sm4 d from by unfold sm4; rw [h.head.ar.len, h.tail.head.ar.len]] at CC
  unfold pl
  cases hs : sm4 d
  · rw [hs] at CC
    rw [Bool.false_and]
    have H1 := hide h
    clear h
    have B0 := hide (show Below w.heap.size w (w.alloc (.cells #[.bool q.num.g, .slice q.num.a q.num.n q.num.c, .bool q.den.g, .slice q.den.a q.den.n q.den.c] 32)) from ((Below.refl _ _).alloc (by simp) _))
    go_enter Tryz.func103, Tryz.ntmps103
    go_wp2_with fail
    refine (unhide CC _).mono ?_
    rintro e w1 ⟨rfl, hb⟩
    have HB := hide (below_on (unhide B0) hb)
    clear hb
    go_wp2
    go_ret
    exact ⟨rfl, unhide HB⟩
  · rw [hs] at CC
    rw [Bool.true_and]
    have H1 := hide h
    clear h
    have B0 := hide (show Below w.heap.size w (w.alloc (.cells #[.bool q.num.g, .slice q.num.a q.num.n q.num.c, .bool q.den.g, .slice q.den.a q.den.n q.den.c] 32)) from ((Below.refl _ _).alloc (by simp) _))
    go_enter Tryz.func103, Tryz.ntmps103
    go_wp2_with fail
    refine (unhide CC _).mono ?_
    rintro e w1 ⟨rfl, hb⟩
    have k0_0 : w1.cell? ⟨w.heap.size, 0, none⟩ = some (.bool q.num.g) := cell_later hb (by simp [go_sem])
    have k0_1 : w1.cell? ⟨w.heap.size, 1, none⟩ = some (.slice q.num.a q.num.n q.num.c) := cell_later hb (by simp [go_sem])
    have k0_2 : w1.cell? ⟨w.heap.size, 2, none⟩ = some (.bool q.den.g) := cell_later hb (by simp [go_sem])
    have k0_3 : w1.cell? ⟨w.heap.size, 3, none⟩ = some (.slice q.den.a q.den.n q.den.c) := cell_later hb (by simp [go_sem])
    have HB := hide (below_on (unhide B0) hb)
    clear hb
    go_wp2_with fail
    refine (goodQI q d _ ((unhide H1).later (unhide HB))).mono ?_
    rintro e w2 ⟨rfl, hb⟩
    clear k0_0 k0_1 k0_2 k0_3
    replace HB := hide (below_on (unhide HB) hb)
    clear hb
    go_wp2
    go_ret
    exact ⟨rfl, unhide HB⟩

set_option maxHeartbeats 2000000 in
theorem placeSp (q : QV) (d : QD) (w : World) (h : AllAr w [(q.num, d.num), (q.den, d.den)]) : Calls Tryz.prog 101 #[.agg #[.bool q.num.g, .slice q.num.a q.num.n q.num.c, .bool q.den.g, .slice q.den.a q.den.n q.den.c]] w fun e w' => e = .returned (.bool (pl d)) ∧ Below w.heap.size w w' := by
  have e1 := h.head.ar.len
  have e2 := h.tail.head.ar.len
  unfold pl
  by_cases k1 : q.num.n ≤ 4
  · by_cases k2 : q.den.n ≤ 4
    · have S1 : Hid (sm4 d = true) := hide (by unfold sm4; rw [e1, e2]; simp; omega)
      have b1 : (q.num.n : Int) ≤ 4 := by omega
      have b2 : (q.den.n : Int) ≤ 4 := by omega
      have H1 := hide h
      clear h e1 e2
      rw [unhide S1]
      rw [Bool.true_and]
      have B0 := hide (show Below w.heap.size w (w.alloc (.cells #[.bool q.num.g, .slice q.num.a q.num.n q.num.c, .bool q.den.g, .slice q.den.a q.den.n q.den.c] 32)) from ((Below.refl _ _).alloc (by simp) _))
      go_enter Tryz.func101, Tryz.ntmps101
      go_wp2_with fail
      refine (goodQS q d _ ((unhide H1).later (unhide B0))).mono ?_
      rintro e w1 ⟨rfl, hb⟩
      have HB := hide (below_on (unhide B0) hb)
      clear hb
      go_wp2
      go_ret
      exact ⟨rfl, unhide HB⟩
    · have S1 : Hid (sm4 d = false) := hide (by unfold sm4; rw [e1, e2]; simp; omega)
      have b1 : (q.num.n : Int) ≤ 4 := by omega
      have b2 : ¬ ((q.den.n : Int) ≤ 4) := by omega
      have H1 := hide h
      clear h e1 e2
      rw [unhide S1]
      rw [Bool.false_and]
      have B0 := hide (show Below w.heap.size w (w.alloc (.cells #[.bool q.num.g, .slice q.num.a q.num.n q.num.c, .bool q.den.g, .slice q.den.a q.den.n q.den.c] 32)) from ((Below.refl _ _).alloc (by simp) _))
      go_enter Tryz.func101, Tryz.ntmps101
      go_wp2
      go_ret
      exact ⟨rfl, unhide B0⟩
  · have S1 : Hid (sm4 d = false) := hide (by unfold sm4; rw [e1, e2]; simp; omega)
    have b1 : ¬ ((q.num.n : Int) ≤ 4) := by omega
    have H1 := hide h
    clear h e1 e2
    rw [unhide S1]
    rw [Bool.false_and]
    have B0 := hide (show Below w.heap.size w (w.alloc (.cells #[.bool q.num.g, .slice q.num.a q.num.n q.num.c, .bool q.den.g, .slice q.den.a q.den.n q.den.c] 32)) from ((Below.refl _ _).alloc (by simp) _))
    go_enter Tryz.func101, Tryz.ntmps101
    go_wp2
    go_ret
    exact ⟨rfl, unhide B0⟩
end Go.Proofs.YtcbmecnipldcfaaGreat
namespace Go.Proofs.YtcbmecnipldcfaaGreat
open Go.RowKit
set_option linter.unusedVariables false
set_option maxRecDepth 100000
set_option linter.unusedSimpArgs false

/-- The signs of those that are not 0. -/
def negs (ds : List QD) : List Bool := (ds.filter (fun d => !nz d)).map (fun d => d.num.g)
def cnt (l : List Bool) : Nat → Nat
  | 0 => 0
  | 1 => 0
  | k + 2 => cnt l (k + 1) + (if l[k]? = l[k + 1]? then 0 else 1)
theorem cnt_app (F : List Bool) (b : Bool) : ∀ k, k ≤ F.length → cnt (F ++ [b]) k = cnt F k
  | 0, _ => rfl
  | 1, _ => rfl
  | k + 2, h => by
    show cnt (F ++ [b]) (k + 1) + _ = cnt F (k + 1) + _
    rw [cnt_app F b (k + 1) (by omega), List.getElem?_append_left (by omega), List.getElem?_append_left (by omega)]
def lastS (F : List Bool) : Int := match F.getLast? with
  | none => 0
  | some true => -1
  | some false => 1
theorem cnt_snoc (F : List Bool) (b : Bool) : cnt (F ++ [b]) (F ++ [b]).length = cnt F F.length + (match F.getLast? with | none => 0 | some c => if c = b then 0 else 1) := by
  rw [List.length_append, List.length_singleton]
  rcases Nat.eq_zero_or_pos F.length with h | h
  · have : F = [] := List.length_eq_zero_iff.1 h
    subst this
    rfl
  · obtain ⟨m, hm⟩ : ∃ m, F.length = m + 1 := ⟨F.length - 1, by omega⟩
    rw [hm]
    show cnt (F ++ [b]) (m + 1) + _ = _
    rw [cnt_app F b (m + 1) (by omega), List.getElem?_append_left (by omega), List.getElem?_append_right (by omega), List.getLast?_eq_getElem?, hm]
    simp only [Nat.add_sub_cancel]
    rw [List.getElem?_eq_getElem (by omega)]
    simp
theorem lastS_snoc (F : List Bool) (b : Bool) : lastS (F ++ [b]) = if b then -1 else 1 := by
  unfold lastS
  rw [List.getLast?_concat]
  cases b <;> rfl
theorem lastS_cases (F : List Bool) : (F.getLast? = none ∧ lastS F = 0) ∨ (F.getLast? = some true ∧ lastS F = -1) ∨ (F.getLast? = some false ∧ lastS F = 1) := by
  unfold lastS
  cases h : F.getLast? with
  | none => exact .inl ⟨rfl, rfl⟩
  | some b => cases b with
    | true => exact .inr (.inl ⟨rfl, rfl⟩)
    | false => exact .inr (.inr ⟨rfl, rfl⟩)
theorem negs_snoc (ds : List QD) (d : QD) : negs (ds ++ [d]) = if nz d then negs ds else negs ds ++ [d.num.g] := by
  unfold negs
  rw [List.filter_append, List.map_append]
  cases h : nz d <;> simp [h]
theorem good_sg {w : World} {q : QV} {d : QD} (h : AllAr w [(q.num, d.num), (q.den, d.den)]) (g : IsGood w q d) : (nz d = true ∧ nQ d = 0) ∨ (nz d = false ∧ d.num.g = true ∧ nQ d < 0) ∨ (nz d = false ∧ d.num.g = false ∧ 0 < nQ d) := by
  obtain ⟨xs, a1, n1⟩ := g.is.1
  have e1 := a1.ar.len
  have e3 := h.head.ar.len
  have s1 := a1.sg
  have s2 := h.head.sg
  simp only at e1 e3 s1 s2
  unfold nz
  by_cases h0 : d.num.xs.length = 0
  · left
    have : xs = [] := List.length_eq_zero_iff.1 (by omega)
    have := n1.nil_iff.1 this
    exact ⟨by simp [h0], by omega⟩
  · right
    have hne : nQ d ≠ 0 := fun e => by
      have := n1.nil_iff.2 (by omega)
      rw [this] at e1
      simp at e1
      omega
    have sg : d.num.g = decide (nQ d < 0) := by rw [← s2, s1]
    by_cases hn : nQ d < 0
    · left; exact ⟨by simp [h0], by rw [sg]; simp [hn], hn⟩
    · right; exact ⟨by simp [h0], by rw [sg]; simp [hn], by omega⟩
set_option maxRecDepth 100000 in
set_option maxHeartbeats 8000000 in
theorem signsS (a : Option Addr) (n c : Nat) (l : List (QV × QD)) (w : World) (h : PArQ w a n c l) (hg : ∀ y ∈ l, IsGood w y.1 y.2) :
    Calls Tryz.prog 61 #[.slice a n c] w fun e w' => e = .returned (.int .i64 (cnt (negs (l.map Prod.snd)) (negs (l.map Prod.snd)).length : Nat)) ∧ Below w.heap.size w w' := by
  have HS := hide h
  have HN := hide h.len
  have HG := hide hg
  have hm : n ≤ maxLen := Nat.le_trans h.cap h.top
  clear h hg
  unfold maxLen at hm
  go_enter Tryz.func61, Tryz.ntmps61
  go_wp2
  go_loopw [3, 4, 10] (fun nv lv iv wr => ∃ (i k : Nat) (t : Int), i ≤ n ∧ iv = .int .i64 i ∧ nv = .int .i64 k ∧ lv = .int .i64 t ∧ k ≤ i ∧ Hid (k = cnt (negs ((l.take i).map Prod.snd)) (negs ((l.take i).map Prod.snd)).length) ∧ Hid (t = lastS (negs ((l.take i).map Prod.snd))) ∧ Hid (Below w.heap.size w wr)) (fun _ _ iv _ => n - (intOf iv).toNat)
  case atStart => exact ⟨0, 0, 0, Nat.zero_le _, rfl, rfl, rfl, Nat.le_refl _, hide rfl, hide rfl, hide (Below.refl _ _)⟩
  case round =>
    obtain ⟨i, k, t, hi, rfl, rfl, rfl, hk, EC, EL, HB⟩ := hrel
    by_cases hlt : i < n
    · have hlt' : (i : Int) < (n : Int) := by omega
      rcases (unhide HS).at_ with e | ⟨b, off, rfl, hb, hc⟩
      · exact absurd (unhide HN) (by rw [e]; simp; omega)
      have e0 := hc i (by rw [unhide HN]; exact hlt)
      obtain ⟨y, hy⟩ : ∃ y, y = l[i]'(by rw [unhide HN]; exact hlt) := ⟨_, rfl⟩
      rw [← hy] at e0
      have MY : Hid (y ∈ l) := hide (by rw [hy]; exact List.getElem_mem _)
      have EY := hide hy
      clear hy
      have E0 : wr.cell? ⟨b, off + i * 4, none⟩ = some (.bool y.1.num.g) := ((unhide HB).cell (p := ⟨b, off + i * 4, none⟩) hb).trans (e0.1)
      have E1 : wr.cell? ⟨b, off + i * 4 + 1, none⟩ = some (.slice y.1.num.a y.1.num.n y.1.num.c) := ((unhide HB).cell (p := ⟨b, off + i * 4 + 1, none⟩) hb).trans (e0.2.1)
      have E2 : wr.cell? ⟨b, off + i * 4 + 2, none⟩ = some (.bool y.1.den.g) := ((unhide HB).cell (p := ⟨b, off + i * 4 + 2, none⟩) hb).trans (e0.2.2.1)
      have E3 : wr.cell? ⟨b, off + i * 4 + 3, none⟩ = some (.slice y.1.den.a y.1.den.n y.1.den.c) := ((unhide HB).cell (p := ⟨b, off + i * 4 + 3, none⟩) hb).trans (e0.2.2.2)
      clear e0 hc
      have TK : Hid (l.take (i + 1) = l.take i ++ [y]) := hide (by have h := take_succQ (l := l) (i := i) (by rw [unhide HN]; exact hlt); rw [← unhide EY] at h; exact h)
      have JA := hide (((unhide HS).rd y (unhide MY)).later (unhide HB))
      have JY := hide (((unhide HG) y (unhide MY)).later (unhide HB))
      have CS := hide (good_sg (unhide JA) (unhide JY))
      go_upto_region 6 with fail
      have al : Below wr.heap.size wr (wr.alloc (.cells #[.bool y.1.num.g, .slice y.1.num.a y.1.num.n y.1.num.c, .bool y.1.den.g, .slice y.1.den.a y.1.den.n y.1.den.c] 32)) := (Below.refl _ _).alloc (Nat.le_refl _) _
      have T0 : (wr.alloc (.cells #[.bool y.1.num.g, .slice y.1.num.a y.1.num.n y.1.num.c, .bool y.1.den.g, .slice y.1.den.a y.1.den.n y.1.den.c] 32)).cell? ⟨wr.heap.size, 0, none⟩ = some (.bool y.1.num.g) := by simp [go_sem]
      have T1 : (wr.alloc (.cells #[.bool y.1.num.g, .slice y.1.num.a y.1.num.n y.1.num.c, .bool y.1.den.g, .slice y.1.den.a y.1.den.n y.1.den.c] 32)).cell? ⟨wr.heap.size, 1, none⟩ = some (.slice y.1.num.a y.1.num.n y.1.num.c) := by simp [go_sem]
      have T2 : (wr.alloc (.cells #[.bool y.1.num.g, .slice y.1.num.a y.1.num.n y.1.num.c, .bool y.1.den.g, .slice y.1.den.a y.1.den.n y.1.den.c] 32)).cell? ⟨wr.heap.size, 2, none⟩ = some (.bool y.1.den.g) := by simp [go_sem]
      have T3 : (wr.alloc (.cells #[.bool y.1.num.g, .slice y.1.num.a y.1.num.n y.1.num.c, .bool y.1.den.g, .slice y.1.den.a y.1.den.n y.1.den.c] 32)).cell? ⟨wr.heap.size, 3, none⟩ = some (.slice y.1.den.a y.1.den.n y.1.den.c) := by simp [go_sem]
      replace HB := hide (below_on (unhide HB) al)
      replace JY := hide ((unhide JY).later al)
      clear al E0 E1 E2 E3 JA
      generalize (wr.alloc (.cells #[.bool y.1.num.g, .slice y.1.num.a y.1.num.n y.1.num.c, .bool y.1.den.g, .slice y.1.den.a y.1.den.n y.1.den.c] 32)) = w1 at *
      go_region_held3 (fun w' => w'.cell? ⟨wr.heap.size, 0, none⟩ = some (.bool y.1.num.g) ∧ w'.cell? ⟨wr.heap.size, 1, none⟩ = some (.slice y.1.num.a y.1.num.n y.1.num.c) ∧ w'.cell? ⟨wr.heap.size, 2, none⟩ = some (.bool y.1.den.g) ∧ w'.cell? ⟨wr.heap.size, 3, none⟩ = some (.slice y.1.den.a y.1.den.n y.1.den.c)) (with_reducible (first | exact ⟨T0, T1, T2, T3⟩ | exact ⟨cd_other T0, cd_other T1, cd_other T2, cd_other T3⟩ | fail))
        (first
        | (go_at_call 48; refine (wholeS 0 _ (by omega) (by omega)).mono ?_; rintro e w2 ⟨q0, zs, us, rfl, hb1, o1, a1, m1, m2⟩; have hbx := below_of_drew hb1; replace T0 := cell_later hbx T0; replace T1 := cell_later hbx T1; replace T2 := cell_later hbx T2; replace T3 := cell_later hbx T3; replace HB := hide (below_on (unhide HB) hbx); replace JY := hide ((unhide JY).later hbx); have IO : Hid (IsQ w2 q0 0 1) := hide (isQ_of a1 m1 m2); clear hbx hb1 o1 a1 m1 m2)
        | (go_at_call 66; refine (cmpQS y.1 q0 (nQ y.2) (dQ y.2) 0 1 _ (unhide JY).is (unhide IO) ((unhide JY).kn.mono (by omega)) ((unhide JY).kd.mono (by omega)) ((Bd.small (by decide)).mono (by omega)) ((Bd.small (by decide)).mono (by omega))).mono ?_; rintro e w3 ⟨rfl, hb2⟩; replace T0 := cell_later hb2 T0; replace T1 := cell_later hb2 T1; replace T2 := cell_later hb2 T2; replace T3 := cell_later hb2 T3; replace HB := hide (below_on (unhide HB) hb2); clear hb2))
      clear IO JY T0 T1 T2 T3
      rcases unhide CS with ⟨hz, hq⟩ | ⟨hz, hs, hq⟩ | ⟨hz, hs, hq⟩
      · have cz : cmpZ (nQ y.2) 0 = 0 := by unfold cmpZ; rw [hq]; rfl
        rw [cz]
        clear cz hq
        rcases lastS_cases (negs ((l.take i).map Prod.snd)) with ⟨hl1, hl2⟩ | ⟨hl1, hl2⟩ | ⟨hl1, hl2⟩
        · have te : t = 0 := (unhide EL).trans hl2
          subst te
          have NS : Hid (negs ((l.take (i + 1)).map Prod.snd) = negs ((l.take i).map Prod.snd)) := hide (by rw [unhide TK, List.map_append]; simp only [List.map_cons, List.map_nil]; rw [negs_snoc, hz, if_pos rfl])
          clear CS
          go_wp2
          go_roundw
          case rel => exact ⟨i + 1, k, 0, by omega, by go_num, rfl, rfl, by omega, hide (by rw [unhide NS]; exact unhide EC), hide (by rw [unhide NS]; exact unhide EL), HB⟩
          case measure => simp [intOf]; omega
        · have te : t = -1 := (unhide EL).trans hl2
          subst te
          have NS : Hid (negs ((l.take (i + 1)).map Prod.snd) = negs ((l.take i).map Prod.snd)) := hide (by rw [unhide TK, List.map_append]; simp only [List.map_cons, List.map_nil]; rw [negs_snoc, hz, if_pos rfl])
          clear CS
          go_wp2
          go_roundw
          case rel => exact ⟨i + 1, k, -1, by omega, by go_num, rfl, rfl, by omega, hide (by rw [unhide NS]; exact unhide EC), hide (by rw [unhide NS]; exact unhide EL), HB⟩
          case measure => simp [intOf]; omega
        · have te : t = 1 := (unhide EL).trans hl2
          subst te
          have NS : Hid (negs ((l.take (i + 1)).map Prod.snd) = negs ((l.take i).map Prod.snd)) := hide (by rw [unhide TK, List.map_append]; simp only [List.map_cons, List.map_nil]; rw [negs_snoc, hz, if_pos rfl])
          clear CS
          go_wp2
          go_roundw
          case rel => exact ⟨i + 1, k, 1, by omega, by go_num, rfl, rfl, by omega, hide (by rw [unhide NS]; exact unhide EC), hide (by rw [unhide NS]; exact unhide EL), HB⟩
          case measure => simp [intOf]; omega
      · have cz : cmpZ (nQ y.2) 0 = -1 := by unfold cmpZ; rw [if_pos hq]
        rw [cz]
        clear cz hq
        rcases lastS_cases (negs ((l.take i).map Prod.snd)) with ⟨hl1, hl2⟩ | ⟨hl1, hl2⟩ | ⟨hl1, hl2⟩
        · have te : t = 0 := (unhide EL).trans hl2
          subst te
          have NS : Hid (negs ((l.take (i + 1)).map Prod.snd) = negs ((l.take i).map Prod.snd) ++ [true]) := hide (by rw [unhide TK, List.map_append]; simp only [List.map_cons, List.map_nil]; rw [negs_snoc, hz, if_neg (by simp), hs])
          clear CS
          go_wp2
          go_roundw
          case rel => exact ⟨i + 1, k, -1, by omega, by go_num, rfl, rfl, by omega, hide (by rw [unhide NS, cnt_snoc, hl1, ← unhide EC]; rfl), hide (by rw [unhide NS, lastS_snoc]; rfl), HB⟩
          case measure => simp [intOf]; omega
        · have te : t = -1 := (unhide EL).trans hl2
          subst te
          have NS : Hid (negs ((l.take (i + 1)).map Prod.snd) = negs ((l.take i).map Prod.snd) ++ [true]) := hide (by rw [unhide TK, List.map_append]; simp only [List.map_cons, List.map_nil]; rw [negs_snoc, hz, if_neg (by simp), hs])
          clear CS
          go_wp2
          go_roundw
          case rel => exact ⟨i + 1, k, -1, by omega, by go_num, rfl, rfl, by omega, hide (by rw [unhide NS, cnt_snoc, hl1, ← unhide EC]; rfl), hide (by rw [unhide NS, lastS_snoc]; rfl), HB⟩
          case measure => simp [intOf]; omega
        · have te : t = 1 := (unhide EL).trans hl2
          subst te
          have NS : Hid (negs ((l.take (i + 1)).map Prod.snd) = negs ((l.take i).map Prod.snd) ++ [true]) := hide (by rw [unhide TK, List.map_append]; simp only [List.map_cons, List.map_nil]; rw [negs_snoc, hz, if_neg (by simp), hs])
          clear CS
          go_wp2
          go_roundw
          case rel => exact ⟨i + 1, k + 1, -1, by omega, by go_num, by go_num, rfl, by omega, hide (by rw [unhide NS, cnt_snoc, hl1, ← unhide EC]; rfl), hide (by rw [unhide NS, lastS_snoc]; rfl), HB⟩
          case measure => simp [intOf]; omega
      · have cz : cmpZ (nQ y.2) 0 = 1 := by unfold cmpZ; rw [if_neg (by omega), if_pos hq]
        rw [cz]
        clear cz hq
        rcases lastS_cases (negs ((l.take i).map Prod.snd)) with ⟨hl1, hl2⟩ | ⟨hl1, hl2⟩ | ⟨hl1, hl2⟩
        · have te : t = 0 := (unhide EL).trans hl2
          subst te
          have NS : Hid (negs ((l.take (i + 1)).map Prod.snd) = negs ((l.take i).map Prod.snd) ++ [false]) := hide (by rw [unhide TK, List.map_append]; simp only [List.map_cons, List.map_nil]; rw [negs_snoc, hz, if_neg (by simp), hs])
          clear CS
          go_wp2
          go_roundw
          case rel => exact ⟨i + 1, k, 1, by omega, by go_num, rfl, rfl, by omega, hide (by rw [unhide NS, cnt_snoc, hl1, ← unhide EC]; rfl), hide (by rw [unhide NS, lastS_snoc]; rfl), HB⟩
          case measure => simp [intOf]; omega
        · have te : t = -1 := (unhide EL).trans hl2
          subst te
          have NS : Hid (negs ((l.take (i + 1)).map Prod.snd) = negs ((l.take i).map Prod.snd) ++ [false]) := hide (by rw [unhide TK, List.map_append]; simp only [List.map_cons, List.map_nil]; rw [negs_snoc, hz, if_neg (by simp), hs])
          clear CS
          go_wp2
          go_roundw
          case rel => exact ⟨i + 1, k + 1, 1, by omega, by go_num, by go_num, rfl, by omega, hide (by rw [unhide NS, cnt_snoc, hl1, ← unhide EC]; rfl), hide (by rw [unhide NS, lastS_snoc]; rfl), HB⟩
          case measure => simp [intOf]; omega
        · have te : t = 1 := (unhide EL).trans hl2
          subst te
          have NS : Hid (negs ((l.take (i + 1)).map Prod.snd) = negs ((l.take i).map Prod.snd) ++ [false]) := hide (by rw [unhide TK, List.map_append]; simp only [List.map_cons, List.map_nil]; rw [negs_snoc, hz, if_neg (by simp), hs])
          clear CS
          go_wp2
          go_roundw
          case rel => exact ⟨i + 1, k, 1, by omega, by go_num, rfl, rfl, by omega, hide (by rw [unhide NS, cnt_snoc, hl1, ← unhide EC]; rfl), hide (by rw [unhide NS, lastS_snoc]; rfl), HB⟩
          case measure => simp [intOf]; omega
    · obtain rfl : n = i := by omega
      have EE : Hid (k = cnt (negs (l.map Prod.snd)) (negs (l.map Prod.snd)).length) := hide (by have := unhide EC; rw [List.take_of_length_le (by rw [unhide HN]; exact Nat.le_refl _)] at this; exact this)
      go_wp2
      go_ret
      exact ⟨by rw [← unhide EE]; rfl, unhide HB⟩
end Go.Proofs.YtcbmecnipldcfaaGreat
namespace Go.Proofs.YtcbmecnipldcfaaGreat
open Go.RowKit
set_option linter.unusedVariables false
set_option maxRecDepth 100000
set_option linter.unusedSimpArgs false

set_option maxHeartbeats 2000000 in
theorem indexNz (a : Option Addr) (n c : Nat) (l : List (QV × QD)) (w : World) (h : PArQ w a n c l) :
    Calls Tryz.prog 124 #[.slice a n c, .func (Fn.func 97) #[] #[]] w fun e w' => Below w.heap.size w w' ∧ ((e = .returned (.int .i64 (-1)) ∧ ∀ y ∈ l, nz y.2 = false) ∨ (∃ k : Nat, ∃ h : k < l.length, e = .returned (.int .i64 k) ∧ (∀ y ∈ l.take k, nz y.2 = false) ∧ nz l[k].2 = true)) := by
  have HS := hide h
  have HN := hide h.len
  have hm : n ≤ maxLen := Nat.le_trans h.cap h.top
  clear h
  unfold maxLen at hm
  go_enter Tryz.func124, Tryz.ntmps124
  go_wp2
  go_loopw [8] (fun iv wr => ∃ (i : Nat), i ≤ n ∧ iv = .int .i64 i ∧ Hid (∀ y ∈ l.take i, nz y.2 = false) ∧ Hid (Below w.heap.size w wr)) (fun iv _ => n - (intOf iv).toNat)
  case atStart => exact ⟨0, Nat.zero_le _, rfl, hide (fun y hy => by simp at hy), hide (Below.refl _ _)⟩
  case round =>
    obtain ⟨i, hi, rfl, EA, HB⟩ := hrel
    by_cases hlt : i < n
    · have hlt' : (i : Int) < (n : Int) := by omega
      rcases (unhide HS).at_ with e | ⟨b, off, rfl, hb, hc⟩
      · exact absurd (unhide HN) (by rw [e]; simp; omega)
      have e0 := hc i (by rw [unhide HN]; exact hlt)
      obtain ⟨y, hy⟩ : ∃ y, y = l[i]'(by rw [unhide HN]; exact hlt) := ⟨_, rfl⟩
      rw [← hy] at e0
      have MY : Hid (y ∈ l) := hide (by rw [hy]; exact List.getElem_mem _)
      have EY := hide hy
      clear hy
      have E0 : wr.cell? ⟨b, off + i * 4, none⟩ = some (.bool y.1.num.g) := ((unhide HB).cell (p := ⟨b, off + i * 4, none⟩) hb).trans (e0.1)
      have E1 : wr.cell? ⟨b, off + i * 4 + 1, none⟩ = some (.slice y.1.num.a y.1.num.n y.1.num.c) := ((unhide HB).cell (p := ⟨b, off + i * 4 + 1, none⟩) hb).trans (e0.2.1)
      have E2 : wr.cell? ⟨b, off + i * 4 + 2, none⟩ = some (.bool y.1.den.g) := ((unhide HB).cell (p := ⟨b, off + i * 4 + 2, none⟩) hb).trans (e0.2.2.1)
      have E3 : wr.cell? ⟨b, off + i * 4 + 3, none⟩ = some (.slice y.1.den.a y.1.den.n y.1.den.c) := ((unhide HB).cell (p := ⟨b, off + i * 4 + 3, none⟩) hb).trans (e0.2.2.2)
      clear e0 hc
      have TK : Hid (l.take (i + 1) = l.take i ++ [y]) := hide (by have h := take_succQ (l := l) (i := i) (by rw [unhide HN]; exact hlt); rw [← unhide EY] at h; exact h)
      have R1 := hide (((unhide HS).rd y (unhide MY)).later (unhide HB))
      have CC := hide (fun w1 (k : AllAr w1 [(y.1.num, y.2.num), (y.1.den, y.2.den)]) => noughtI y.1 y.2 w1 k)
      cases hp : nz y.2
      · rw [hp] at CC
        go_wp2_with fail
        refine (unhide CC _ (unhide R1)).mono ?_
        rintro e w1 ⟨rfl, hb1⟩
        have HB1 := hide (below_on (unhide HB) hb1)
        clear hb1 E0 E1 E2 E3 CC
        go_wp2
        go_roundw
        case rel => exact ⟨i + 1, by omega, by go_num, hide (fun q hq => by rw [unhide TK] at hq; rcases List.mem_append.1 hq with h | h; exact (unhide EA) q h; rw [List.mem_singleton.1 h]; exact hp), HB1⟩
        case measure => simp [intOf]; omega
      · rw [hp] at CC
        go_wp2_with fail
        refine (unhide CC _ (unhide R1)).mono ?_
        rintro e w1 ⟨rfl, hb1⟩
        have HB1 := hide (below_on (unhide HB) hb1)
        clear hb1 E0 E1 E2 E3 CC
        go_wp2
        go_ret
        exact ⟨unhide HB1, .inr ⟨i, by rw [unhide HN]; exact hlt, rfl, unhide EA, by rw [← unhide EY]; exact hp⟩⟩
    · obtain rfl : n = i := by omega
      have EL := hide (show ∀ y ∈ l, nz y.2 = false from by have := unhide EA; rw [List.take_of_length_le (by rw [unhide HN]; exact Nat.le_refl _)] at this; exact this)
      go_wp2
      go_ret
      exact ⟨unhide HB, .inl ⟨rfl, unhide EL⟩⟩
theorem cloneN (c : Nat) (w : World) : Calls Tryz.prog 105 #[.slice none 0 c] w fun e w' => e = .returned (.slice none 0 0) ∧ w' = w := by
  have hq := fun w => Lib.run_eql_slice_nil (P := Tryz.prog) w 44 32 none 0 c 0 0 Tryz.underlying44
  go_enter Tryz.func105, Tryz.ntmps105
  go_wp2
  go_ret
  exact ⟨rfl, rfl⟩
set_option maxHeartbeats 2000000 in
theorem cloneZ (ad : Addr) (c : Nat) (w : World) : Calls Tryz.prog 105 #[.slice (some ad) 0 c] w fun e w' => ∃ a' c', e = .returned (.slice a' 0 c') ∧ Below w.heap.size w w' ∧ c' ≤ maxLen := by
  obtain ⟨i0, hi, hz0, hz1, hz2⟩ := info_parts Tryz.info32
  have hq := fun w => Lib.run_eql_slice_nil (P := Tryz.prog) w 44 32 (some ad) 0 c 0 0 Tryz.underlying44
  go_enter Tryz.func105, Tryz.ntmps105
  go_wp2_with (at_builtin; refine wpList_append_own _ rfl (.tmp 5) (.tmp 6) 44 rfl w.heap.size 32 i0 (.agg #[.bool false, .slice none 0 0, .bool false, .slice none 0 0]) 4 64 Tryz.underlying44 hi hz0 hz1 hz2 rfl (by decide) _ _ _ rfl (owns_emptyQ w) ad 0 c [] rfl rfl (fun j u hh => by simp at hh) (fun u hh => by cases hh) (by unfold maxLen; omega) (by omega) (by simp) ?_)
  intro v' w1' hown hg hnil
  have hB := hide (below_alloc_grown hg (fun k e => by simp [Value.ownBlock] at e; omega))
  have HX : Hid (∃ a' c', v' = .slice a' 0 c' ∧ c' ≤ maxLen) := by
    rcases hown.2 with ⟨h', _⟩ | ⟨g', cap', cur, h', _, _, _, q2, _⟩
    · exact hide ⟨_, _, h', Nat.zero_le _⟩
    · exact hide ⟨_, _, h', q2⟩
  obtain ⟨a', c', rfl, hc'⟩ := unhide HX
  clear hown hg hnil HX
  go_wp2
  go_ret
  exact ⟨a', c', rfl, unhide hB, hc'⟩
set_option maxHeartbeats 2000000 in
theorem cloneP (ad : Addr) (n c : Nat) (l : List (QV × QD)) (w : World) (h : PArQ w (some ad) n c l) (h0 : 0 < n) (h1 : n ≤ 1048576) :
    Calls Tryz.prog 105 #[.slice (some ad) n c] w fun e w' => ∃ g c', e = .returned (.slice (some ⟨g, 0, none⟩) n c') ∧ Below w.heap.size w w' ∧ w.heap.size ≤ g ∧ w'.ownsRow w.heap.size 32 4 (.slice (some ⟨g, 0, none⟩) n c') n (flatC l) := by
  obtain ⟨i0, hi, hz0, hz1, hz2⟩ := info_parts Tryz.info32
  have HN := hide h.len
  have HS := hide h
  have hcap := h.cap
  have htop := h.top
  unfold maxLen at htop
  obtain ⟨b, off, ead, HT0⟩ : ∃ b off, ad = ⟨b, off, none⟩ ∧ Hid (∀ j u, (flatC l)[j]? = some u → (w.alloc (.cells #[] 32)).cell? ((⟨b, off, none⟩ : Addr).add j) = some u) := by
    rcases h.at_ with e | ⟨b, off, ea, hb, hc⟩
    · exact absurd h.len (by rw [e]; simp; omega)
    · refine ⟨b, off, Option.some.inj ea, hide (flatC_cells (fun i hi => ?_))⟩
      have hcc := hc i hi
      have bl : Below w.heap.size w (w.alloc (.cells #[] 32)) := (Below.refl _ _).alloc (Nat.le_refl _) _
      exact ⟨(bl.cell (p := ⟨b, off + i * 4, none⟩) hb).trans hcc.1, (bl.cell (p := ⟨b, off + i * 4 + 1, none⟩) hb).trans hcc.2.1, (bl.cell (p := ⟨b, off + i * 4 + 2, none⟩) hb).trans hcc.2.2.1, (bl.cell (p := ⟨b, off + i * 4 + 3, none⟩) hb).trans hcc.2.2.2⟩
  subst ead
  clear h
  have hl4 : Hid ((flatC l).length = n * 4) := hide (by rw [flatC_len, unhide HN])
  have hq := fun w => Lib.run_eql_slice_nil (P := Tryz.prog) w 44 32 (some ⟨b, off, none⟩) n c 0 0 Tryz.underlying44
  go_enter Tryz.func105, Tryz.ntmps105
  go_wp2_with (at_builtin; refine wpList_append_own _ rfl (.tmp 5) (.tmp 6) 44 rfl w.heap.size 32 i0 (.agg #[.bool false, .slice none 0 0, .bool false, .slice none 0 0]) 4 64 Tryz.underlying44 hi hz0 hz1 hz2 rfl (by decide) _ _ _ rfl (owns_emptyQ w) (⟨b, off, none⟩ : Addr) n c (flatC l) rfl (unhide hl4) (unhide HT0) (flatC_one _) (by unfold maxLen; omega) (by omega) (by simp) ?_)
  intro v' w1' hown hg hnil
  have hB := hide (below_alloc_grown hg (fun k e => by simp [Value.ownBlock] at e; omega))
  have hown' : w1'.ownsRow w.heap.size 32 4 v' n (flatC l) := by first | exact hown | (simpa using hown)
  have HX : Hid (∃ g c', v' = .slice (some ⟨g, 0, none⟩) n c') := by
    rcases hown'.2 with ⟨h', _⟩ | ⟨g', cap', cur, h', _⟩
    · exact (hnil h').elim
    · exact hide ⟨g', cap', h'⟩
  obtain ⟨g, c', rfl⟩ := unhide HX
  have HO := hide hown'
  clear hown hown' hg hnil HX
  go_wp2
  go_ret
  exact ⟨g, c', rfl, unhide hB, owns_base (unhide HO) g rfl, unhide HO⟩
theorem zeroV (w : World) : (zeroValue 32).run Tryz.prog w = .ok (.agg #[.bool false, .slice none 0 0, .bool false, .slice none 0 0]) w := by kernel_rfl
theorem clear_rats (w : World) (b o n c : Nat) (hn : 0 < n) (hc : ∀ j, j < n * 4 → (w.cell? ⟨b, o + j, none⟩).isSome = true) (hf : ∀ j, j < n * 4 → w.frozen? ⟨b, o + j, none⟩ = false) :
    ∃ zs : List Value, zs.length = n * 4 ∧ ∀ ty, (Builtin.clear_ #[44] ty #[.slice (some ⟨b, o, none⟩) n c]).run Tryz.prog w = .ok (.tuple #[]) (w.setCells b o zs) := by
  obtain ⟨zc, hzc⟩ : ∃ zc : Array Value, zc = (Value.agg #[.bool false, .slice none 0 0, .bool false, .slice none 0 0]).cells := ⟨_, rfl⟩
  have hz4 : zc = #[.bool false, .slice none 0 0, .bool false, .slice none 0 0] := by rw [hzc]; rfl
  obtain ⟨zs, hzs⟩ : ∃ zs : List Value, zs = (Builtin.zeroCells zc n).toList := ⟨_, rfl⟩
  have hlen : zs.length = n * 4 := by rw [hzs, hz4]; simp [Builtin.zeroCells]
  have hone : ∀ v ∈ zs, v.oneCell' = true := by
    intro v hv
    rw [hzs, hz4] at hv
    simp only [Builtin.zeroCells, Array.toList_map, List.mem_map] at hv
    obtain ⟨i, _, rfl⟩ := hv
    have : i % 4 < 4 := Nat.mod_lt _ (by omega)
    simp only [List.size_toArray, List.length_cons, List.length_nil, Nat.reduceAdd]
    generalize i % 4 = q at this ⊢
    rcases q with _ | _ | _ | _ | q
    · rfl
    · rfl
    · rfl
    · rfl
    · omega
  have hst := run_storeCells_cells (P := Tryz.prog) b o zs 0 w (by rw [hlen]; simpa using hc) (by rw [hlen]; simpa using hf) hone
  simp only [Nat.add_zero] at hst
  refine ⟨zs, hlen, fun ty => ?_⟩
  obtain ⟨m, rfl⟩ : ∃ m, n = m + 1 := ⟨n - 1, by omega⟩
  simp [Builtin.clear_, run_underlying Tryz.underlying44, zeroV, ← hzc, ← hzs, hst]
theorem set_take {vs : List (QV × QD)} {i : Nat} (y : QV × QD) (h : i < vs.length) : (vs.set i y).take (i + 1) = vs.take i ++ [y] := by
  rw [List.take_succ_eq_append_getElem (by rw [List.length_set]; exact h), List.getElem_set_self, List.take_set_of_le (Nat.le_refl _)]
set_option maxRecDepth 100000 in
set_option maxHeartbeats 8000000 in
theorem delI (w0 w : World) (g n c : Nat) (l : List (QV × QD)) (hr : w.ownsRow w0.heap.size 32 4 (.slice (some ⟨g, 0, none⟩) n c) n (flatC l)) (hl : l.length = n) (ha : ∀ p ∈ l, AllAr w0 [(p.1.num, p.2.num), (p.1.den, p.2.den)]) (hb : Below w0.heap.size w0 w) (hg : w0.heap.size ≤ g) (h1 : n ≤ 1048576) :
    Calls Tryz.prog 104 #[.slice (some ⟨g, 0, none⟩) n c, .func (Fn.func 97) #[] #[]] w fun e w' => ∃ m c' us, e = .returned (.slice (some ⟨g, 0, none⟩) m c') ∧ Below w0.heap.size w0 w' ∧ us.length = m ∧ us = l.filter (fun y : QV × QD => !nz y.2) ∧ PAtQ w' (some ⟨g, 0, none⟩) us := by
  have oa := ownsRow_at hr hl
  have PA : Hid (PArQ w (some ⟨g, 0, none⟩) n c l) := hide ⟨oa.1, fun p hp => (ha p hp).later hb, hl, oa.2.1, oa.2.2⟩
  have ncap := oa.2.1
  have HA := hide ha
  have HR := hide hr
  have HB0 := hide hb
  have HL := hide hl
  have AT := hide oa.1
  have glt : g < w.heap.size := by
    rcases hr.2 with ⟨h', _⟩ | ⟨g', cap', cur, hv, _, hgt, _⟩
    · simp at h'
    · simp only [Value.slice.injEq, Option.some.injEq, Addr.mk.injEq, and_true, true_and] at hv
      have := (Array.getElem?_eq_some_iff.1 hgt).1
      omega
  have IX := hide (indexNz (some ⟨g, 0, none⟩) n c l)
  clear hr ha hb oa hl
  go_enter Tryz.func104, Tryz.ntmps104
  go_wp2_with fail
  refine (unhide IX _ (unhide PA)).mono ?_
  rintro e w1 ⟨hb1, ⟨rfl, hno⟩ | ⟨k, hk, rfl, hpre, hkz⟩⟩
  · have HB := hide ((unhide HB0).trans (hb1.mono (unhide HB0).size))
    replace AT := hide ((unhide AT).later hb1)
    have FL : Hid (l.filter (fun y : QV × QD => !nz y.2) = l) := hide (List.filter_eq_self.2 (fun y hy => by rw [hno y hy]; rfl))
    clear hb1 hno IX
    go_wp2
    go_ret
    exact ⟨n, c, l, rfl, unhide HB, unhide HL, (unhide FL).symm, unhide AT⟩
  · have HB := hide ((unhide HB0).trans (hb1.mono (unhide HB0).size))
    replace HR := hide (owns_later (unhide HR) hb1)
    have gl1 : g < w1.heap.size := Nat.lt_of_lt_of_le glt hb1.size
    have hkn : k < n := by have := unhide HL; omega
    have FT : Hid ((l.take (k + 1)).filter (fun y : QV × QD => !nz y.2) = l.take k) := hide (by
      rw [take_succQ hk, List.filter_append, List.filter_eq_self.2 (fun y hy => by rw [hpre y hy]; rfl)]
      simp [hkz])
    have hke : ((k : Int) == -1) = false := by simp
    clear hb1 hpre hkz IX AT PA
    go_wp2
    go_loopw [5, 6] (fun iv jv wr => ∃ (i j : Nat) (vs : List (QV × QD)), i < j ∧ j ≤ n ∧ iv = .int .i64 i ∧ jv = .int .i64 j ∧ vs.length = n ∧ g < wr.heap.size ∧ Hid (vs.take i = (l.take j).filter (fun y : QV × QD => !nz y.2)) ∧ Hid (vs.drop j = l.drop j) ∧ Hid (wr.ownsRow w0.heap.size 32 4 (.slice (some ⟨g, 0, none⟩) n c) n (flatC vs)) ∧ Hid (Below w0.heap.size w0 wr)) (fun _ jv _ => n - (intOf jv).toNat)
    case atStart => exact ⟨k, k + 1, l, by omega, by omega, rfl, by go_num, unhide HL, gl1, hide (unhide FT).symm, hide rfl, HR, HB⟩
    case round =>
      clear HR HB gl1 FT
      obtain ⟨i, j, vs, hij, hj, rfl, rfl, hv, gl, VT, VD, HR, HB⟩ := hrel
      by_cases hjn : j < n
      · have hjn' : (j : Int) < (n : Int) := by omega
        have hin' : (i : Int) < (n : Int) := by omega
        obtain ⟨y, hy⟩ : ∃ y, y = vs[j]'(by omega) := ⟨_, rfl⟩
        have hyl : l[j]? = some y := by
          have e1 : (vs.drop j)[0]? = (l.drop j)[0]? := by rw [unhide VD]
          rw [List.getElem?_drop, List.getElem?_drop] at e1
          simp only [Nat.add_zero] at e1
          rw [← e1, hy]
          exact List.getElem?_eq_getElem _
        have MY : Hid (y ∈ l) := hide (List.mem_of_getElem? hyl)
        have TK : Hid (l.take (j + 1) = l.take j ++ [y]) := hide (by
          have h0 : j < l.length := by rw [unhide HL]; exact hjn
          rw [take_succQ h0]
          rw [List.getElem?_eq_getElem h0] at hyl
          rw [Option.some.inj hyl])
        have sx := flatC_get vs j (by omega)
        rw [← hy] at sx
        have hM := unhide HR
        have E0 : wr.cell? ⟨g, j * 4, none⟩ = some (.bool y.1.num.g) := (hM.cellAt _ (by omega)).trans (sx.1)
        have E1 : wr.cell? ⟨g, j * 4 + 1, none⟩ = some (.slice y.1.num.a y.1.num.n y.1.num.c) := (hM.cellAt _ (by omega)).trans (sx.2.1)
        have E2 : wr.cell? ⟨g, j * 4 + 2, none⟩ = some (.bool y.1.den.g) := (hM.cellAt _ (by omega)).trans (sx.2.2.1)
        have E3 : wr.cell? ⟨g, j * 4 + 3, none⟩ = some (.slice y.1.den.a y.1.den.n y.1.den.c) := (hM.cellAt _ (by omega)).trans (sx.2.2.2)
        clear sx hM hy hyl
        have R1 := hide (((unhide HA) y (unhide MY)).later (unhide HB))
        have CC := hide (fun w1 (k : AllAr w1 [(y.1.num, y.2.num), (y.1.den, y.2.den)]) => noughtI y.1 y.2 w1 k)
        have VD2 : Hid (vs.drop (j + 1) = l.drop (j + 1)) := hide (by rw [← List.drop_drop, ← List.drop_drop, unhide VD])
        cases hp : nz y.2
        · rw [hp] at CC
          go_wp2_with fail
          refine (unhide CC _ ((unhide R1).later ((Below.refl _ _).alloc (Nat.le_refl _) _))).mono ?_
          rintro e w2 ⟨rfl, hb2⟩
          have T0 : w2.cell? ⟨wr.heap.size, 0, none⟩ = some (.bool y.1.num.g) := cell_later hb2 (by simp [go_sem])
          have T1 : w2.cell? ⟨wr.heap.size, 1, none⟩ = some (.slice y.1.num.a y.1.num.n y.1.num.c) := cell_later hb2 (by simp [go_sem])
          have T2 : w2.cell? ⟨wr.heap.size, 2, none⟩ = some (.bool y.1.den.g) := cell_later hb2 (by simp [go_sem])
          have T3 : w2.cell? ⟨wr.heap.size, 3, none⟩ = some (.slice y.1.den.a y.1.den.n y.1.den.c) := cell_later hb2 (by simp [go_sem])
          have hb3 := ba hb2
          have sz2 := hb3.size
          replace HR := hide (owns_later (unhide HR) hb3)
          have HB2 := hide ((unhide HB).trans (hb3.mono (unhide HB).size))
          have gl2 : g < w2.heap.size := Nat.lt_of_lt_of_le gl hb3.size
          have hM := unhide HR
          obtain ⟨x_0, old0⟩ : ∃ x, w2.cell? ⟨g, i * 4, none⟩ = some x := ⟨_, (hM.cellAt _ (by omega)).trans (List.getElem?_eq_getElem (by rw [flatC_len]; omega))⟩
          obtain ⟨x_1, old1⟩ : ∃ x, w2.cell? ⟨g, i * 4 + 1, none⟩ = some x := ⟨_, (hM.cellAt _ (by omega)).trans (List.getElem?_eq_getElem (by rw [flatC_len]; omega))⟩
          obtain ⟨x_2, old2⟩ : ∃ x, w2.cell? ⟨g, i * 4 + 2, none⟩ = some x := ⟨_, (hM.cellAt _ (by omega)).trans (List.getElem?_eq_getElem (by rw [flatC_len]; omega))⟩
          obtain ⟨x_3, old3⟩ : ∃ x, w2.cell? ⟨g, i * 4 + 3, none⟩ = some x := ⟨_, (hM.cellAt _ (by omega)).trans (List.getElem?_eq_getElem (by rw [flatC_len]; omega))⟩
          have fr : ∀ o, w2.frozen? ⟨g, o, none⟩ = false := fun o => hM.frozenAt o
          have ng : wr.heap.size ≠ g := by omega
          clear hb2 hb3 hM E0 E1 E2 E3 CC R1
          go_wp2
          go_roundw
          case rel =>
            have hM := unhide HR
            have bt : But g (g + 1) w2 ((((w2.setCell ⟨g, i * 4, none⟩ (.bool y.1.num.g)).setCell ⟨g, i * 4 + 1, none⟩ (.slice y.1.num.a y.1.num.n y.1.num.c)).setCell ⟨g, i * 4 + 2, none⟩ (.bool y.1.den.g)).setCell ⟨g, i * 4 + 3, none⟩ (.slice y.1.den.a y.1.den.n y.1.den.c)) := but_rowQ (u := y.1)
            refine ⟨i + 1, j + 1, vs.set i (y.1, y.2), by omega, by omega, by go_num, by go_num, by rw [List.length_set]; exact hv, Nat.lt_of_lt_of_le gl2 bt.size, hide ?_, hide ?_, hide ?_, hide (bt.below (unhide HB2) hg (by have := (unhide HB2).size; omega))⟩
            · rw [set_take _ (by omega), unhide VT, unhide TK, List.filter_append]
              simp [hp]
            · rw [List.drop_set_of_lt (by omega)]
              exact unhide VD2
            · rw [← flatC_set vs i y.1 y.2 (by omega)]
              exact (World.ownsRow.stored (World.ownsRow.stored (World.ownsRow.stored (World.ownsRow.stored hM (i * 4) (.bool y.1.num.g)).1 (i * 4 + 1) (.slice y.1.num.a y.1.num.n y.1.num.c)).1 (i * 4 + 2) (.bool y.1.den.g)).1 (i * 4 + 3) (.slice y.1.den.a y.1.den.n y.1.den.c)).1
          case measure => simp [intOf]; omega
        · rw [hp] at CC
          go_wp2_with fail
          refine (unhide CC _ ((unhide R1).later ((Below.refl _ _).alloc (Nat.le_refl _) _))).mono ?_
          rintro e w2 ⟨rfl, hb2⟩
          have hb3 := ba hb2
          replace HR := hide (owns_later (unhide HR) hb3)
          have HB2 := hide ((unhide HB).trans (hb3.mono (unhide HB).size))
          have gl2 : g < w2.heap.size := Nat.lt_of_lt_of_le gl hb3.size
          clear hb2 hb3 E0 E1 E2 E3 CC R1
          go_wp2
          go_roundw
          case rel => exact ⟨i, j + 1, vs, by omega, by omega, rfl, by go_num, hv, gl2, hide (by rw [unhide VT, unhide TK, List.filter_append]; simp [hp]), VD2, HR, HB2⟩
          case measure => simp [intOf]; omega
      · obtain rfl : n = j := by omega
        have FL : Hid (vs.take i = l.filter (fun y : QV × QD => !nz y.2)) := hide (by rw [unhide VT, List.take_of_length_le (by rw [unhide HL]; exact Nat.le_refl _)])
        have hM := unhide HR
        obtain ⟨zs, zl, hcl⟩ := clear_rats wr g (i * 4) (n - i) (c - i) (by omega) (fun q hq => by rw [hM.cellAt _ (by omega), List.getElem?_eq_getElem (by rw [flatC_len]; omega)]; rfl) (fun q hq => hM.frozenAt _)
        have a1 : (i : Int) ≤ (n : Int) := by omega
        have a2 : (i : Int) ≤ (c : Int) := by omega
        have a3 : ((n : Int) - (i : Int)).toNat = n - i := by omega
        have a4 : ((c : Int) - (i : Int)).toNat = c - i := by omega
        clear hM
        have BL := hide (Go.below_setCells (B := w0.heap.size) (b := g) hg zs (i * 4) wr (unhide HB))
        have PT : Hid (PAtQ (wr.setCells g (i * 4) zs) (some ⟨g, 0, none⟩) (vs.take i)) := hide (by
          refine .inr ⟨g, 0, rfl, Nat.lt_of_lt_of_le gl (Go.below_setCells (B := 0) (b := g) (Nat.zero_le _) zs (i * 4) wr (Below.refl 0 wr)).size, fun q hq => ?_⟩
          rw [List.length_take] at hq
          have hx := flatC_get vs q (by omega)
          have hM := unhide HR
          rw [List.getElem_take]
          have key : ∀ o', o' < i * 4 → (wr.setCells g (i * 4) zs).cell? ⟨g, o', none⟩ = wr.cell? ⟨g, o', none⟩ := fun o' ho => World.cell?_setCells_out g zs (i * 4) wr ⟨g, o', none⟩ (fun _ _ => .inl ho)
          refine ⟨?_, ?_, ?_, ?_⟩ <;> rw [Nat.zero_add, key _ (by omega), hM.cellAt _ (by omega)]
          · exact hx.1
          · exact hx.2.1
          · exact hx.2.2.1
          · exact hx.2.2.2)
        go_wp2_with (simp only [hcl])
        go_ret
        exact ⟨i, c, vs.take i, rfl, unhide BL, by rw [List.length_take]; omega, unhide FL, unhide PT⟩
theorem delN (w : World) : Calls Tryz.prog 104 #[.slice none 0 0, .func (Fn.func 97) #[] #[]] w fun e w' => e = .returned (.slice none 0 0) ∧ Below w.heap.size w w' := by
  have IX := hide (indexNz none 0 0 [] w ⟨.inl rfl, fun p hp => (by cases hp), rfl, Nat.le_refl _, Nat.zero_le _⟩)
  go_enter Tryz.func104, Tryz.ntmps104
  go_wp2_with fail
  refine (unhide IX).mono ?_
  rintro e w1 ⟨hb1, ⟨rfl, hno⟩ | ⟨k, hk, rfl, hpre, hkz⟩⟩
  · have HB := hide hb1
    clear hb1 hno IX
    go_wp2
    go_ret
    exact ⟨rfl, unhide HB⟩
  · exact absurd hk (by simp)
theorem delZ (a : Option Addr) (c : Nat) (w : World) (hc : c ≤ maxLen) : Calls Tryz.prog 104 #[.slice a 0 c, .func (Fn.func 97) #[] #[]] w fun e w' => e = .returned (.slice a 0 c) ∧ Below w.heap.size w w' := by
  have IX := hide (indexNz a 0 c [] w ⟨.inl rfl, fun p hp => (by cases hp), rfl, Nat.zero_le _, hc⟩)
  go_enter Tryz.func104, Tryz.ntmps104
  go_wp2_with fail
  refine (unhide IX).mono ?_
  rintro e w1 ⟨hb1, ⟨rfl, hno⟩ | ⟨k, hk, rfl, hpre, hkz⟩⟩
  · have HB := hide hb1
    clear hb1 hno IX
    go_wp2
    go_ret
    exact ⟨rfl, unhide HB⟩
  · exact absurd hk (by simp)
theorem negs_filter (l : List (QV × QD)) : negs (l.map Prod.snd) = (l.filter (fun y : QV × QD => !nz y.2)).map (fun y => y.2.num.g) := by
  unfold negs
  rw [List.filter_map, List.map_map]
  rfl
set_option maxRecDepth 100000 in
set_option maxHeartbeats 8000000 in
theorem chgI (a : Option Addr) (n c : Nat) (l : List (QV × QD)) (w : World) (h : PArQ w a n c l) (h1 : n ≤ 1048576) :
    Calls Tryz.prog 64 #[.slice a n c] w fun e w' => e = .returned (.int .i64 (cnt (negs (l.map Prod.snd)) (negs (l.map Prod.snd)).length : Nat)) ∧ Below w.heap.size w w' := by
  by_cases h0 : n = 0
  · have hl : l = [] := List.length_eq_zero_iff.1 (by rw [h.len]; exact h0)
    subst hl h0
    have ht := h.top
    clear h
    cases a with
    | none =>
      go_enter Tryz.func64, Tryz.ntmps64
      go_wp2_with fail
      refine (cloneN c _).mono ?_
      rintro e w1 ⟨rfl, rfl⟩
      go_wp2_with fail
      refine (delN _).mono ?_
      rintro e w2 ⟨rfl, hb⟩
      have HB := hide hb
      clear hb
      go_wp2
      go_loopw [3, 4] (fun kv iv wr => kv = .int .i64 0 ∧ iv = .int .i64 1 ∧ Hid (Below w1.heap.size w1 wr)) (fun _ _ _ => 0)
      case atStart => exact ⟨rfl, rfl, HB⟩
      case round =>
        obtain ⟨rfl, rfl, HB⟩ := hrel
        go_wp2
        go_ret
        exact ⟨rfl, unhide HB⟩
    | some ad =>
      go_enter Tryz.func64, Tryz.ntmps64
      go_wp2_with fail
      refine (cloneZ ad c _).mono ?_
      rintro e w1 ⟨a1, c1, rfl, hb1, hc1⟩
      have HB1 := hide hb1
      clear hb1
      go_wp2_with fail
      refine (delZ a1 c1 _ hc1).mono ?_
      rintro e w2 ⟨rfl, hb⟩
      have HB := hide (below_on (unhide HB1) hb)
      clear hb
      go_wp2
      go_loopw [3, 4] (fun kv iv wr => kv = .int .i64 0 ∧ iv = .int .i64 1 ∧ Hid (Below w.heap.size w wr)) (fun _ _ _ => 0)
      case atStart => exact ⟨rfl, rfl, HB⟩
      case round =>
        obtain ⟨rfl, rfl, HB⟩ := hrel
        go_wp2
        go_ret
        exact ⟨rfl, unhide HB⟩
  · obtain ⟨ad, rfl⟩ : ∃ ad, a = some ad := by
      rcases h.at_ with e | ⟨b, off, e, _⟩
      · exact absurd h.len (by rw [e]; simp; omega)
      · exact ⟨_, e⟩
    have HS := hide h
    have HN := hide h.len
    have CL := hide (fun w1 (k : PArQ w1 (some ad) n c l) => cloneP ad n c l w1 k (by omega) h1)
    obtain ⟨F, hF⟩ : ∃ F, F = negs (l.map Prod.snd) := ⟨_, rfl⟩
    rw [← hF]
    rw [negs_filter] at hF
    have HF := hide hF
    clear h hF
    go_enter Tryz.func64, Tryz.ntmps64
    go_wp2_with fail
    refine (unhide CL _ (unhide HS)).mono ?_
    rintro e w1 ⟨g, c1, rfl, hb1, hg1, hr1⟩
    have DL := hide (delI w w1 g n c1 l hr1 (unhide HN) (unhide HS).rd hb1 hg1 h1)
    clear hb1 hr1 CL
    go_wp2_with fail
    refine (unhide DL).mono ?_
    rintro e w2 ⟨m, c2, us, rfl, hb2, hu, hus, pat⟩
    have HB := hide hb2
    have PT := hide pat
    have HM := hide hu
    have sub : ∀ q ∈ us, q ∈ l := fun q hq => by rw [hus] at hq; exact (List.mem_filter.1 hq).1
    have FM : Hid (F.length = m ∧ ∀ i (h : i < us.length), F[i]? = some us[i].1.num.g) := hide ⟨by rw [unhide HF, ← hus, List.length_map]; exact hu, fun i hi => by
      rw [unhide HF, ← hus, List.getElem?_map, List.getElem?_eq_getElem hi]
      show some (us[i].2.num.g) = _
      have mem : us[i] ∈ l := sub _ (List.getElem_mem hi)
      rw [((unhide HS).rd _ mem).head.sg]⟩
    have mle : m ≤ n := by rw [← hu, hus, ← unhide HN]; exact List.length_filter_le _ _
    clear hb2 hus pat hu DL sub
    go_wp2
    go_loopw [3, 4] (fun kv iv wr => ∃ (i k : Nat), 1 ≤ i ∧ (i ≤ m ∨ i = 1) ∧ iv = .int .i64 i ∧ kv = .int .i64 k ∧ k ≤ i ∧ Hid (k = cnt F i) ∧ Hid (PAtQ wr (some ⟨g, 0, none⟩) us) ∧ Hid (Below w.heap.size w wr)) (fun _ iv _ => m - (intOf iv).toNat)
    case atStart => exact ⟨1, 0, Nat.le_refl _, .inr rfl, rfl, rfl, Nat.zero_le _, hide rfl, PT, HB⟩
    case round =>
      clear PT HB
      obtain ⟨i, k, hi, him, rfl, rfl, hk, EC, PT, HB⟩ := hrel
      by_cases hlt : i < m
      · have hlt' : (i : Int) < (m : Int) := by omega
        have j0 : (0 : Int) ≤ (i : Int) - 1 := by omega
        have j1 : (i : Int) - 1 < (m : Int) := by omega
        have j2 : ((i : Int) - 1).toNat = i - 1 := by omega
        have iw : IntKind.i64.wrap ((i : Int) - 1) = (i : Int) - 1 := by rw [IntKind.wrap_i64]; omega
        rcases unhide PT with e | ⟨b, off, ea, hb, hc⟩
        · exact absurd (unhide HM) (by rw [e]; simp; omega)
        have ex := hc i (by rw [unhide HM]; exact hlt)
        have ey := hc (i - 1) (by rw [unhide HM]; omega)
        simp only [Option.some.injEq, Addr.mk.injEq, and_true] at ea
        obtain ⟨ea1, ea2⟩ := ea
        subst ea1 ea2
        have E0 : wr.cell? ⟨g, i * 4, none⟩ = some (.bool (us[i]'(by rw [unhide HM]; exact hlt)).1.num.g) := by have := ex.1; rw [Nat.zero_add] at this; exact this
        have E1 : wr.cell? ⟨g, (i - 1) * 4, none⟩ = some (.bool (us[i - 1]'(by rw [unhide HM]; omega)).1.num.g) := by have := ey.1; rw [Nat.zero_add] at this; exact this
        have f1 := (unhide FM).2 i (by rw [unhide HM]; exact hlt)
        have f2 := (unhide FM).2 (i - 1) (by rw [unhide HM]; omega)
        have CN : Hid (cnt F (i + 1) = cnt F i + (if (us[i - 1]'(by rw [unhide HM]; omega)).1.num.g = (us[i]'(by rw [unhide HM]; exact hlt)).1.num.g then 0 else 1)) := hide (by
          obtain ⟨q, rfl⟩ : ∃ q, i = q + 1 := ⟨i - 1, by omega⟩
          show cnt F (q + 1) + (if F[q]? = F[q + 1]? then 0 else 1) = _
          rw [f1]
          simp only [Nat.add_sub_cancel] at f2 ⊢
          rw [f2]
          simp only [Option.some.injEq])
        generalize (us[i]'(by rw [unhide HM]; exact hlt)).1.num.g = gx at *
        generalize (us[i - 1]'(by rw [unhide HM]; omega)).1.num.g = gy at *
        clear ex ey f1 f2 hc
        have PT2 := hide ((unhide PT).later (Below.refl _ _).drew)
        have HB2 := hide (unhide HB).drew
        cases gx <;> cases gy
        all_goals go_upto_region 6 with fail
        all_goals go_region
        all_goals go_wp2
        all_goals go_roundw
        all_goals (first | (simp [intOf]; omega; done) | skip)
        all_goals first
          | exact ⟨i + 1, k, by omega, .inl (by omega), by go_num, rfl, by omega, hide (by rw [unhide CN, ← unhide EC]; rfl), PT2, HB2⟩
          | exact ⟨i + 1, k + 1, by omega, .inl (by omega), by go_num, by go_num, by omega, hide (by rw [unhide CN, ← unhide EC]; rfl), PT2, HB2⟩
      · have hlt' : ¬ ((i : Int) < (m : Int)) := by omega
        have EE : Hid (k = cnt F F.length) := hide (by
          rw [(unhide FM).1]
          rcases him with h | h
          · have : i = m := by omega
            rw [← this]; exact unhide EC
          · have hm1 : m = 0 ∨ m = 1 := by omega
            have h2 := unhide EC
            rw [h] at h2
            rcases hm1 with h3 | h3
            · rw [h3]; exact h2
            · rw [h3]; exact h2)
        go_wp2
        go_ret
        exact ⟨by rw [← unhide EE]; rfl, unhide HB⟩
end Go.Proofs.YtcbmecnipldcfaaGreat
namespace Go.Proofs.YtcbmecnipldcfaaGreat
open Go.RowKit
set_option linter.unusedVariables false
set_option maxRecDepth 100000
set_option linter.unusedSimpArgs false

/-- The limbs of a number. -/
def lmb (n : Nat) : List Int := if h : n = 0 then [] else ((n % 65536 : Nat) : Int) :: lmb (n / 65536)
termination_by n
decreasing_by omega
theorem lmb_zero : lmb 0 = [] := by unfold lmb; simp
theorem lmb_pos {n : Nat} (h : n ≠ 0) : lmb n = ((n % 65536 : Nat) : Int) :: lmb (n / 65536) := by rw [lmb, dif_neg h]
theorem lmb_nm : ∀ k n : Nat, n < k → Nm (lmb n) n
  | 0, n, h => absurd h (by omega)
  | k + 1, n, h => by
    by_cases h0 : n = 0
    · subst h0; rw [lmb_zero]; exact Nm.zero
    · have ih := lmb_nm k (n / 65536) (by omega)
      rw [lmb_pos h0]
      refine ⟨okL_cons.2 ⟨by omega, ih.ok⟩, ?_, ?_⟩
      · show (if trim (lmb (n / 65536)) = [] ∧ ((n % 65536 : Nat) : Int) = 0 then [] else ((n % 65536 : Nat) : Int) :: trim (lmb (n / 65536))) = _
        rw [ih.tr, if_neg]
        rintro ⟨e1, e2⟩
        have := ih.nil_iff.1 e1
        omega
      · show ((n % 65536 : Nat) : Int) + 65536 * val (lmb (n / 65536)) = n
        rw [ih.v]
        omega
theorem lmb_ok (n : Nat) : Nm (lmb n) n := lmb_nm (n + 1) n (Nat.lt_succ_self n)
def qD (q : Rat) : QD := ⟨⟨decide ((rp q).1 < 0), lmb (rp q).1.natAbs⟩, ⟨decide ((rp q).2 < 0), lmb (rp q).2.natAbs⟩⟩
theorem qD_is (q : Rat) : IsD (rp q) (qD q) := ⟨rfl, lmb_ok _, rfl, lmb_ok _⟩
theorem qDs_is : ∀ qs : List Rat, IsL (rps qs) (qs.map qD)
  | [] => trivial
  | q :: t => ⟨qD_is q, qDs_is t⟩
def shE (ds : List QD) (d : QD) : List QD := (hS (qR d) (ds.map qR)).map qD
theorem shE_is (ds : List QD) (d : QD) : IsL (shC ds d) (shE ds d) := qDs_is _
theorem ansE {ds es : List QD} {d : QD} {ok : Bool} (h : AnsP true (shC ds d) es ok) : ok = gP (shE ds d) ∧ (gP (shE ds d) = true → es = shE ds d) := by
  rcases h with ⟨_, fs, hf, h | h⟩ | ⟨e, _⟩
  · have := hf.same (shE_is ds d)
    subst this
    exact ⟨by rw [h.1, h.2.1], fun _ => h.2.2⟩
  · have := hf.same (shE_is ds d)
    subst this
    exact ⟨by rw [h.1, h.2.1], fun e => by rw [h.1] at e; cases e⟩
  · cases e
/-- Places in their order. -/
def pO2 (d e : QD) : Bool := (pl d && pl e) && decide (nQ d * dQ e ≤ nQ e * dQ d)
def bdP (ds : List QD) (d e : QD) : Bool := rP ds && pO2 d e
def bdOk (ds : List QD) (d e : QD) : Bool := bdP ds d e && (gP (shE ds d) && gP (shE ds e))
def cn (ds : List QD) : Int := ((cnt (negs ds) (negs ds).length : Nat) : Int)
def bdN (ds : List QD) (d e : QD) : Int := if bdOk ds d e = true then cn (shE ds d) - cn (shE ds e) else 0
theorem cnt_le7 (l : List Bool) : ∀ k, cnt l k ≤ k
  | 0 => Nat.le_refl _
  | 1 => Nat.zero_le _
  | k + 2 => by
    have := cnt_le7 l (k + 1)
    show cnt l (k + 1) + (if l[k]? = l[k + 1]? then 0 else 1) ≤ k + 2
    split <;> omega
theorem cn_le {ds : List QD} (h : ds.length ≤ 7) : 0 ≤ cn ds ∧ cn ds ≤ 7 := by
  unfold cn
  have h1 := cnt_le7 (negs ds) (negs ds).length
  have h2 : (negs ds).length ≤ ds.length := by unfold negs; rw [List.length_map]; exact List.length_filter_le _ _
  omega
theorem pl_gC {d : QD} (h : pl d = true) : gC d = true ∧ gQ d = true := by
  unfold pl sm4 at h
  unfold gC sm
  simp only [Bool.and_eq_true, decide_eq_true_eq] at h ⊢
  exact ⟨⟨⟨by omega, by omega⟩, h.2⟩, h.2⟩
theorem rP_gP {ds : List QD} (h : rP ds = true) : gP ds = true := by unfold rP at h; simp only [Bool.and_eq_true] at h; exact h.2
theorem bdP_parts {ds : List QD} {d e : QD} (h : bdP ds d e = true) : gP ds = true ∧ gC d = true ∧ gC e = true := by
  unfold bdP pO2 at h
  simp only [Bool.and_eq_true] at h
  exact ⟨rP_gP h.1, (pl_gC h.2.1.1).1, (pl_gC h.2.1.2).1⟩
theorem cmpZ_le1b {A B : Int} (h : A ≤ B) : decide (cmpZ A B ≤ 0) = true := by rw [cmpZ_le]; exact decide_eq_true h
theorem cmpZ_le0b {A B : Int} (h : ¬ A ≤ B) : decide (cmpZ A B ≤ 0) = false := by rw [cmpZ_le]; exact decide_eq_false h

set_option maxHeartbeats 4000000 in
theorem placesI (x y : QV) (d e : QD) (w : World) (hx : AllAr w [(x.num, d.num), (x.den, d.den)]) (hy : AllAr w [(y.num, e.num), (y.den, e.den)]) : Calls Tryz.prog 63 #[.agg #[.bool x.num.g, .slice x.num.a x.num.n x.num.c, .bool x.den.g, .slice x.den.a x.den.n x.den.c], .agg #[.bool y.num.g, .slice y.num.a y.num.n y.num.c, .bool y.den.g, .slice y.den.a y.den.n y.den.c]] w fun r w' => r = .returned (.bool (pO2 d e)) ∧ Below w.heap.size w w' := by
  have H1 := hide hx
  have H2 := hide hy
  clear hx hy
  cases h1 : pl d
  · have C1 := hide (fun w1 (k : AllAr w1 [(x.num, d.num), (x.den, d.den)]) => placeI x d w1 k)
    rw [h1] at C1
    have PN : Hid (pO2 d e = false) := hide (by unfold pO2; rw [h1, Bool.false_and, Bool.false_and])
    clear h1
    have B0 := hide (show Below w.heap.size w ((w.alloc (.cells #[.bool x.num.g, .slice x.num.a x.num.n x.num.c, .bool x.den.g, .slice x.den.a x.den.n x.den.c] 32)).alloc (.cells #[.bool y.num.g, .slice y.num.a y.num.n y.num.c, .bool y.den.g, .slice y.den.a y.den.n y.den.c] 32)) from (((Below.refl _ _).alloc (by simp) _).alloc (by simp) _))
    go_enter Tryz.func63, Tryz.ntmps63
    go_wp2_with fail
    refine (unhide C1 _ ((unhide H1).later (unhide B0))).mono ?_
    rintro e w1 ⟨rfl, hb⟩
    have HB := hide (below_on (unhide B0) hb)
    clear hb
    go_wp2
    go_ret
    exact ⟨by rw [unhide PN]; rfl, unhide HB⟩
  · cases h2 : pl e
    · have C1 := hide (fun w1 (k : AllAr w1 [(x.num, d.num), (x.den, d.den)]) => placeI x d w1 k)
      rw [h1] at C1
      have C2 := hide (fun w1 (k : AllAr w1 [(y.num, e.num), (y.den, e.den)]) => placeI y e w1 k)
      rw [h2] at C2
      have PN : Hid (pO2 d e = false) := hide (by unfold pO2; rw [h1, h2, Bool.and_false, Bool.false_and])
      clear h1 h2
      have B0 := hide (show Below w.heap.size w ((w.alloc (.cells #[.bool x.num.g, .slice x.num.a x.num.n x.num.c, .bool x.den.g, .slice x.den.a x.den.n x.den.c] 32)).alloc (.cells #[.bool y.num.g, .slice y.num.a y.num.n y.num.c, .bool y.den.g, .slice y.den.a y.den.n y.den.c] 32)) from (((Below.refl _ _).alloc (by simp) _).alloc (by simp) _))
      go_enter Tryz.func63, Tryz.ntmps63
      go_wp2_with fail
      refine (unhide C1 _ ((unhide H1).later (unhide B0))).mono ?_
      rintro e w1 ⟨rfl, hb⟩
      have k1_0 : w1.cell? ⟨w.heap.size + 1, 0, none⟩ = some (.bool y.num.g) := cell_later hb (by simp [go_sem])
      have k1_1 : w1.cell? ⟨w.heap.size + 1, 1, none⟩ = some (.slice y.num.a y.num.n y.num.c) := cell_later hb (by simp [go_sem])
      have k1_2 : w1.cell? ⟨w.heap.size + 1, 2, none⟩ = some (.bool y.den.g) := cell_later hb (by simp [go_sem])
      have k1_3 : w1.cell? ⟨w.heap.size + 1, 3, none⟩ = some (.slice y.den.a y.den.n y.den.c) := cell_later hb (by simp [go_sem])
      have HB := hide (below_on (unhide B0) hb)
      clear hb
      go_wp2_with fail
      refine (unhide C2 _ ((unhide H2).later (unhide HB))).mono ?_
      rintro e w2 ⟨rfl, hb⟩
      clear k1_0 k1_1 k1_2 k1_3
      replace HB := hide (below_on (unhide HB) hb)
      clear hb
      go_wp2
      go_ret
      exact ⟨by rw [unhide PN]; rfl, unhide HB⟩
    · by_cases hc : nQ d * dQ e ≤ nQ e * dQ d
      · have C1 := hide (fun w1 (k : AllAr w1 [(x.num, d.num), (x.den, d.den)]) => placeI x d w1 k)
        rw [h1] at C1
        have C2 := hide (fun w1 (k : AllAr w1 [(y.num, e.num), (y.den, e.den)]) => placeI y e w1 k)
        rw [h2] at C2
        have PN : Hid (pO2 d e = true) := hide (by unfold pO2; rw [h1, h2, decide_eq_true hc]; rfl)
        have t1 := cmpZ_le1b hc
        have J1 := hide (isGood_of (unhide H1) (pl_gC h1).2)
        have J2 := hide (isGood_of (unhide H2) (pl_gC h2).2)
        clear h1 h2 hc
        have B0 := hide (show Below w.heap.size w ((w.alloc (.cells #[.bool x.num.g, .slice x.num.a x.num.n x.num.c, .bool x.den.g, .slice x.den.a x.den.n x.den.c] 32)).alloc (.cells #[.bool y.num.g, .slice y.num.a y.num.n y.num.c, .bool y.den.g, .slice y.den.a y.den.n y.den.c] 32)) from (((Below.refl _ _).alloc (by simp) _).alloc (by simp) _))
        go_enter Tryz.func63, Tryz.ntmps63
        go_wp2_with fail
        refine (unhide C1 _ ((unhide H1).later (unhide B0))).mono ?_
        rintro e w1 ⟨rfl, hb⟩
        have k0_0 : w1.cell? ⟨w.heap.size, 0, none⟩ = some (.bool x.num.g) := cell_later hb (by simp [go_sem])
        have k0_1 : w1.cell? ⟨w.heap.size, 1, none⟩ = some (.slice x.num.a x.num.n x.num.c) := cell_later hb (by simp [go_sem])
        have k0_2 : w1.cell? ⟨w.heap.size, 2, none⟩ = some (.bool x.den.g) := cell_later hb (by simp [go_sem])
        have k0_3 : w1.cell? ⟨w.heap.size, 3, none⟩ = some (.slice x.den.a x.den.n x.den.c) := cell_later hb (by simp [go_sem])
        have k1_0 : w1.cell? ⟨w.heap.size + 1, 0, none⟩ = some (.bool y.num.g) := cell_later hb (by simp [go_sem])
        have k1_1 : w1.cell? ⟨w.heap.size + 1, 1, none⟩ = some (.slice y.num.a y.num.n y.num.c) := cell_later hb (by simp [go_sem])
        have k1_2 : w1.cell? ⟨w.heap.size + 1, 2, none⟩ = some (.bool y.den.g) := cell_later hb (by simp [go_sem])
        have k1_3 : w1.cell? ⟨w.heap.size + 1, 3, none⟩ = some (.slice y.den.a y.den.n y.den.c) := cell_later hb (by simp [go_sem])
        have HB := hide (below_on (unhide B0) hb)
        clear hb
        go_wp2_with fail
        refine (unhide C2 _ ((unhide H2).later (unhide HB))).mono ?_
        rintro e w2 ⟨rfl, hb⟩
        replace k0_0 := cell_later hb k0_0
        replace k0_1 := cell_later hb k0_1
        replace k0_2 := cell_later hb k0_2
        replace k0_3 := cell_later hb k0_3
        replace k1_0 := cell_later hb k1_0
        replace k1_1 := cell_later hb k1_1
        replace k1_2 := cell_later hb k1_2
        replace k1_3 := cell_later hb k1_3
        replace HB := hide (below_on (unhide HB) hb)
        clear hb
        go_wp2_with fail
        refine (cmpQI x y _ _ _ _ _ ((unhide J1).is.later (unhide HB)) ((unhide J2).is.later (unhide HB)) ((unhide J1).kn.mono (by omega)) ((unhide J1).kd.mono (by omega)) ((unhide J2).kn.mono (by omega)) ((unhide J2).kd.mono (by omega))).mono ?_
        rintro e w3 ⟨rfl, hb⟩
        clear k0_0 k0_1 k0_2 k0_3 k1_0 k1_1 k1_2 k1_3
        replace HB := hide (below_on (unhide HB) hb)
        clear hb
        go_wp2
        go_ret
        exact ⟨by rw [unhide PN]; rfl, unhide HB⟩
      · have C1 := hide (fun w1 (k : AllAr w1 [(x.num, d.num), (x.den, d.den)]) => placeI x d w1 k)
        rw [h1] at C1
        have C2 := hide (fun w1 (k : AllAr w1 [(y.num, e.num), (y.den, e.den)]) => placeI y e w1 k)
        rw [h2] at C2
        have PN : Hid (pO2 d e = false) := hide (by unfold pO2; rw [h1, h2, decide_eq_false hc]; rfl)
        have t1 := cmpZ_le0b hc
        have J1 := hide (isGood_of (unhide H1) (pl_gC h1).2)
        have J2 := hide (isGood_of (unhide H2) (pl_gC h2).2)
        clear h1 h2 hc
        have B0 := hide (show Below w.heap.size w ((w.alloc (.cells #[.bool x.num.g, .slice x.num.a x.num.n x.num.c, .bool x.den.g, .slice x.den.a x.den.n x.den.c] 32)).alloc (.cells #[.bool y.num.g, .slice y.num.a y.num.n y.num.c, .bool y.den.g, .slice y.den.a y.den.n y.den.c] 32)) from (((Below.refl _ _).alloc (by simp) _).alloc (by simp) _))
        go_enter Tryz.func63, Tryz.ntmps63
        go_wp2_with fail
        refine (unhide C1 _ ((unhide H1).later (unhide B0))).mono ?_
        rintro e w1 ⟨rfl, hb⟩
        have k0_0 : w1.cell? ⟨w.heap.size, 0, none⟩ = some (.bool x.num.g) := cell_later hb (by simp [go_sem])
        have k0_1 : w1.cell? ⟨w.heap.size, 1, none⟩ = some (.slice x.num.a x.num.n x.num.c) := cell_later hb (by simp [go_sem])
        have k0_2 : w1.cell? ⟨w.heap.size, 2, none⟩ = some (.bool x.den.g) := cell_later hb (by simp [go_sem])
        have k0_3 : w1.cell? ⟨w.heap.size, 3, none⟩ = some (.slice x.den.a x.den.n x.den.c) := cell_later hb (by simp [go_sem])
        have k1_0 : w1.cell? ⟨w.heap.size + 1, 0, none⟩ = some (.bool y.num.g) := cell_later hb (by simp [go_sem])
        have k1_1 : w1.cell? ⟨w.heap.size + 1, 1, none⟩ = some (.slice y.num.a y.num.n y.num.c) := cell_later hb (by simp [go_sem])
        have k1_2 : w1.cell? ⟨w.heap.size + 1, 2, none⟩ = some (.bool y.den.g) := cell_later hb (by simp [go_sem])
        have k1_3 : w1.cell? ⟨w.heap.size + 1, 3, none⟩ = some (.slice y.den.a y.den.n y.den.c) := cell_later hb (by simp [go_sem])
        have HB := hide (below_on (unhide B0) hb)
        clear hb
        go_wp2_with fail
        refine (unhide C2 _ ((unhide H2).later (unhide HB))).mono ?_
        rintro e w2 ⟨rfl, hb⟩
        replace k0_0 := cell_later hb k0_0
        replace k0_1 := cell_later hb k0_1
        replace k0_2 := cell_later hb k0_2
        replace k0_3 := cell_later hb k0_3
        replace k1_0 := cell_later hb k1_0
        replace k1_1 := cell_later hb k1_1
        replace k1_2 := cell_later hb k1_2
        replace k1_3 := cell_later hb k1_3
        replace HB := hide (below_on (unhide HB) hb)
        clear hb
        go_wp2_with fail
        refine (cmpQI x y _ _ _ _ _ ((unhide J1).is.later (unhide HB)) ((unhide J2).is.later (unhide HB)) ((unhide J1).kn.mono (by omega)) ((unhide J1).kd.mono (by omega)) ((unhide J2).kn.mono (by omega)) ((unhide J2).kd.mono (by omega))).mono ?_
        rintro e w3 ⟨rfl, hb⟩
        clear k0_0 k0_1 k0_2 k0_3 k1_0 k1_1 k1_2 k1_3
        replace HB := hide (below_on (unhide HB) hb)
        clear hb
        go_wp2
        go_ret
        exact ⟨by rw [unhide PN]; rfl, unhide HB⟩

set_option maxHeartbeats 4000000 in
theorem betwS (a : Option Addr) (n c : Nat) (l : List (QV × QD)) (x y : QV) (d e : QD) (w : World) (h : PArQ w a n c l) (hx : AllAr w [(x.num, d.num), (x.den, d.den)]) (hy : AllAr w [(y.num, e.num), (y.den, e.den)]) : Calls Tryz.prog 60 #[.slice a n c, .agg #[.bool x.num.g, .slice x.num.a x.num.n x.num.c, .bool x.den.g, .slice x.den.a x.den.n x.den.c], .agg #[.bool y.num.g, .slice y.num.a y.num.n y.num.c, .bool y.den.g, .slice y.den.a y.den.n y.den.c]] w fun r w' => r = .returned (.bool (bdP (l.map Prod.snd) d e)) ∧ Below w.heap.size w w' := by
  have H1 := hide hx
  have H2 := hide hy
  have H0 := hide h
  clear hx hy h
  cases hr : rP (l.map Prod.snd)
  · have CR := hide (fun w1 (k : PArQ w1 a n c l) => RootsPS a n c l w1 k)
    rw [hr] at CR
    have PN : Hid (bdP (l.map Prod.snd) d e = false) := hide (by unfold bdP; rw [hr]; rfl)
    clear hr
    have B0 := hide (show Below w.heap.size w ((w.alloc (.cells #[.bool x.num.g, .slice x.num.a x.num.n x.num.c, .bool x.den.g, .slice x.den.a x.den.n x.den.c] 32)).alloc (.cells #[.bool y.num.g, .slice y.num.a y.num.n y.num.c, .bool y.den.g, .slice y.den.a y.den.n y.den.c] 32)) from (((Below.refl _ _).alloc (by simp) _).alloc (by simp) _))
    go_enter Tryz.func60, Tryz.ntmps60
    go_wp2_with fail
    refine (unhide CR _ ((unhide H0).later (unhide B0))).mono ?_
    rintro e w0 ⟨rfl, hb⟩
    have HB := hide (below_on (unhide B0) hb)
    clear hb
    go_wp2
    go_ret
    exact ⟨by rw [unhide PN]; rfl, unhide HB⟩
  · cases h1 : pl d
    · have CR := hide (fun w1 (k : PArQ w1 a n c l) => RootsPS a n c l w1 k)
      rw [hr] at CR
      have C1 := hide (fun w1 (k : AllAr w1 [(x.num, d.num), (x.den, d.den)]) => placeSp x d w1 k)
      rw [h1] at C1
      have PN : Hid (bdP (l.map Prod.snd) d e = false) := hide (by unfold bdP pO2; rw [hr, h1, Bool.false_and, Bool.false_and, Bool.and_false])
      clear hr h1
      have B0 := hide (show Below w.heap.size w ((w.alloc (.cells #[.bool x.num.g, .slice x.num.a x.num.n x.num.c, .bool x.den.g, .slice x.den.a x.den.n x.den.c] 32)).alloc (.cells #[.bool y.num.g, .slice y.num.a y.num.n y.num.c, .bool y.den.g, .slice y.den.a y.den.n y.den.c] 32)) from (((Below.refl _ _).alloc (by simp) _).alloc (by simp) _))
      go_enter Tryz.func60, Tryz.ntmps60
      go_wp2_with fail
      refine (unhide CR _ ((unhide H0).later (unhide B0))).mono ?_
      rintro e w0 ⟨rfl, hb⟩
      have k0_0 : w0.cell? ⟨w.heap.size, 0, none⟩ = some (.bool x.num.g) := cell_later hb (by simp [go_sem])
      have k0_1 : w0.cell? ⟨w.heap.size, 1, none⟩ = some (.slice x.num.a x.num.n x.num.c) := cell_later hb (by simp [go_sem])
      have k0_2 : w0.cell? ⟨w.heap.size, 2, none⟩ = some (.bool x.den.g) := cell_later hb (by simp [go_sem])
      have k0_3 : w0.cell? ⟨w.heap.size, 3, none⟩ = some (.slice x.den.a x.den.n x.den.c) := cell_later hb (by simp [go_sem])
      have k1_0 : w0.cell? ⟨w.heap.size + 1, 0, none⟩ = some (.bool y.num.g) := cell_later hb (by simp [go_sem])
      have k1_1 : w0.cell? ⟨w.heap.size + 1, 1, none⟩ = some (.slice y.num.a y.num.n y.num.c) := cell_later hb (by simp [go_sem])
      have k1_2 : w0.cell? ⟨w.heap.size + 1, 2, none⟩ = some (.bool y.den.g) := cell_later hb (by simp [go_sem])
      have k1_3 : w0.cell? ⟨w.heap.size + 1, 3, none⟩ = some (.slice y.den.a y.den.n y.den.c) := cell_later hb (by simp [go_sem])
      have HB := hide (below_on (unhide B0) hb)
      clear hb
      go_wp2_with fail
      refine (unhide C1 _ ((unhide H1).later (unhide HB))).mono ?_
      rintro e w1 ⟨rfl, hb⟩
      clear k0_0 k0_1 k0_2 k0_3 k1_0 k1_1 k1_2 k1_3
      replace HB := hide (below_on (unhide HB) hb)
      clear hb
      go_wp2
      go_ret
      exact ⟨by rw [unhide PN]; rfl, unhide HB⟩
    · cases h2 : pl e
      · have CR := hide (fun w1 (k : PArQ w1 a n c l) => RootsPS a n c l w1 k)
        rw [hr] at CR
        have C1 := hide (fun w1 (k : AllAr w1 [(x.num, d.num), (x.den, d.den)]) => placeSp x d w1 k)
        rw [h1] at C1
        have C2 := hide (fun w1 (k : AllAr w1 [(y.num, e.num), (y.den, e.den)]) => placeSp y e w1 k)
        rw [h2] at C2
        have PN : Hid (bdP (l.map Prod.snd) d e = false) := hide (by unfold bdP pO2; rw [hr, h1, h2, Bool.and_false, Bool.false_and, Bool.and_false])
        clear hr h1 h2
        have B0 := hide (show Below w.heap.size w ((w.alloc (.cells #[.bool x.num.g, .slice x.num.a x.num.n x.num.c, .bool x.den.g, .slice x.den.a x.den.n x.den.c] 32)).alloc (.cells #[.bool y.num.g, .slice y.num.a y.num.n y.num.c, .bool y.den.g, .slice y.den.a y.den.n y.den.c] 32)) from (((Below.refl _ _).alloc (by simp) _).alloc (by simp) _))
        go_enter Tryz.func60, Tryz.ntmps60
        go_wp2_with fail
        refine (unhide CR _ ((unhide H0).later (unhide B0))).mono ?_
        rintro e w0 ⟨rfl, hb⟩
        have k0_0 : w0.cell? ⟨w.heap.size, 0, none⟩ = some (.bool x.num.g) := cell_later hb (by simp [go_sem])
        have k0_1 : w0.cell? ⟨w.heap.size, 1, none⟩ = some (.slice x.num.a x.num.n x.num.c) := cell_later hb (by simp [go_sem])
        have k0_2 : w0.cell? ⟨w.heap.size, 2, none⟩ = some (.bool x.den.g) := cell_later hb (by simp [go_sem])
        have k0_3 : w0.cell? ⟨w.heap.size, 3, none⟩ = some (.slice x.den.a x.den.n x.den.c) := cell_later hb (by simp [go_sem])
        have k1_0 : w0.cell? ⟨w.heap.size + 1, 0, none⟩ = some (.bool y.num.g) := cell_later hb (by simp [go_sem])
        have k1_1 : w0.cell? ⟨w.heap.size + 1, 1, none⟩ = some (.slice y.num.a y.num.n y.num.c) := cell_later hb (by simp [go_sem])
        have k1_2 : w0.cell? ⟨w.heap.size + 1, 2, none⟩ = some (.bool y.den.g) := cell_later hb (by simp [go_sem])
        have k1_3 : w0.cell? ⟨w.heap.size + 1, 3, none⟩ = some (.slice y.den.a y.den.n y.den.c) := cell_later hb (by simp [go_sem])
        have HB := hide (below_on (unhide B0) hb)
        clear hb
        go_wp2_with fail
        refine (unhide C1 _ ((unhide H1).later (unhide HB))).mono ?_
        rintro e w1 ⟨rfl, hb⟩
        replace k1_0 := cell_later hb k1_0
        replace k1_1 := cell_later hb k1_1
        replace k1_2 := cell_later hb k1_2
        replace k1_3 := cell_later hb k1_3
        clear k0_0 k0_1 k0_2 k0_3
        replace HB := hide (below_on (unhide HB) hb)
        clear hb
        go_wp2_with fail
        refine (unhide C2 _ ((unhide H2).later (unhide HB))).mono ?_
        rintro e w2 ⟨rfl, hb⟩
        clear k1_0 k1_1 k1_2 k1_3
        replace HB := hide (below_on (unhide HB) hb)
        clear hb
        go_wp2
        go_ret
        exact ⟨by rw [unhide PN]; rfl, unhide HB⟩
      · by_cases hc : nQ d * dQ e ≤ nQ e * dQ d
        · have CR := hide (fun w1 (k : PArQ w1 a n c l) => RootsPS a n c l w1 k)
          rw [hr] at CR
          have C1 := hide (fun w1 (k : AllAr w1 [(x.num, d.num), (x.den, d.den)]) => placeSp x d w1 k)
          rw [h1] at C1
          have C2 := hide (fun w1 (k : AllAr w1 [(y.num, e.num), (y.den, e.den)]) => placeSp y e w1 k)
          rw [h2] at C2
          have PN : Hid (bdP (l.map Prod.snd) d e = true) := hide (by unfold bdP pO2; rw [hr, h1, h2, decide_eq_true hc]; rfl)
          have t1 := cmpZ_le1b hc
          have J1 := hide (isGood_of (unhide H1) (pl_gC h1).2)
          have J2 := hide (isGood_of (unhide H2) (pl_gC h2).2)
          clear hr h1 h2 hc
          have B0 := hide (show Below w.heap.size w ((w.alloc (.cells #[.bool x.num.g, .slice x.num.a x.num.n x.num.c, .bool x.den.g, .slice x.den.a x.den.n x.den.c] 32)).alloc (.cells #[.bool y.num.g, .slice y.num.a y.num.n y.num.c, .bool y.den.g, .slice y.den.a y.den.n y.den.c] 32)) from (((Below.refl _ _).alloc (by simp) _).alloc (by simp) _))
          go_enter Tryz.func60, Tryz.ntmps60
          go_wp2_with fail
          refine (unhide CR _ ((unhide H0).later (unhide B0))).mono ?_
          rintro e w0 ⟨rfl, hb⟩
          have k0_0 : w0.cell? ⟨w.heap.size, 0, none⟩ = some (.bool x.num.g) := cell_later hb (by simp [go_sem])
          have k0_1 : w0.cell? ⟨w.heap.size, 1, none⟩ = some (.slice x.num.a x.num.n x.num.c) := cell_later hb (by simp [go_sem])
          have k0_2 : w0.cell? ⟨w.heap.size, 2, none⟩ = some (.bool x.den.g) := cell_later hb (by simp [go_sem])
          have k0_3 : w0.cell? ⟨w.heap.size, 3, none⟩ = some (.slice x.den.a x.den.n x.den.c) := cell_later hb (by simp [go_sem])
          have k1_0 : w0.cell? ⟨w.heap.size + 1, 0, none⟩ = some (.bool y.num.g) := cell_later hb (by simp [go_sem])
          have k1_1 : w0.cell? ⟨w.heap.size + 1, 1, none⟩ = some (.slice y.num.a y.num.n y.num.c) := cell_later hb (by simp [go_sem])
          have k1_2 : w0.cell? ⟨w.heap.size + 1, 2, none⟩ = some (.bool y.den.g) := cell_later hb (by simp [go_sem])
          have k1_3 : w0.cell? ⟨w.heap.size + 1, 3, none⟩ = some (.slice y.den.a y.den.n y.den.c) := cell_later hb (by simp [go_sem])
          have HB := hide (below_on (unhide B0) hb)
          clear hb
          go_wp2_with fail
          refine (unhide C1 _ ((unhide H1).later (unhide HB))).mono ?_
          rintro e w1 ⟨rfl, hb⟩
          replace k0_0 := cell_later hb k0_0
          replace k0_1 := cell_later hb k0_1
          replace k0_2 := cell_later hb k0_2
          replace k0_3 := cell_later hb k0_3
          replace k1_0 := cell_later hb k1_0
          replace k1_1 := cell_later hb k1_1
          replace k1_2 := cell_later hb k1_2
          replace k1_3 := cell_later hb k1_3
          replace HB := hide (below_on (unhide HB) hb)
          clear hb
          go_wp2_with fail
          refine (unhide C2 _ ((unhide H2).later (unhide HB))).mono ?_
          rintro e w2 ⟨rfl, hb⟩
          replace k0_0 := cell_later hb k0_0
          replace k0_1 := cell_later hb k0_1
          replace k0_2 := cell_later hb k0_2
          replace k0_3 := cell_later hb k0_3
          replace k1_0 := cell_later hb k1_0
          replace k1_1 := cell_later hb k1_1
          replace k1_2 := cell_later hb k1_2
          replace k1_3 := cell_later hb k1_3
          replace HB := hide (below_on (unhide HB) hb)
          clear hb
          go_wp2_with fail
          refine (cmpQS x y _ _ _ _ _ ((unhide J1).is.later (unhide HB)) ((unhide J2).is.later (unhide HB)) ((unhide J1).kn.mono (by omega)) ((unhide J1).kd.mono (by omega)) ((unhide J2).kn.mono (by omega)) ((unhide J2).kd.mono (by omega))).mono ?_
          rintro e w3 ⟨rfl, hb⟩
          clear k0_0 k0_1 k0_2 k0_3 k1_0 k1_1 k1_2 k1_3
          replace HB := hide (below_on (unhide HB) hb)
          clear hb
          go_wp2
          go_ret
          exact ⟨by rw [unhide PN]; rfl, unhide HB⟩
        · have CR := hide (fun w1 (k : PArQ w1 a n c l) => RootsPS a n c l w1 k)
          rw [hr] at CR
          have C1 := hide (fun w1 (k : AllAr w1 [(x.num, d.num), (x.den, d.den)]) => placeSp x d w1 k)
          rw [h1] at C1
          have C2 := hide (fun w1 (k : AllAr w1 [(y.num, e.num), (y.den, e.den)]) => placeSp y e w1 k)
          rw [h2] at C2
          have PN : Hid (bdP (l.map Prod.snd) d e = false) := hide (by unfold bdP pO2; rw [hr, h1, h2, decide_eq_false hc]; rfl)
          have t1 := cmpZ_le0b hc
          have J1 := hide (isGood_of (unhide H1) (pl_gC h1).2)
          have J2 := hide (isGood_of (unhide H2) (pl_gC h2).2)
          clear hr h1 h2 hc
          have B0 := hide (show Below w.heap.size w ((w.alloc (.cells #[.bool x.num.g, .slice x.num.a x.num.n x.num.c, .bool x.den.g, .slice x.den.a x.den.n x.den.c] 32)).alloc (.cells #[.bool y.num.g, .slice y.num.a y.num.n y.num.c, .bool y.den.g, .slice y.den.a y.den.n y.den.c] 32)) from (((Below.refl _ _).alloc (by simp) _).alloc (by simp) _))
          go_enter Tryz.func60, Tryz.ntmps60
          go_wp2_with fail
          refine (unhide CR _ ((unhide H0).later (unhide B0))).mono ?_
          rintro e w0 ⟨rfl, hb⟩
          have k0_0 : w0.cell? ⟨w.heap.size, 0, none⟩ = some (.bool x.num.g) := cell_later hb (by simp [go_sem])
          have k0_1 : w0.cell? ⟨w.heap.size, 1, none⟩ = some (.slice x.num.a x.num.n x.num.c) := cell_later hb (by simp [go_sem])
          have k0_2 : w0.cell? ⟨w.heap.size, 2, none⟩ = some (.bool x.den.g) := cell_later hb (by simp [go_sem])
          have k0_3 : w0.cell? ⟨w.heap.size, 3, none⟩ = some (.slice x.den.a x.den.n x.den.c) := cell_later hb (by simp [go_sem])
          have k1_0 : w0.cell? ⟨w.heap.size + 1, 0, none⟩ = some (.bool y.num.g) := cell_later hb (by simp [go_sem])
          have k1_1 : w0.cell? ⟨w.heap.size + 1, 1, none⟩ = some (.slice y.num.a y.num.n y.num.c) := cell_later hb (by simp [go_sem])
          have k1_2 : w0.cell? ⟨w.heap.size + 1, 2, none⟩ = some (.bool y.den.g) := cell_later hb (by simp [go_sem])
          have k1_3 : w0.cell? ⟨w.heap.size + 1, 3, none⟩ = some (.slice y.den.a y.den.n y.den.c) := cell_later hb (by simp [go_sem])
          have HB := hide (below_on (unhide B0) hb)
          clear hb
          go_wp2_with fail
          refine (unhide C1 _ ((unhide H1).later (unhide HB))).mono ?_
          rintro e w1 ⟨rfl, hb⟩
          replace k0_0 := cell_later hb k0_0
          replace k0_1 := cell_later hb k0_1
          replace k0_2 := cell_later hb k0_2
          replace k0_3 := cell_later hb k0_3
          replace k1_0 := cell_later hb k1_0
          replace k1_1 := cell_later hb k1_1
          replace k1_2 := cell_later hb k1_2
          replace k1_3 := cell_later hb k1_3
          replace HB := hide (below_on (unhide HB) hb)
          clear hb
          go_wp2_with fail
          refine (unhide C2 _ ((unhide H2).later (unhide HB))).mono ?_
          rintro e w2 ⟨rfl, hb⟩
          replace k0_0 := cell_later hb k0_0
          replace k0_1 := cell_later hb k0_1
          replace k0_2 := cell_later hb k0_2
          replace k0_3 := cell_later hb k0_3
          replace k1_0 := cell_later hb k1_0
          replace k1_1 := cell_later hb k1_1
          replace k1_2 := cell_later hb k1_2
          replace k1_3 := cell_later hb k1_3
          replace HB := hide (below_on (unhide HB) hb)
          clear hb
          go_wp2_with fail
          refine (cmpQS x y _ _ _ _ _ ((unhide J1).is.later (unhide HB)) ((unhide J2).is.later (unhide HB)) ((unhide J1).kn.mono (by omega)) ((unhide J1).kd.mono (by omega)) ((unhide J2).kn.mono (by omega)) ((unhide J2).kd.mono (by omega))).mono ?_
          rintro e w3 ⟨rfl, hb⟩
          clear k0_0 k0_1 k0_2 k0_3 k1_0 k1_1 k1_2 k1_3
          replace HB := hide (below_on (unhide HB) hb)
          clear hb
          go_wp2
          go_ret
          exact ⟨by rw [unhide PN]; rfl, unhide HB⟩

set_option maxHeartbeats 8000000 in
theorem BudI (a : Option Addr) (n c : Nat) (l : List (QV × QD)) (x y : QV) (d e : QD) (w : World) (h : PArQ w a n c l) (hx : AllAr w [(x.num, d.num), (x.den, d.den)]) (hy : AllAr w [(y.num, e.num), (y.den, e.den)]) : Calls Tryz.prog 25 #[.slice a n c, .agg #[.bool x.num.g, .slice x.num.a x.num.n x.num.c, .bool x.den.g, .slice x.den.a x.den.n x.den.c], .agg #[.bool y.num.g, .slice y.num.a y.num.n y.num.c, .bool y.den.g, .slice y.den.a y.den.n y.den.c]] w fun r w' => r = .returned (.tuple #[.int .i64 (bdN (l.map Prod.snd) d e), .bool (bdOk (l.map Prod.snd) d e)]) ∧ Below w.heap.size w w' := by
  have H0 := hide h
  have H1 := hide hx
  have H2 := hide hy
  clear h hx hy
  cases hr : rP (l.map Prod.snd)
  · have CR := hide (fun w1 (k : PArQ w1 a n c l) => RootsPI a n c l w1 k)
    rw [hr] at CR
    have ZN : Hid (bdN (l.map Prod.snd) d e = 0 ∧ bdOk (l.map Prod.snd) d e = false) := hide (by have h : bdOk (l.map Prod.snd) d e = false := (by unfold bdOk bdP; rw [hr]; rfl); exact ⟨by unfold bdN; rw [h]; rfl, h⟩)
    clear hr
    have B0 := hide (show Below w.heap.size w ((w.alloc (.cells #[.bool x.num.g, .slice x.num.a x.num.n x.num.c, .bool x.den.g, .slice x.den.a x.den.n x.den.c] 32)).alloc (.cells #[.bool y.num.g, .slice y.num.a y.num.n y.num.c, .bool y.den.g, .slice y.den.a y.den.n y.den.c] 32)) from (((Below.refl _ _).alloc (by simp) _).alloc (by simp) _))
    go_enter Tryz.func25, Tryz.ntmps25
    go_wp2_with fail
    refine (unhide CR _ ((unhide H0).later (unhide B0))).mono ?_
    rintro e w0 ⟨rfl, hb⟩
    have HB := hide (below_on (unhide B0) hb)
    clear hb
    go_wp2
    go_ret2
    exact ⟨by rw [(unhide ZN).1, (unhide ZN).2]; rfl, unhide HB⟩
  · cases ho : pO2 d e
    · have CR := hide (fun w1 (k : PArQ w1 a n c l) => RootsPI a n c l w1 k)
      rw [hr] at CR
      have CO := hide (fun w1 (k : AllAr w1 [(x.num, d.num), (x.den, d.den)]) (k2 : AllAr w1 [(y.num, e.num), (y.den, e.den)]) => placesI x y d e w1 k k2)
      rw [ho] at CO
      have ZN : Hid (bdN (l.map Prod.snd) d e = 0 ∧ bdOk (l.map Prod.snd) d e = false) := hide (by have h : bdOk (l.map Prod.snd) d e = false := (by unfold bdOk bdP; rw [hr, ho]; rfl); exact ⟨by unfold bdN; rw [h]; rfl, h⟩)
      clear hr ho
      have B0 := hide (show Below w.heap.size w ((w.alloc (.cells #[.bool x.num.g, .slice x.num.a x.num.n x.num.c, .bool x.den.g, .slice x.den.a x.den.n x.den.c] 32)).alloc (.cells #[.bool y.num.g, .slice y.num.a y.num.n y.num.c, .bool y.den.g, .slice y.den.a y.den.n y.den.c] 32)) from (((Below.refl _ _).alloc (by simp) _).alloc (by simp) _))
      go_enter Tryz.func25, Tryz.ntmps25
      go_wp2_with fail
      refine (unhide CR _ ((unhide H0).later (unhide B0))).mono ?_
      rintro e w0 ⟨rfl, hb⟩
      have k0_0 : w0.cell? ⟨w.heap.size, 0, none⟩ = some (.bool x.num.g) := cell_later hb (by simp [go_sem])
      have k0_1 : w0.cell? ⟨w.heap.size, 1, none⟩ = some (.slice x.num.a x.num.n x.num.c) := cell_later hb (by simp [go_sem])
      have k0_2 : w0.cell? ⟨w.heap.size, 2, none⟩ = some (.bool x.den.g) := cell_later hb (by simp [go_sem])
      have k0_3 : w0.cell? ⟨w.heap.size, 3, none⟩ = some (.slice x.den.a x.den.n x.den.c) := cell_later hb (by simp [go_sem])
      have k1_0 : w0.cell? ⟨w.heap.size + 1, 0, none⟩ = some (.bool y.num.g) := cell_later hb (by simp [go_sem])
      have k1_1 : w0.cell? ⟨w.heap.size + 1, 1, none⟩ = some (.slice y.num.a y.num.n y.num.c) := cell_later hb (by simp [go_sem])
      have k1_2 : w0.cell? ⟨w.heap.size + 1, 2, none⟩ = some (.bool y.den.g) := cell_later hb (by simp [go_sem])
      have k1_3 : w0.cell? ⟨w.heap.size + 1, 3, none⟩ = some (.slice y.den.a y.den.n y.den.c) := cell_later hb (by simp [go_sem])
      have HB := hide (below_on (unhide B0) hb)
      clear hb
      go_wp2_with fail
      refine (unhide CO _ ((unhide H1).later (unhide HB)) ((unhide H2).later (unhide HB))).mono ?_
      rintro e w1 ⟨rfl, hb⟩
      clear k0_0 k0_1 k0_2 k0_3 k1_0 k1_1 k1_2 k1_3
      replace HB := hide (below_on (unhide HB) hb)
      clear hb
      go_wp2
      go_ret2
      exact ⟨by rw [(unhide ZN).1, (unhide ZN).2]; rfl, unhide HB⟩
    · cases g1 : gP (shE (l.map Prod.snd) d)
      · cases g2 : gP (shE (l.map Prod.snd) e)
        · have CR := hide (fun w1 (k : PArQ w1 a n c l) => RootsPI a n c l w1 k)
          rw [hr] at CR
          have CO := hide (fun w1 (k : AllAr w1 [(x.num, d.num), (x.den, d.den)]) (k2 : AllAr w1 [(y.num, e.num), (y.den, e.den)]) => placesI x y d e w1 k k2)
          rw [ho] at CO
          have hP : bdP (l.map Prod.snd) d e = true := by unfold bdP; rw [hr, ho]; rfl
          clear hr ho
          have PA := bdP_parts hP
          have PT1 : Hid ((gP (l.map Prod.snd) && gC d) = true) := hide (by rw [PA.1, PA.2.1]; rfl)
          have PT2 : Hid ((gP (l.map Prod.snd) && gC e) = true) := hide (by rw [PA.1, PA.2.2]; rfl)
          have G1 := hide g1
          have G2 := hide g2
          have ZN : Hid (bdN (l.map Prod.snd) d e = 0 ∧ bdOk (l.map Prod.snd) d e = false) := hide (by have h : bdOk (l.map Prod.snd) d e = false := (by unfold bdOk; rw [hP, g1]; rfl); exact ⟨by unfold bdN; rw [h]; rfl, h⟩)
          clear hP PA g1 g2
          have B0 := hide (show Below w.heap.size w ((w.alloc (.cells #[.bool x.num.g, .slice x.num.a x.num.n x.num.c, .bool x.den.g, .slice x.den.a x.den.n x.den.c] 32)).alloc (.cells #[.bool y.num.g, .slice y.num.a y.num.n y.num.c, .bool y.den.g, .slice y.den.a y.den.n y.den.c] 32)) from (((Below.refl _ _).alloc (by simp) _).alloc (by simp) _))
          go_enter Tryz.func25, Tryz.ntmps25
          go_wp2_with fail
          refine (unhide CR _ ((unhide H0).later (unhide B0))).mono ?_
          rintro e w0 ⟨rfl, hb⟩
          have k0_0 : w0.cell? ⟨w.heap.size, 0, none⟩ = some (.bool x.num.g) := cell_later hb (by simp [go_sem])
          have k0_1 : w0.cell? ⟨w.heap.size, 1, none⟩ = some (.slice x.num.a x.num.n x.num.c) := cell_later hb (by simp [go_sem])
          have k0_2 : w0.cell? ⟨w.heap.size, 2, none⟩ = some (.bool x.den.g) := cell_later hb (by simp [go_sem])
          have k0_3 : w0.cell? ⟨w.heap.size, 3, none⟩ = some (.slice x.den.a x.den.n x.den.c) := cell_later hb (by simp [go_sem])
          have k1_0 : w0.cell? ⟨w.heap.size + 1, 0, none⟩ = some (.bool y.num.g) := cell_later hb (by simp [go_sem])
          have k1_1 : w0.cell? ⟨w.heap.size + 1, 1, none⟩ = some (.slice y.num.a y.num.n y.num.c) := cell_later hb (by simp [go_sem])
          have k1_2 : w0.cell? ⟨w.heap.size + 1, 2, none⟩ = some (.bool y.den.g) := cell_later hb (by simp [go_sem])
          have k1_3 : w0.cell? ⟨w.heap.size + 1, 3, none⟩ = some (.slice y.den.a y.den.n y.den.c) := cell_later hb (by simp [go_sem])
          have HB := hide (below_on (unhide B0) hb)
          clear hb
          go_wp2_with fail
          refine (unhide CO _ ((unhide H1).later (unhide HB)) ((unhide H2).later (unhide HB))).mono ?_
          rintro e w1 ⟨rfl, hb⟩
          replace k0_0 := cell_later hb k0_0
          replace k0_1 := cell_later hb k0_1
          replace k0_2 := cell_later hb k0_2
          replace k0_3 := cell_later hb k0_3
          replace k1_0 := cell_later hb k1_0
          replace k1_1 := cell_later hb k1_1
          replace k1_2 := cell_later hb k1_2
          replace k1_3 := cell_later hb k1_3
          replace HB := hide (below_on (unhide HB) hb)
          clear hb
          go_wp2_with fail
          refine (ShPJ a n c l x d _ ((unhide H0).later (unhide HB)) ((unhide H1).later (unhide HB))).mono ?_
          rintro e w2 ⟨a1, n1, c1, l1, ok1, rfl, hb, ar1, hu1⟩
          rw [unhide PT1] at hu1
          have AE1 := hide (ansE hu1)
          replace k1_0 := cell_later hb k1_0
          replace k1_1 := cell_later hb k1_1
          replace k1_2 := cell_later hb k1_2
          replace k1_3 := cell_later hb k1_3
          clear k0_0 k0_1 k0_2 k0_3
          have AR1 := hide (ar1)
          replace HB := hide (below_on (unhide HB) hb)
          clear hb
          clear ar1 hu1
          obtain rfl : ok1 = false := (unhide AE1).1.trans (unhide G1)
          go_wp2_with fail
          refine (ShPJ a n c l y e _ ((unhide H0).later (unhide HB)) ((unhide H2).later (unhide HB))).mono ?_
          rintro e w3 ⟨a2, n2, c2, l2, ok2, rfl, hb, ar2, hu2⟩
          rw [unhide PT2] at hu2
          have AE2 := hide (ansE hu2)
          clear k1_0 k1_1 k1_2 k1_3
          replace AR1 := hide ((unhide AR1).later hb)
          have AR2 := hide (ar2)
          replace HB := hide (below_on (unhide HB) hb)
          clear hb
          clear ar2 hu2
          obtain rfl : ok2 = false := (unhide AE2).1.trans (unhide G2)
          go_wp2
          go_ret2
          exact ⟨by rw [(unhide ZN).1, (unhide ZN).2]; rfl, unhide HB⟩
        · have CR := hide (fun w1 (k : PArQ w1 a n c l) => RootsPI a n c l w1 k)
          rw [hr] at CR
          have CO := hide (fun w1 (k : AllAr w1 [(x.num, d.num), (x.den, d.den)]) (k2 : AllAr w1 [(y.num, e.num), (y.den, e.den)]) => placesI x y d e w1 k k2)
          rw [ho] at CO
          have hP : bdP (l.map Prod.snd) d e = true := by unfold bdP; rw [hr, ho]; rfl
          clear hr ho
          have PA := bdP_parts hP
          have PT1 : Hid ((gP (l.map Prod.snd) && gC d) = true) := hide (by rw [PA.1, PA.2.1]; rfl)
          have PT2 : Hid ((gP (l.map Prod.snd) && gC e) = true) := hide (by rw [PA.1, PA.2.2]; rfl)
          have G1 := hide g1
          have G2 := hide g2
          have ZN : Hid (bdN (l.map Prod.snd) d e = 0 ∧ bdOk (l.map Prod.snd) d e = false) := hide (by have h : bdOk (l.map Prod.snd) d e = false := (by unfold bdOk; rw [hP, g1]; rfl); exact ⟨by unfold bdN; rw [h]; rfl, h⟩)
          clear hP PA g1 g2
          have B0 := hide (show Below w.heap.size w ((w.alloc (.cells #[.bool x.num.g, .slice x.num.a x.num.n x.num.c, .bool x.den.g, .slice x.den.a x.den.n x.den.c] 32)).alloc (.cells #[.bool y.num.g, .slice y.num.a y.num.n y.num.c, .bool y.den.g, .slice y.den.a y.den.n y.den.c] 32)) from (((Below.refl _ _).alloc (by simp) _).alloc (by simp) _))
          go_enter Tryz.func25, Tryz.ntmps25
          go_wp2_with fail
          refine (unhide CR _ ((unhide H0).later (unhide B0))).mono ?_
          rintro e w0 ⟨rfl, hb⟩
          have k0_0 : w0.cell? ⟨w.heap.size, 0, none⟩ = some (.bool x.num.g) := cell_later hb (by simp [go_sem])
          have k0_1 : w0.cell? ⟨w.heap.size, 1, none⟩ = some (.slice x.num.a x.num.n x.num.c) := cell_later hb (by simp [go_sem])
          have k0_2 : w0.cell? ⟨w.heap.size, 2, none⟩ = some (.bool x.den.g) := cell_later hb (by simp [go_sem])
          have k0_3 : w0.cell? ⟨w.heap.size, 3, none⟩ = some (.slice x.den.a x.den.n x.den.c) := cell_later hb (by simp [go_sem])
          have k1_0 : w0.cell? ⟨w.heap.size + 1, 0, none⟩ = some (.bool y.num.g) := cell_later hb (by simp [go_sem])
          have k1_1 : w0.cell? ⟨w.heap.size + 1, 1, none⟩ = some (.slice y.num.a y.num.n y.num.c) := cell_later hb (by simp [go_sem])
          have k1_2 : w0.cell? ⟨w.heap.size + 1, 2, none⟩ = some (.bool y.den.g) := cell_later hb (by simp [go_sem])
          have k1_3 : w0.cell? ⟨w.heap.size + 1, 3, none⟩ = some (.slice y.den.a y.den.n y.den.c) := cell_later hb (by simp [go_sem])
          have HB := hide (below_on (unhide B0) hb)
          clear hb
          go_wp2_with fail
          refine (unhide CO _ ((unhide H1).later (unhide HB)) ((unhide H2).later (unhide HB))).mono ?_
          rintro e w1 ⟨rfl, hb⟩
          replace k0_0 := cell_later hb k0_0
          replace k0_1 := cell_later hb k0_1
          replace k0_2 := cell_later hb k0_2
          replace k0_3 := cell_later hb k0_3
          replace k1_0 := cell_later hb k1_0
          replace k1_1 := cell_later hb k1_1
          replace k1_2 := cell_later hb k1_2
          replace k1_3 := cell_later hb k1_3
          replace HB := hide (below_on (unhide HB) hb)
          clear hb
          go_wp2_with fail
          refine (ShPJ a n c l x d _ ((unhide H0).later (unhide HB)) ((unhide H1).later (unhide HB))).mono ?_
          rintro e w2 ⟨a1, n1, c1, l1, ok1, rfl, hb, ar1, hu1⟩
          rw [unhide PT1] at hu1
          have AE1 := hide (ansE hu1)
          replace k1_0 := cell_later hb k1_0
          replace k1_1 := cell_later hb k1_1
          replace k1_2 := cell_later hb k1_2
          replace k1_3 := cell_later hb k1_3
          clear k0_0 k0_1 k0_2 k0_3
          have AR1 := hide (ar1)
          replace HB := hide (below_on (unhide HB) hb)
          clear hb
          clear ar1 hu1
          obtain rfl : ok1 = false := (unhide AE1).1.trans (unhide G1)
          go_wp2_with fail
          refine (ShPJ a n c l y e _ ((unhide H0).later (unhide HB)) ((unhide H2).later (unhide HB))).mono ?_
          rintro e w3 ⟨a2, n2, c2, l2, ok2, rfl, hb, ar2, hu2⟩
          rw [unhide PT2] at hu2
          have AE2 := hide (ansE hu2)
          clear k1_0 k1_1 k1_2 k1_3
          replace AR1 := hide ((unhide AR1).later hb)
          have AR2 := hide (ar2)
          replace HB := hide (below_on (unhide HB) hb)
          clear hb
          clear ar2 hu2
          obtain rfl : ok2 = true := (unhide AE2).1.trans (unhide G2)
          go_wp2
          go_ret2
          exact ⟨by rw [(unhide ZN).1, (unhide ZN).2]; rfl, unhide HB⟩
      · cases g2 : gP (shE (l.map Prod.snd) e)
        · have CR := hide (fun w1 (k : PArQ w1 a n c l) => RootsPI a n c l w1 k)
          rw [hr] at CR
          have CO := hide (fun w1 (k : AllAr w1 [(x.num, d.num), (x.den, d.den)]) (k2 : AllAr w1 [(y.num, e.num), (y.den, e.den)]) => placesI x y d e w1 k k2)
          rw [ho] at CO
          have hP : bdP (l.map Prod.snd) d e = true := by unfold bdP; rw [hr, ho]; rfl
          clear hr ho
          have PA := bdP_parts hP
          have PT1 : Hid ((gP (l.map Prod.snd) && gC d) = true) := hide (by rw [PA.1, PA.2.1]; rfl)
          have PT2 : Hid ((gP (l.map Prod.snd) && gC e) = true) := hide (by rw [PA.1, PA.2.2]; rfl)
          have G1 := hide g1
          have G2 := hide g2
          have ZN : Hid (bdN (l.map Prod.snd) d e = 0 ∧ bdOk (l.map Prod.snd) d e = false) := hide (by have h : bdOk (l.map Prod.snd) d e = false := (by unfold bdOk; rw [hP, g1, g2]; rfl); exact ⟨by unfold bdN; rw [h]; rfl, h⟩)
          clear hP PA g1 g2
          have B0 := hide (show Below w.heap.size w ((w.alloc (.cells #[.bool x.num.g, .slice x.num.a x.num.n x.num.c, .bool x.den.g, .slice x.den.a x.den.n x.den.c] 32)).alloc (.cells #[.bool y.num.g, .slice y.num.a y.num.n y.num.c, .bool y.den.g, .slice y.den.a y.den.n y.den.c] 32)) from (((Below.refl _ _).alloc (by simp) _).alloc (by simp) _))
          go_enter Tryz.func25, Tryz.ntmps25
          go_wp2_with fail
          refine (unhide CR _ ((unhide H0).later (unhide B0))).mono ?_
          rintro e w0 ⟨rfl, hb⟩
          have k0_0 : w0.cell? ⟨w.heap.size, 0, none⟩ = some (.bool x.num.g) := cell_later hb (by simp [go_sem])
          have k0_1 : w0.cell? ⟨w.heap.size, 1, none⟩ = some (.slice x.num.a x.num.n x.num.c) := cell_later hb (by simp [go_sem])
          have k0_2 : w0.cell? ⟨w.heap.size, 2, none⟩ = some (.bool x.den.g) := cell_later hb (by simp [go_sem])
          have k0_3 : w0.cell? ⟨w.heap.size, 3, none⟩ = some (.slice x.den.a x.den.n x.den.c) := cell_later hb (by simp [go_sem])
          have k1_0 : w0.cell? ⟨w.heap.size + 1, 0, none⟩ = some (.bool y.num.g) := cell_later hb (by simp [go_sem])
          have k1_1 : w0.cell? ⟨w.heap.size + 1, 1, none⟩ = some (.slice y.num.a y.num.n y.num.c) := cell_later hb (by simp [go_sem])
          have k1_2 : w0.cell? ⟨w.heap.size + 1, 2, none⟩ = some (.bool y.den.g) := cell_later hb (by simp [go_sem])
          have k1_3 : w0.cell? ⟨w.heap.size + 1, 3, none⟩ = some (.slice y.den.a y.den.n y.den.c) := cell_later hb (by simp [go_sem])
          have HB := hide (below_on (unhide B0) hb)
          clear hb
          go_wp2_with fail
          refine (unhide CO _ ((unhide H1).later (unhide HB)) ((unhide H2).later (unhide HB))).mono ?_
          rintro e w1 ⟨rfl, hb⟩
          replace k0_0 := cell_later hb k0_0
          replace k0_1 := cell_later hb k0_1
          replace k0_2 := cell_later hb k0_2
          replace k0_3 := cell_later hb k0_3
          replace k1_0 := cell_later hb k1_0
          replace k1_1 := cell_later hb k1_1
          replace k1_2 := cell_later hb k1_2
          replace k1_3 := cell_later hb k1_3
          replace HB := hide (below_on (unhide HB) hb)
          clear hb
          go_wp2_with fail
          refine (ShPJ a n c l x d _ ((unhide H0).later (unhide HB)) ((unhide H1).later (unhide HB))).mono ?_
          rintro e w2 ⟨a1, n1, c1, l1, ok1, rfl, hb, ar1, hu1⟩
          rw [unhide PT1] at hu1
          have AE1 := hide (ansE hu1)
          replace k1_0 := cell_later hb k1_0
          replace k1_1 := cell_later hb k1_1
          replace k1_2 := cell_later hb k1_2
          replace k1_3 := cell_later hb k1_3
          clear k0_0 k0_1 k0_2 k0_3
          have AR1 := hide (ar1)
          replace HB := hide (below_on (unhide HB) hb)
          clear hb
          clear ar1 hu1
          obtain rfl : ok1 = true := (unhide AE1).1.trans (unhide G1)
          go_wp2_with fail
          refine (ShPJ a n c l y e _ ((unhide H0).later (unhide HB)) ((unhide H2).later (unhide HB))).mono ?_
          rintro e w3 ⟨a2, n2, c2, l2, ok2, rfl, hb, ar2, hu2⟩
          rw [unhide PT2] at hu2
          have AE2 := hide (ansE hu2)
          clear k1_0 k1_1 k1_2 k1_3
          replace AR1 := hide ((unhide AR1).later hb)
          have AR2 := hide (ar2)
          replace HB := hide (below_on (unhide HB) hb)
          clear hb
          clear ar2 hu2
          obtain rfl : ok2 = false := (unhide AE2).1.trans (unhide G2)
          go_wp2
          go_ret2
          exact ⟨by rw [(unhide ZN).1, (unhide ZN).2]; rfl, unhide HB⟩
        · have CR := hide (fun w1 (k : PArQ w1 a n c l) => RootsPI a n c l w1 k)
          rw [hr] at CR
          have CO := hide (fun w1 (k : AllAr w1 [(x.num, d.num), (x.den, d.den)]) (k2 : AllAr w1 [(y.num, e.num), (y.den, e.den)]) => placesI x y d e w1 k k2)
          rw [ho] at CO
          have hP : bdP (l.map Prod.snd) d e = true := by unfold bdP; rw [hr, ho]; rfl
          clear hr ho
          have PA := bdP_parts hP
          have PT1 : Hid ((gP (l.map Prod.snd) && gC d) = true) := hide (by rw [PA.1, PA.2.1]; rfl)
          have PT2 : Hid ((gP (l.map Prod.snd) && gC e) = true) := hide (by rw [PA.1, PA.2.2]; rfl)
          have G1 := hide g1
          have G2 := hide g2
          have VV : Hid (bdN (l.map Prod.snd) d e = cn (shE (l.map Prod.snd) d) - cn (shE (l.map Prod.snd) e) ∧ bdOk (l.map Prod.snd) d e = true) := hide (by have h : bdOk (l.map Prod.snd) d e = true := (by unfold bdOk; rw [hP, g1, g2]; rfl); exact ⟨by unfold bdN; rw [if_pos h], h⟩)
          have L1 := hide (cn_le (gP_mem g1).1)
          have L2 := hide (cn_le (gP_mem g2).1)
          clear hP PA g1 g2
          have B0 := hide (show Below w.heap.size w ((w.alloc (.cells #[.bool x.num.g, .slice x.num.a x.num.n x.num.c, .bool x.den.g, .slice x.den.a x.den.n x.den.c] 32)).alloc (.cells #[.bool y.num.g, .slice y.num.a y.num.n y.num.c, .bool y.den.g, .slice y.den.a y.den.n y.den.c] 32)) from (((Below.refl _ _).alloc (by simp) _).alloc (by simp) _))
          go_enter Tryz.func25, Tryz.ntmps25
          go_wp2_with fail
          refine (unhide CR _ ((unhide H0).later (unhide B0))).mono ?_
          rintro e w0 ⟨rfl, hb⟩
          have k0_0 : w0.cell? ⟨w.heap.size, 0, none⟩ = some (.bool x.num.g) := cell_later hb (by simp [go_sem])
          have k0_1 : w0.cell? ⟨w.heap.size, 1, none⟩ = some (.slice x.num.a x.num.n x.num.c) := cell_later hb (by simp [go_sem])
          have k0_2 : w0.cell? ⟨w.heap.size, 2, none⟩ = some (.bool x.den.g) := cell_later hb (by simp [go_sem])
          have k0_3 : w0.cell? ⟨w.heap.size, 3, none⟩ = some (.slice x.den.a x.den.n x.den.c) := cell_later hb (by simp [go_sem])
          have k1_0 : w0.cell? ⟨w.heap.size + 1, 0, none⟩ = some (.bool y.num.g) := cell_later hb (by simp [go_sem])
          have k1_1 : w0.cell? ⟨w.heap.size + 1, 1, none⟩ = some (.slice y.num.a y.num.n y.num.c) := cell_later hb (by simp [go_sem])
          have k1_2 : w0.cell? ⟨w.heap.size + 1, 2, none⟩ = some (.bool y.den.g) := cell_later hb (by simp [go_sem])
          have k1_3 : w0.cell? ⟨w.heap.size + 1, 3, none⟩ = some (.slice y.den.a y.den.n y.den.c) := cell_later hb (by simp [go_sem])
          have HB := hide (below_on (unhide B0) hb)
          clear hb
          go_wp2_with fail
          refine (unhide CO _ ((unhide H1).later (unhide HB)) ((unhide H2).later (unhide HB))).mono ?_
          rintro e w1 ⟨rfl, hb⟩
          replace k0_0 := cell_later hb k0_0
          replace k0_1 := cell_later hb k0_1
          replace k0_2 := cell_later hb k0_2
          replace k0_3 := cell_later hb k0_3
          replace k1_0 := cell_later hb k1_0
          replace k1_1 := cell_later hb k1_1
          replace k1_2 := cell_later hb k1_2
          replace k1_3 := cell_later hb k1_3
          replace HB := hide (below_on (unhide HB) hb)
          clear hb
          go_wp2_with fail
          refine (ShPJ a n c l x d _ ((unhide H0).later (unhide HB)) ((unhide H1).later (unhide HB))).mono ?_
          rintro e w2 ⟨a1, n1, c1, l1, ok1, rfl, hb, ar1, hu1⟩
          rw [unhide PT1] at hu1
          have AE1 := hide (ansE hu1)
          replace k1_0 := cell_later hb k1_0
          replace k1_1 := cell_later hb k1_1
          replace k1_2 := cell_later hb k1_2
          replace k1_3 := cell_later hb k1_3
          clear k0_0 k0_1 k0_2 k0_3
          have AR1 := hide (ar1)
          replace HB := hide (below_on (unhide HB) hb)
          clear hb
          clear ar1 hu1
          obtain rfl : ok1 = true := (unhide AE1).1.trans (unhide G1)
          go_wp2_with fail
          refine (ShPJ a n c l y e _ ((unhide H0).later (unhide HB)) ((unhide H2).later (unhide HB))).mono ?_
          rintro e w3 ⟨a2, n2, c2, l2, ok2, rfl, hb, ar2, hu2⟩
          rw [unhide PT2] at hu2
          have AE2 := hide (ansE hu2)
          clear k1_0 k1_1 k1_2 k1_3
          replace AR1 := hide ((unhide AR1).later hb)
          have AR2 := hide (ar2)
          replace HB := hide (below_on (unhide HB) hb)
          clear hb
          clear ar2 hu2
          obtain rfl : ok2 = true := (unhide AE2).1.trans (unhide G2)
          have EL1 : Hid (l1.map Prod.snd = shE (l.map Prod.snd) d) := hide ((unhide AE1).2 (unhide G1))
          have nn1 : n1 ≤ 1048576 := by have h := (gP_mem (unhide G1)).1; rw [← unhide EL1, List.length_map, (unhide AR1).len] at h; omega
          have CH1 := hide (fun w1 (k : PArQ w1 a1 n1 c1 l1) => chgI a1 n1 c1 l1 w1 k nn1)
          rw [unhide EL1] at CH1
          have CN1 : Hid (∃ m : Int, cn (shE (l.map Prod.snd) d) = m) := hide ⟨_, rfl⟩
          have EL2 : Hid (l2.map Prod.snd = shE (l.map Prod.snd) e) := hide ((unhide AE2).2 (unhide G2))
          have nn2 : n2 ≤ 1048576 := by have h := (gP_mem (unhide G2)).1; rw [← unhide EL2, List.length_map, (unhide AR2).len] at h; omega
          have CH2 := hide (fun w1 (k : PArQ w1 a2 n2 c2 l2) => chgI a2 n2 c2 l2 w1 k nn2)
          rw [unhide EL2] at CH2
          have CN2 : Hid (∃ m : Int, cn (shE (l.map Prod.snd) e) = m) := hide ⟨_, rfl⟩
          have lb1 := unhide L1
          have lb2 := unhide L2
          have CC1 : Hid (∀ w1, PArQ w1 a1 n1 c1 l1 → Calls Tryz.prog 64 #[.slice a1 n1 c1] w1 fun r w' => r = .returned (.int .i64 (cn (shE (l.map Prod.snd) d))) ∧ Below w1.heap.size w1 w') := CH1
          have CC2 : Hid (∀ w1, PArQ w1 a2 n2 c2 l2 → Calls Tryz.prog 64 #[.slice a2 n2 c2] w1 fun r w' => r = .returned (.int .i64 (cn (shE (l.map Prod.snd) e))) ∧ Below w1.heap.size w1 w') := CH2
          clear CH1 CH2 CN1 CN2 L1 L2
          obtain ⟨m1, hm1⟩ : ∃ m : Int, m = cn (shE (l.map Prod.snd) d) := ⟨_, rfl⟩
          obtain ⟨m2, hm2⟩ : ∃ m : Int, m = cn (shE (l.map Prod.snd) e) := ⟨_, rfl⟩
          rw [← hm1] at CC1 VV lb1
          rw [← hm2] at CC2 VV lb2
          clear hm1 hm2
          go_wp2_with fail
          refine (unhide CC1 _ (unhide AR1)).mono ?_
          rintro e w5 ⟨rfl, hb⟩
          replace AR1 := hide ((unhide AR1).later hb)
          replace AR2 := hide ((unhide AR2).later hb)
          replace HB := hide (below_on (unhide HB) hb)
          clear hb
          go_wp2_with fail
          refine (unhide CC2 _ (unhide AR2)).mono ?_
          rintro e w6 ⟨rfl, hb⟩
          replace AR1 := hide ((unhide AR1).later hb)
          replace AR2 := hide ((unhide AR2).later hb)
          replace HB := hide (below_on (unhide HB) hb)
          clear hb
          go_wp2
          go_ret2
          exact ⟨by rw [(unhide VV).1, (unhide VV).2]; rfl, unhide HB⟩

set_option maxHeartbeats 8000000 in
theorem BudS (a : Option Addr) (n c : Nat) (l : List (QV × QD)) (x y : QV) (d e : QD) (w : World) (h : PArQ w a n c l) (hx : AllAr w [(x.num, d.num), (x.den, d.den)]) (hy : AllAr w [(y.num, e.num), (y.den, e.den)]) : Calls Tryz.prog 24 #[.slice a n c, .agg #[.bool x.num.g, .slice x.num.a x.num.n x.num.c, .bool x.den.g, .slice x.den.a x.den.n x.den.c], .agg #[.bool y.num.g, .slice y.num.a y.num.n y.num.c, .bool y.den.g, .slice y.den.a y.den.n y.den.c]] w fun r w' => r = .returned (.tuple #[.int .i64 (bdN (l.map Prod.snd) d e), .bool (bdOk (l.map Prod.snd) d e)]) ∧ Below w.heap.size w w' := by
  have H0 := hide h
  have H1 := hide hx
  have H2 := hide hy
  clear h hx hy
  cases ho : bdP (l.map Prod.snd) d e
  · have CO := hide (fun w1 (k0 : PArQ w1 a n c l) (k : AllAr w1 [(x.num, d.num), (x.den, d.den)]) (k2 : AllAr w1 [(y.num, e.num), (y.den, e.den)]) => betwS a n c l x y d e w1 k0 k k2)
    rw [ho] at CO
    have ZN : Hid (bdN (l.map Prod.snd) d e = 0 ∧ bdOk (l.map Prod.snd) d e = false) := hide (by have h : bdOk (l.map Prod.snd) d e = false := (by unfold bdOk; rw [ho]; rfl); exact ⟨by unfold bdN; rw [h]; rfl, h⟩)
    clear ho
    have B0 := hide (show Below w.heap.size w ((w.alloc (.cells #[.bool x.num.g, .slice x.num.a x.num.n x.num.c, .bool x.den.g, .slice x.den.a x.den.n x.den.c] 32)).alloc (.cells #[.bool y.num.g, .slice y.num.a y.num.n y.num.c, .bool y.den.g, .slice y.den.a y.den.n y.den.c] 32)) from (((Below.refl _ _).alloc (by simp) _).alloc (by simp) _))
    go_enter Tryz.func24, Tryz.ntmps24
    go_wp2_with fail
    refine (unhide CO _ ((unhide H0).later (unhide B0)) ((unhide H1).later (unhide B0)) ((unhide H2).later (unhide B0))).mono ?_
    rintro e w1 ⟨rfl, hb⟩
    have HB := hide (below_on (unhide B0) hb)
    clear hb
    go_wp2
    go_ret2
    exact ⟨by rw [(unhide ZN).1, (unhide ZN).2]; rfl, unhide HB⟩
  · cases g1 : gP (shE (l.map Prod.snd) d)
    · cases g2 : gP (shE (l.map Prod.snd) e)
      · have CO := hide (fun w1 (k0 : PArQ w1 a n c l) (k : AllAr w1 [(x.num, d.num), (x.den, d.den)]) (k2 : AllAr w1 [(y.num, e.num), (y.den, e.den)]) => betwS a n c l x y d e w1 k0 k k2)
        rw [ho] at CO
        have hP := ho
        clear ho
        have PA := bdP_parts hP
        have PT1 : Hid ((gP (l.map Prod.snd) && gC d) = true) := hide (by rw [PA.1, PA.2.1]; rfl)
        have PT2 : Hid ((gP (l.map Prod.snd) && gC e) = true) := hide (by rw [PA.1, PA.2.2]; rfl)
        have G1 := hide g1
        have G2 := hide g2
        have ZN : Hid (bdN (l.map Prod.snd) d e = 0 ∧ bdOk (l.map Prod.snd) d e = false) := hide (by have h : bdOk (l.map Prod.snd) d e = false := (by unfold bdOk; rw [hP, g1]; rfl); exact ⟨by unfold bdN; rw [h]; rfl, h⟩)
        clear hP PA g1 g2
        have B0 := hide (show Below w.heap.size w ((w.alloc (.cells #[.bool x.num.g, .slice x.num.a x.num.n x.num.c, .bool x.den.g, .slice x.den.a x.den.n x.den.c] 32)).alloc (.cells #[.bool y.num.g, .slice y.num.a y.num.n y.num.c, .bool y.den.g, .slice y.den.a y.den.n y.den.c] 32)) from (((Below.refl _ _).alloc (by simp) _).alloc (by simp) _))
        go_enter Tryz.func24, Tryz.ntmps24
        go_wp2_with fail
        refine (unhide CO _ ((unhide H0).later (unhide B0)) ((unhide H1).later (unhide B0)) ((unhide H2).later (unhide B0))).mono ?_
        rintro e w1 ⟨rfl, hb⟩
        have k0_0 : w1.cell? ⟨w.heap.size, 0, none⟩ = some (.bool x.num.g) := cell_later hb (by simp [go_sem])
        have k0_1 : w1.cell? ⟨w.heap.size, 1, none⟩ = some (.slice x.num.a x.num.n x.num.c) := cell_later hb (by simp [go_sem])
        have k0_2 : w1.cell? ⟨w.heap.size, 2, none⟩ = some (.bool x.den.g) := cell_later hb (by simp [go_sem])
        have k0_3 : w1.cell? ⟨w.heap.size, 3, none⟩ = some (.slice x.den.a x.den.n x.den.c) := cell_later hb (by simp [go_sem])
        have k1_0 : w1.cell? ⟨w.heap.size + 1, 0, none⟩ = some (.bool y.num.g) := cell_later hb (by simp [go_sem])
        have k1_1 : w1.cell? ⟨w.heap.size + 1, 1, none⟩ = some (.slice y.num.a y.num.n y.num.c) := cell_later hb (by simp [go_sem])
        have k1_2 : w1.cell? ⟨w.heap.size + 1, 2, none⟩ = some (.bool y.den.g) := cell_later hb (by simp [go_sem])
        have k1_3 : w1.cell? ⟨w.heap.size + 1, 3, none⟩ = some (.slice y.den.a y.den.n y.den.c) := cell_later hb (by simp [go_sem])
        have HB := hide (below_on (unhide B0) hb)
        clear hb
        go_wp2_with fail
        refine (ShPA a n c l x d _ ((unhide H0).later (unhide HB)) ((unhide H1).later (unhide HB))).mono ?_
        rintro e w2 ⟨a1, n1, c1, l1, ok1, rfl, hb, ar1, hu1⟩
        rw [unhide PT1] at hu1
        have AE1 := hide (ansE hu1)
        replace k1_0 := cell_later hb k1_0
        replace k1_1 := cell_later hb k1_1
        replace k1_2 := cell_later hb k1_2
        replace k1_3 := cell_later hb k1_3
        clear k0_0 k0_1 k0_2 k0_3
        have AR1 := hide (ar1)
        replace HB := hide (below_on (unhide HB) hb)
        clear hb
        clear ar1 hu1
        obtain rfl : ok1 = false := (unhide AE1).1.trans (unhide G1)
        go_wp2_with fail
        refine (ShPA a n c l y e _ ((unhide H0).later (unhide HB)) ((unhide H2).later (unhide HB))).mono ?_
        rintro e w3 ⟨a2, n2, c2, l2, ok2, rfl, hb, ar2, hu2⟩
        rw [unhide PT2] at hu2
        have AE2 := hide (ansE hu2)
        clear k1_0 k1_1 k1_2 k1_3
        replace AR1 := hide ((unhide AR1).later hb)
        have AR2 := hide (ar2)
        replace HB := hide (below_on (unhide HB) hb)
        clear hb
        clear ar2 hu2
        obtain rfl : ok2 = false := (unhide AE2).1.trans (unhide G2)
        go_wp2
        go_ret2
        exact ⟨by rw [(unhide ZN).1, (unhide ZN).2]; rfl, unhide HB⟩
      · have CO := hide (fun w1 (k0 : PArQ w1 a n c l) (k : AllAr w1 [(x.num, d.num), (x.den, d.den)]) (k2 : AllAr w1 [(y.num, e.num), (y.den, e.den)]) => betwS a n c l x y d e w1 k0 k k2)
        rw [ho] at CO
        have hP := ho
        clear ho
        have PA := bdP_parts hP
        have PT1 : Hid ((gP (l.map Prod.snd) && gC d) = true) := hide (by rw [PA.1, PA.2.1]; rfl)
        have PT2 : Hid ((gP (l.map Prod.snd) && gC e) = true) := hide (by rw [PA.1, PA.2.2]; rfl)
        have G1 := hide g1
        have G2 := hide g2
        have ZN : Hid (bdN (l.map Prod.snd) d e = 0 ∧ bdOk (l.map Prod.snd) d e = false) := hide (by have h : bdOk (l.map Prod.snd) d e = false := (by unfold bdOk; rw [hP, g1]; rfl); exact ⟨by unfold bdN; rw [h]; rfl, h⟩)
        clear hP PA g1 g2
        have B0 := hide (show Below w.heap.size w ((w.alloc (.cells #[.bool x.num.g, .slice x.num.a x.num.n x.num.c, .bool x.den.g, .slice x.den.a x.den.n x.den.c] 32)).alloc (.cells #[.bool y.num.g, .slice y.num.a y.num.n y.num.c, .bool y.den.g, .slice y.den.a y.den.n y.den.c] 32)) from (((Below.refl _ _).alloc (by simp) _).alloc (by simp) _))
        go_enter Tryz.func24, Tryz.ntmps24
        go_wp2_with fail
        refine (unhide CO _ ((unhide H0).later (unhide B0)) ((unhide H1).later (unhide B0)) ((unhide H2).later (unhide B0))).mono ?_
        rintro e w1 ⟨rfl, hb⟩
        have k0_0 : w1.cell? ⟨w.heap.size, 0, none⟩ = some (.bool x.num.g) := cell_later hb (by simp [go_sem])
        have k0_1 : w1.cell? ⟨w.heap.size, 1, none⟩ = some (.slice x.num.a x.num.n x.num.c) := cell_later hb (by simp [go_sem])
        have k0_2 : w1.cell? ⟨w.heap.size, 2, none⟩ = some (.bool x.den.g) := cell_later hb (by simp [go_sem])
        have k0_3 : w1.cell? ⟨w.heap.size, 3, none⟩ = some (.slice x.den.a x.den.n x.den.c) := cell_later hb (by simp [go_sem])
        have k1_0 : w1.cell? ⟨w.heap.size + 1, 0, none⟩ = some (.bool y.num.g) := cell_later hb (by simp [go_sem])
        have k1_1 : w1.cell? ⟨w.heap.size + 1, 1, none⟩ = some (.slice y.num.a y.num.n y.num.c) := cell_later hb (by simp [go_sem])
        have k1_2 : w1.cell? ⟨w.heap.size + 1, 2, none⟩ = some (.bool y.den.g) := cell_later hb (by simp [go_sem])
        have k1_3 : w1.cell? ⟨w.heap.size + 1, 3, none⟩ = some (.slice y.den.a y.den.n y.den.c) := cell_later hb (by simp [go_sem])
        have HB := hide (below_on (unhide B0) hb)
        clear hb
        go_wp2_with fail
        refine (ShPA a n c l x d _ ((unhide H0).later (unhide HB)) ((unhide H1).later (unhide HB))).mono ?_
        rintro e w2 ⟨a1, n1, c1, l1, ok1, rfl, hb, ar1, hu1⟩
        rw [unhide PT1] at hu1
        have AE1 := hide (ansE hu1)
        replace k1_0 := cell_later hb k1_0
        replace k1_1 := cell_later hb k1_1
        replace k1_2 := cell_later hb k1_2
        replace k1_3 := cell_later hb k1_3
        clear k0_0 k0_1 k0_2 k0_3
        have AR1 := hide (ar1)
        replace HB := hide (below_on (unhide HB) hb)
        clear hb
        clear ar1 hu1
        obtain rfl : ok1 = false := (unhide AE1).1.trans (unhide G1)
        go_wp2_with fail
        refine (ShPA a n c l y e _ ((unhide H0).later (unhide HB)) ((unhide H2).later (unhide HB))).mono ?_
        rintro e w3 ⟨a2, n2, c2, l2, ok2, rfl, hb, ar2, hu2⟩
        rw [unhide PT2] at hu2
        have AE2 := hide (ansE hu2)
        clear k1_0 k1_1 k1_2 k1_3
        replace AR1 := hide ((unhide AR1).later hb)
        have AR2 := hide (ar2)
        replace HB := hide (below_on (unhide HB) hb)
        clear hb
        clear ar2 hu2
        obtain rfl : ok2 = true := (unhide AE2).1.trans (unhide G2)
        go_wp2
        go_ret2
        exact ⟨by rw [(unhide ZN).1, (unhide ZN).2]; rfl, unhide HB⟩
    · cases g2 : gP (shE (l.map Prod.snd) e)
      · have CO := hide (fun w1 (k0 : PArQ w1 a n c l) (k : AllAr w1 [(x.num, d.num), (x.den, d.den)]) (k2 : AllAr w1 [(y.num, e.num), (y.den, e.den)]) => betwS a n c l x y d e w1 k0 k k2)
        rw [ho] at CO
        have hP := ho
        clear ho
        have PA := bdP_parts hP
        have PT1 : Hid ((gP (l.map Prod.snd) && gC d) = true) := hide (by rw [PA.1, PA.2.1]; rfl)
        have PT2 : Hid ((gP (l.map Prod.snd) && gC e) = true) := hide (by rw [PA.1, PA.2.2]; rfl)
        have G1 := hide g1
        have G2 := hide g2
        have ZN : Hid (bdN (l.map Prod.snd) d e = 0 ∧ bdOk (l.map Prod.snd) d e = false) := hide (by have h : bdOk (l.map Prod.snd) d e = false := (by unfold bdOk; rw [hP, g1, g2]; rfl); exact ⟨by unfold bdN; rw [h]; rfl, h⟩)
        clear hP PA g1 g2
        have B0 := hide (show Below w.heap.size w ((w.alloc (.cells #[.bool x.num.g, .slice x.num.a x.num.n x.num.c, .bool x.den.g, .slice x.den.a x.den.n x.den.c] 32)).alloc (.cells #[.bool y.num.g, .slice y.num.a y.num.n y.num.c, .bool y.den.g, .slice y.den.a y.den.n y.den.c] 32)) from (((Below.refl _ _).alloc (by simp) _).alloc (by simp) _))
        go_enter Tryz.func24, Tryz.ntmps24
        go_wp2_with fail
        refine (unhide CO _ ((unhide H0).later (unhide B0)) ((unhide H1).later (unhide B0)) ((unhide H2).later (unhide B0))).mono ?_
        rintro e w1 ⟨rfl, hb⟩
        have k0_0 : w1.cell? ⟨w.heap.size, 0, none⟩ = some (.bool x.num.g) := cell_later hb (by simp [go_sem])
        have k0_1 : w1.cell? ⟨w.heap.size, 1, none⟩ = some (.slice x.num.a x.num.n x.num.c) := cell_later hb (by simp [go_sem])
        have k0_2 : w1.cell? ⟨w.heap.size, 2, none⟩ = some (.bool x.den.g) := cell_later hb (by simp [go_sem])
        have k0_3 : w1.cell? ⟨w.heap.size, 3, none⟩ = some (.slice x.den.a x.den.n x.den.c) := cell_later hb (by simp [go_sem])
        have k1_0 : w1.cell? ⟨w.heap.size + 1, 0, none⟩ = some (.bool y.num.g) := cell_later hb (by simp [go_sem])
        have k1_1 : w1.cell? ⟨w.heap.size + 1, 1, none⟩ = some (.slice y.num.a y.num.n y.num.c) := cell_later hb (by simp [go_sem])
        have k1_2 : w1.cell? ⟨w.heap.size + 1, 2, none⟩ = some (.bool y.den.g) := cell_later hb (by simp [go_sem])
        have k1_3 : w1.cell? ⟨w.heap.size + 1, 3, none⟩ = some (.slice y.den.a y.den.n y.den.c) := cell_later hb (by simp [go_sem])
        have HB := hide (below_on (unhide B0) hb)
        clear hb
        go_wp2_with fail
        refine (ShPA a n c l x d _ ((unhide H0).later (unhide HB)) ((unhide H1).later (unhide HB))).mono ?_
        rintro e w2 ⟨a1, n1, c1, l1, ok1, rfl, hb, ar1, hu1⟩
        rw [unhide PT1] at hu1
        have AE1 := hide (ansE hu1)
        replace k1_0 := cell_later hb k1_0
        replace k1_1 := cell_later hb k1_1
        replace k1_2 := cell_later hb k1_2
        replace k1_3 := cell_later hb k1_3
        clear k0_0 k0_1 k0_2 k0_3
        have AR1 := hide (ar1)
        replace HB := hide (below_on (unhide HB) hb)
        clear hb
        clear ar1 hu1
        obtain rfl : ok1 = true := (unhide AE1).1.trans (unhide G1)
        go_wp2_with fail
        refine (ShPA a n c l y e _ ((unhide H0).later (unhide HB)) ((unhide H2).later (unhide HB))).mono ?_
        rintro e w3 ⟨a2, n2, c2, l2, ok2, rfl, hb, ar2, hu2⟩
        rw [unhide PT2] at hu2
        have AE2 := hide (ansE hu2)
        clear k1_0 k1_1 k1_2 k1_3
        replace AR1 := hide ((unhide AR1).later hb)
        have AR2 := hide (ar2)
        replace HB := hide (below_on (unhide HB) hb)
        clear hb
        clear ar2 hu2
        obtain rfl : ok2 = false := (unhide AE2).1.trans (unhide G2)
        go_wp2
        go_ret2
        exact ⟨by rw [(unhide ZN).1, (unhide ZN).2]; rfl, unhide HB⟩
      · have CO := hide (fun w1 (k0 : PArQ w1 a n c l) (k : AllAr w1 [(x.num, d.num), (x.den, d.den)]) (k2 : AllAr w1 [(y.num, e.num), (y.den, e.den)]) => betwS a n c l x y d e w1 k0 k k2)
        rw [ho] at CO
        have hP := ho
        clear ho
        have PA := bdP_parts hP
        have PT1 : Hid ((gP (l.map Prod.snd) && gC d) = true) := hide (by rw [PA.1, PA.2.1]; rfl)
        have PT2 : Hid ((gP (l.map Prod.snd) && gC e) = true) := hide (by rw [PA.1, PA.2.2]; rfl)
        have G1 := hide g1
        have G2 := hide g2
        have VV : Hid (bdN (l.map Prod.snd) d e = cn (shE (l.map Prod.snd) d) - cn (shE (l.map Prod.snd) e) ∧ bdOk (l.map Prod.snd) d e = true) := hide (by have h : bdOk (l.map Prod.snd) d e = true := (by unfold bdOk; rw [hP, g1, g2]; rfl); exact ⟨by unfold bdN; rw [if_pos h], h⟩)
        have L1 := hide (cn_le (gP_mem g1).1)
        have L2 := hide (cn_le (gP_mem g2).1)
        clear hP PA g1 g2
        have B0 := hide (show Below w.heap.size w ((w.alloc (.cells #[.bool x.num.g, .slice x.num.a x.num.n x.num.c, .bool x.den.g, .slice x.den.a x.den.n x.den.c] 32)).alloc (.cells #[.bool y.num.g, .slice y.num.a y.num.n y.num.c, .bool y.den.g, .slice y.den.a y.den.n y.den.c] 32)) from (((Below.refl _ _).alloc (by simp) _).alloc (by simp) _))
        go_enter Tryz.func24, Tryz.ntmps24
        go_wp2_with fail
        refine (unhide CO _ ((unhide H0).later (unhide B0)) ((unhide H1).later (unhide B0)) ((unhide H2).later (unhide B0))).mono ?_
        rintro e w1 ⟨rfl, hb⟩
        have k0_0 : w1.cell? ⟨w.heap.size, 0, none⟩ = some (.bool x.num.g) := cell_later hb (by simp [go_sem])
        have k0_1 : w1.cell? ⟨w.heap.size, 1, none⟩ = some (.slice x.num.a x.num.n x.num.c) := cell_later hb (by simp [go_sem])
        have k0_2 : w1.cell? ⟨w.heap.size, 2, none⟩ = some (.bool x.den.g) := cell_later hb (by simp [go_sem])
        have k0_3 : w1.cell? ⟨w.heap.size, 3, none⟩ = some (.slice x.den.a x.den.n x.den.c) := cell_later hb (by simp [go_sem])
        have k1_0 : w1.cell? ⟨w.heap.size + 1, 0, none⟩ = some (.bool y.num.g) := cell_later hb (by simp [go_sem])
        have k1_1 : w1.cell? ⟨w.heap.size + 1, 1, none⟩ = some (.slice y.num.a y.num.n y.num.c) := cell_later hb (by simp [go_sem])
        have k1_2 : w1.cell? ⟨w.heap.size + 1, 2, none⟩ = some (.bool y.den.g) := cell_later hb (by simp [go_sem])
        have k1_3 : w1.cell? ⟨w.heap.size + 1, 3, none⟩ = some (.slice y.den.a y.den.n y.den.c) := cell_later hb (by simp [go_sem])
        have HB := hide (below_on (unhide B0) hb)
        clear hb
        go_wp2_with fail
        refine (ShPA a n c l x d _ ((unhide H0).later (unhide HB)) ((unhide H1).later (unhide HB))).mono ?_
        rintro e w2 ⟨a1, n1, c1, l1, ok1, rfl, hb, ar1, hu1⟩
        rw [unhide PT1] at hu1
        have AE1 := hide (ansE hu1)
        replace k1_0 := cell_later hb k1_0
        replace k1_1 := cell_later hb k1_1
        replace k1_2 := cell_later hb k1_2
        replace k1_3 := cell_later hb k1_3
        clear k0_0 k0_1 k0_2 k0_3
        have AR1 := hide (ar1)
        replace HB := hide (below_on (unhide HB) hb)
        clear hb
        clear ar1 hu1
        obtain rfl : ok1 = true := (unhide AE1).1.trans (unhide G1)
        go_wp2_with fail
        refine (ShPA a n c l y e _ ((unhide H0).later (unhide HB)) ((unhide H2).later (unhide HB))).mono ?_
        rintro e w3 ⟨a2, n2, c2, l2, ok2, rfl, hb, ar2, hu2⟩
        rw [unhide PT2] at hu2
        have AE2 := hide (ansE hu2)
        clear k1_0 k1_1 k1_2 k1_3
        replace AR1 := hide ((unhide AR1).later hb)
        have AR2 := hide (ar2)
        replace HB := hide (below_on (unhide HB) hb)
        clear hb
        clear ar2 hu2
        obtain rfl : ok2 = true := (unhide AE2).1.trans (unhide G2)
        have EL1 : Hid (l1.map Prod.snd = shE (l.map Prod.snd) d) := hide ((unhide AE1).2 (unhide G1))
        have nn1 : n1 ≤ 1048576 := by have h := (gP_mem (unhide G1)).1; rw [← unhide EL1, List.length_map, (unhide AR1).len] at h; omega
        have CH1 := hide (fun w1 (k : PArQ w1 a1 n1 c1 l1) => signsS a1 n1 c1 l1 w1 k (fun z hz => good_of_mem k (by rw [unhide EL1]; exact unhide G1) hz))
        rw [unhide EL1] at CH1
        have CN1 : Hid (∃ m : Int, cn (shE (l.map Prod.snd) d) = m) := hide ⟨_, rfl⟩
        have EL2 : Hid (l2.map Prod.snd = shE (l.map Prod.snd) e) := hide ((unhide AE2).2 (unhide G2))
        have nn2 : n2 ≤ 1048576 := by have h := (gP_mem (unhide G2)).1; rw [← unhide EL2, List.length_map, (unhide AR2).len] at h; omega
        have CH2 := hide (fun w1 (k : PArQ w1 a2 n2 c2 l2) => signsS a2 n2 c2 l2 w1 k (fun z hz => good_of_mem k (by rw [unhide EL2]; exact unhide G2) hz))
        rw [unhide EL2] at CH2
        have CN2 : Hid (∃ m : Int, cn (shE (l.map Prod.snd) e) = m) := hide ⟨_, rfl⟩
        have lb1 := unhide L1
        have lb2 := unhide L2
        have CC1 : Hid (∀ w1, PArQ w1 a1 n1 c1 l1 → Calls Tryz.prog 61 #[.slice a1 n1 c1] w1 fun r w' => r = .returned (.int .i64 (cn (shE (l.map Prod.snd) d))) ∧ Below w1.heap.size w1 w') := CH1
        have CC2 : Hid (∀ w1, PArQ w1 a2 n2 c2 l2 → Calls Tryz.prog 61 #[.slice a2 n2 c2] w1 fun r w' => r = .returned (.int .i64 (cn (shE (l.map Prod.snd) e))) ∧ Below w1.heap.size w1 w') := CH2
        clear CH1 CH2 CN1 CN2 L1 L2
        obtain ⟨m1, hm1⟩ : ∃ m : Int, m = cn (shE (l.map Prod.snd) d) := ⟨_, rfl⟩
        obtain ⟨m2, hm2⟩ : ∃ m : Int, m = cn (shE (l.map Prod.snd) e) := ⟨_, rfl⟩
        rw [← hm1] at CC1 VV lb1
        rw [← hm2] at CC2 VV lb2
        clear hm1 hm2
        go_wp2_with fail
        refine (unhide CC1 _ (unhide AR1)).mono ?_
        rintro e w5 ⟨rfl, hb⟩
        replace AR1 := hide ((unhide AR1).later hb)
        replace AR2 := hide ((unhide AR2).later hb)
        replace HB := hide (below_on (unhide HB) hb)
        clear hb
        go_wp2_with fail
        refine (unhide CC2 _ (unhide AR2)).mono ?_
        rintro e w6 ⟨rfl, hb⟩
        replace AR1 := hide ((unhide AR1).later hb)
        replace AR2 := hide ((unhide AR2).later hb)
        replace HB := hide (below_on (unhide HB) hb)
        clear hb
        go_wp2
        go_ret2
        exact ⟨by rw [(unhide VV).1, (unhide VV).2]; rfl, unhide HB⟩
end Go.Proofs.YtcbmecnipldcfaaGreat
namespace Go.Proofs.YtcbmecnipldcfaaGreat
open Go.RowKit
set_option linter.unusedVariables false
set_option maxRecDepth 100000
set_option linter.unusedSimpArgs false

structure TlawBud (w wx : World) (v1 : QV) (d1 : QD) (v2 : QV) (d2 : QD) : Prop where
  bel : Below w.heap.size w wx
  x1_0 : wx.cell? ⟨w.heap.size, 0, none⟩ = some (.bool v1.num.g)
  x1_1 : wx.cell? ⟨w.heap.size, 1, none⟩ = some (.slice v1.num.a v1.num.n v1.num.c)
  x1_2 : wx.cell? ⟨w.heap.size, 2, none⟩ = some (.bool v1.den.g)
  x1_3 : wx.cell? ⟨w.heap.size, 3, none⟩ = some (.slice v1.den.a v1.den.n v1.den.c)
  x2_0 : wx.cell? ⟨w.heap.size + 1, 0, none⟩ = some (.bool v2.num.g)
  x2_1 : wx.cell? ⟨w.heap.size + 1, 1, none⟩ = some (.slice v2.num.a v2.num.n v2.num.c)
  x2_2 : wx.cell? ⟨w.heap.size + 1, 2, none⟩ = some (.bool v2.den.g)
  x2_3 : wx.cell? ⟨w.heap.size + 1, 3, none⟩ = some (.slice v2.den.a v2.den.n v2.den.c)
  s1 : AllSl wx [(v1.num, d1.num), (v1.den, d1.den)]
  s2 : AllSl wx [(v2.num, d2.num), (v2.den, d2.den)]
theorem TlawBud.later {w wx wy : World} {v1 : QV} {d1 : QD} {v2 : QV} {d2 : QD} (h : TlawBud w wx v1 d1 v2 d2) (hb : Below wx.heap.size wx wy) : TlawBud w wy v1 d1 v2 d2 :=
  ⟨below_on h.bel hb, cell_later hb h.x1_0, cell_later hb h.x1_1, cell_later hb h.x1_2, cell_later hb h.x1_3, cell_later hb h.x2_0, cell_later hb h.x2_1, cell_later hb h.x2_2, cell_later hb h.x2_3, h.s1.later hb, h.s2.later hb⟩
theorem TlawBud.start (w : World) (v1 : QV) (d1 : QD) (v2 : QV) (d2 : QD) (t1 : TypeId) (t2 : TypeId) (hx1 : AllSl w [(v1.num, d1.num), (v1.den, d1.den)]) (hx2 : AllSl w [(v2.num, d2.num), (v2.den, d2.den)]) : TlawBud w ((w.alloc (.cells #[.bool v1.num.g, .slice v1.num.a v1.num.n v1.num.c, .bool v1.den.g, .slice v1.den.a v1.den.n v1.den.c] t1)).alloc (.cells #[.bool v2.num.g, .slice v2.num.a v2.num.n v2.num.c, .bool v2.den.g, .slice v2.den.a v2.den.n v2.den.c] t2)) v1 d1 v2 d2 := by
  have hb : Below w.heap.size w ((w.alloc (.cells #[.bool v1.num.g, .slice v1.num.a v1.num.n v1.num.c, .bool v1.den.g, .slice v1.den.a v1.den.n v1.den.c] t1)).alloc (.cells #[.bool v2.num.g, .slice v2.num.a v2.num.n v2.num.c, .bool v2.den.g, .slice v2.den.a v2.den.n v2.den.c] t2)) := (((Below.refl _ _).alloc (by simp) _).alloc (by simp) _)
  exact ⟨hb, by simp [go_sem], by simp [go_sem], by simp [go_sem], by simp [go_sem], by simp [go_sem], by simp [go_sem], by simp [go_sem], by simp [go_sem], hx1.later hb, hx2.later hb⟩
set_option maxRecDepth 100000 in
set_option maxHeartbeats 16000000 in
theorem lawBud_walk (a0 : Option Addr) (n0 c0 : Nat) (l0 : List (QV × QD)) (v1 : QV) (v2 : QV) (d1 : QD) (d2 : QD) (w : World) (h0 : PSlQ w a0 l0) (hn0 : l0.length = n0) (hx1 : AllSl w [(v1.num, d1.num), (v1.den, d1.den)]) (hx2 : AllSl w [(v2.num, d2.num), (v2.den, d2.den)]) (hm0 : n0 ≤ maxLen) (ml0 : ∀ p ∈ l0, p.1.num.n ≤ maxLen ∧ p.1.den.n ≤ maxLen) (m1_0 : v1.num.n ≤ maxLen) (m1_1 : v1.den.n ≤ maxLen) (m2_0 : v2.num.n ≤ maxLen) (m2_1 : v2.den.n ≤ maxLen) :
    Calls Tryz.prog 5 #[.slice a0 n0 c0, .agg #[.bool v1.num.g, .slice v1.num.a v1.num.n v1.num.c, .bool v1.den.g, .slice v1.den.a v1.den.n v1.den.c], .agg #[.bool v2.num.g, .slice v2.num.a v2.num.n v2.num.c, .bool v2.den.g, .slice v2.den.a v2.den.n v2.den.c]] w fun e w' => e = .returned (.bool true) ∧ Below w.heap.size w w' := by
  obtain ⟨g0, Hg0⟩ : ∃ g0 : Int, Hid (g0 = (bdN (l0.map Prod.snd) d1 d2)) := ⟨_, hide rfl⟩
  obtain ⟨g1, Hg1⟩ : ∃ g1 : Bool, Hid (g1 = (bdOk (l0.map Prod.snd) d1 d2)) := ⟨_, hide rfl⟩
  have CS : Hid (∀ (a : Option Addr) (n c : Nat) (k : List (QV × QD)) (q1 : QV) (q2 : QV) (w : World), PArQ w a n c k → k.map Prod.snd = l0.map Prod.snd → AllAr w [(q1.num, d1.num), (q1.den, d1.den)] → AllAr w [(q2.num, d2.num), (q2.den, d2.den)] → Calls Tryz.prog 24 #[.slice a n c, .agg #[.bool q1.num.g, .slice q1.num.a q1.num.n q1.num.c, .bool q1.den.g, .slice q1.den.a q1.den.n q1.den.c], .agg #[.bool q2.num.g, .slice q2.num.a q2.num.n q2.num.c, .bool q2.den.g, .slice q2.den.a q2.den.n q2.den.c]] w fun e w' => e = .returned (.tuple #[.int .i64 g0, .bool g1]) ∧ Below w.heap.size w w') := hide (by rw [unhide Hg0, unhide Hg1]; exact fun a n c k q1 q2 w h e h1 h2 => (by have h3 := BudS a n c k q1 q2 d1 d2 w h h1 h2; rw [e] at h3; exact h3))
  have CI : Hid (∀ (a : Option Addr) (n c : Nat) (k : List (QV × QD)) (q1 : QV) (q2 : QV) (w : World), PArQ w a n c k → k.map Prod.snd = l0.map Prod.snd → AllAr w [(q1.num, d1.num), (q1.den, d1.den)] → AllAr w [(q2.num, d2.num), (q2.den, d2.den)] → Calls Tryz.prog 25 #[.slice a n c, .agg #[.bool q1.num.g, .slice q1.num.a q1.num.n q1.num.c, .bool q1.den.g, .slice q1.den.a q1.den.n q1.den.c], .agg #[.bool q2.num.g, .slice q2.num.a q2.num.n q2.num.c, .bool q2.den.g, .slice q2.den.a q2.den.n q2.den.c]] w fun e w' => e = .returned (.tuple #[.int .i64 g0, .bool g1]) ∧ Below w.heap.size w w') := hide (by rw [unhide Hg0, unhide Hg1]; exact fun a n c k q1 q2 w h e h1 h2 => (by have h3 := BudI a n c k q1 q2 d1 d2 w h h1 h2; rw [e] at h3; exact h3))
  clear Hg0 Hg1
  have SZ0 := hide (fun w1 (left : Int) (b0 : 0 ≤ left) (b1 : left ≤ 1048576) (k : PSlQ w1 a0 l0) => szPQ a0 n0 c0 l0 left w1 k hn0 hm0 ml0 b0 b1)
  have HS0 := hide h0
  have HN0 := hide hn0
  have HX1 := hide hx1
  have MM1 := hide (And.intro m1_0 m1_1)
  have HX2 := hide hx2
  have MM2 := hide (And.intro m2_0 m2_1)
  clear h0 hn0 hm0 ml0 hx1 m1_0 m1_1 hx2 m2_0 m2_1
  have T := hide (TlawBud.start w v1 d1 v2 d2 26 26 (unhide HX1) (unhide HX2))
  go_enter Tryz.func5, Tryz.ntmps5
  go_wp2_with fail
  refine (unhide SZ0 _ 1048576 (by omega) (by omega) ((unhide HS0).later (unhide T).bel)).mono ?_
  rintro e ws0 ⟨r0, rfl, hb, hr⟩
  replace T := hide ((unhide T).later hb)
  clear hb SZ0
  by_cases hneg : r0 < 0
  · clear hr
    go_wp2
    go_ret
    exact ⟨rfl, (unhide T).bel⟩
  have e0 : Hid (r0 = 1048576 - (n0 : Int) - (lenPQ l0 : Int)) := hide (by
    rcases hr with e | e
    · exact absurd (show r0 < 0 by omega) hneg
    · exact e.2)
  clear hr
  have b0 : r0 ≤ 1048576 := by have := unhide e0; omega
  have pp0 : 0 ≤ r0 := by omega
  have y0 := (unhide T).x1_0
  have y1 := (unhide T).x1_1
  have y2 := (unhide T).x1_2
  have y3 := (unhide T).x1_3
  by_cases hc1 : r0 < (v1.num.n : Int) + (v1.den.n : Int)
  · go_wp2_with fail
    refine (szQ_out v1 (r0) _ (by omega) (by omega) (unhide MM1).1 (unhide MM1).2 hc1).mono ?_
    rintro e wz ⟨rfl, hb⟩
    replace T := hide ((unhide T).later hb)
    clear hb y0 y1 y2 y3
    go_wp2
    go_ret
    exact ⟨rfl, (unhide T).bel⟩
  have u1 : ¬ (r0 - (v1.num.n : Int) - (v1.den.n : Int) < 0) := by omega
  go_wp2_with fail
  refine (szQ_in v1 (r0) _ (by omega) (by omega) (by omega)).mono ?_
  rintro e wq1 ⟨rfl, hb⟩
  replace T := hide ((unhide T).later hb)
  clear hb y0 y1 y2 y3
  have l1_0 : v1.num.n ≤ 1048576 := by omega
  have l1_1 : v1.den.n ≤ 1048576 := by omega
  have y0 := (unhide T).x2_0
  have y1 := (unhide T).x2_1
  have y2 := (unhide T).x2_2
  have y3 := (unhide T).x2_3
  by_cases hc2 : r0 - (v1.num.n : Int) - (v1.den.n : Int) < (v2.num.n : Int) + (v2.den.n : Int)
  · go_wp2_with fail
    refine (szQ_out v2 (r0 - (v1.num.n : Int) - (v1.den.n : Int)) _ (by omega) (by omega) (unhide MM2).1 (unhide MM2).2 hc2).mono ?_
    rintro e wz ⟨rfl, hb⟩
    replace T := hide ((unhide T).later hb)
    clear hb y0 y1 y2 y3
    go_wp2
    go_ret
    exact ⟨rfl, (unhide T).bel⟩
  have u2 : ¬ (r0 - (v1.num.n : Int) - (v1.den.n : Int) - (v2.num.n : Int) - (v2.den.n : Int) < 0) := by omega
  go_wp2_with fail
  refine (szQ_in v2 (r0 - (v1.num.n : Int) - (v1.den.n : Int)) _ (by omega) (by omega) (by omega)).mono ?_
  rintro e wq2 ⟨rfl, hb⟩
  replace T := hide ((unhide T).later hb)
  clear hb y0 y1 y2 y3
  have l2_0 : v2.num.n ≤ 1048576 := by omega
  have l2_1 : v2.den.n ≤ 1048576 := by omega
  have M0 : Hid (∀ p ∈ l0, p.1.num.n ≤ 1048576 ∧ p.1.den.n ≤ 1048576) := hide (fun p hp => by have h1 := lenPQ_mem hp; have h2 : lenQ p = p.1.num.n + p.1.den.n := rfl; have := unhide e0; omega)
  have TT0 := hide (fun w1 (k : PSlQ w1 a0 l0) => toPQ a0 n0 c0 l0 w1 k (unhide HN0) (by have := unhide e0; omega) (unhide M0))
  go_upto_region 11 with fail
  have ka0 := (unhide T).x1_0
  have ka1 := (unhide T).x1_1
  have ka2 := (unhide T).x1_2
  have ka3 := (unhide T).x1_3
  have ka4 := (unhide T).x2_0
  have ka5 := (unhide T).x2_1
  have ka6 := (unhide T).x2_2
  have ka7 := (unhide T).x2_3
  go_region_held3 (fun w' => w'.cell? ⟨w.heap.size, 0, none⟩ = some (.bool v1.num.g) ∧ w'.cell? ⟨w.heap.size, 1, none⟩ = some (.slice v1.num.a v1.num.n v1.num.c) ∧ w'.cell? ⟨w.heap.size, 2, none⟩ = some (.bool v1.den.g) ∧ w'.cell? ⟨w.heap.size, 3, none⟩ = some (.slice v1.den.a v1.den.n v1.den.c) ∧ w'.cell? ⟨w.heap.size + 1, 0, none⟩ = some (.bool v2.num.g) ∧ w'.cell? ⟨w.heap.size + 1, 1, none⟩ = some (.slice v2.num.a v2.num.n v2.num.c) ∧ w'.cell? ⟨w.heap.size + 1, 2, none⟩ = some (.bool v2.den.g) ∧ w'.cell? ⟨w.heap.size + 1, 3, none⟩ = some (.slice v2.den.a v2.den.n v2.den.c)) (with_reducible (first | exact ⟨ka0, ka1, ka2, ka3, ka4, ka5, ka6, ka7⟩ | exact ⟨cd_other ka0, cd_other ka1, cd_other ka2, cd_other ka3, cd_other ka4, cd_other ka5, cd_other ka6, cd_other ka7⟩ | fail))
    (first
    | (go_at_call 16; refine (unhide TT0 _ ?_).mono ?_; exact ((unhide HS0).later (unhide T).bel).later (Below.refl _ _).drew; rintro e wa0 ⟨lA, rfl, hb, zA, dA, oA⟩; have hbx := below_of_drew hb; replace T := hide ((unhide T).later hbx); replace ka0 := (unhide T).x1_0; replace ka1 := (unhide T).x1_1; replace ka2 := (unhide T).x1_2; replace ka3 := (unhide T).x1_3; replace ka4 := (unhide T).x2_0; replace ka5 := (unhide T).x2_1; replace ka6 := (unhide T).x2_2; replace ka7 := (unhide T).x2_3; have A0 := hide oA; have DA := hide dA; clear hb hbx oA dA zA)
    | (go_at_call_of 17 (Value.agg #[Value.bool v1.num.g, Value.slice v1.num.a v1.num.n v1.num.c, Value.bool v1.den.g, Value.slice v1.den.a v1.den.n v1.den.c]); refine (toQ_at v1 d1 _ ?_ l1_0 l1_1).mono ?_; exact (unhide T).s1; rintro e wa1 ⟨qa1, rfl, hb, hna, ow, ar⟩; have hbx := hb; replace T := hide ((unhide T).later hbx); replace ka0 := (unhide T).x1_0; replace ka1 := (unhide T).x1_1; replace ka2 := (unhide T).x1_2; replace ka3 := (unhide T).x1_3; replace ka4 := (unhide T).x2_0; replace ka5 := (unhide T).x2_1; replace ka6 := (unhide T).x2_2; replace ka7 := (unhide T).x2_3; replace A0 := hide ((unhide A0).later hbx); have A1 := hide ar; clear hb hbx ow ar hna)
    | (go_at_call_of 17 (Value.agg #[Value.bool v2.num.g, Value.slice v2.num.a v2.num.n v2.num.c, Value.bool v2.den.g, Value.slice v2.den.a v2.den.n v2.den.c]); refine (toQ_at v2 d2 _ ?_ l2_0 l2_1).mono ?_; exact (unhide T).s2; rintro e wa2 ⟨qa2, rfl, hb, hna, ow, ar⟩; have hbx := hb; replace T := hide ((unhide T).later hbx); replace ka0 := (unhide T).x1_0; replace ka1 := (unhide T).x1_1; replace ka2 := (unhide T).x1_2; replace ka3 := (unhide T).x1_3; replace ka4 := (unhide T).x2_0; replace ka5 := (unhide T).x2_1; replace ka6 := (unhide T).x2_2; replace ka7 := (unhide T).x2_3; replace A0 := hide ((unhide A0).later hbx); replace A1 := hide ((unhide A1).later hbx); have A2 := hide ar; clear hb hbx ow ar hna)
    | (go_at_call 24; refine (unhide CS _ _ _ lA qa1 qa2 _ ?_ ?_ ?_ ?_).mono ?_; exact (unhide A0).arg; exact unhide DA; exact unhide A1; exact unhide A2; rintro e w5 ⟨rfl, hb⟩; have hbx := hb; replace T := hide ((unhide T).later hbx); replace ka0 := (unhide T).x1_0; replace ka1 := (unhide T).x1_1; replace ka2 := (unhide T).x1_2; replace ka3 := (unhide T).x1_3; replace ka4 := (unhide T).x2_0; replace ka5 := (unhide T).x2_1; replace ka6 := (unhide T).x2_2; replace ka7 := (unhide T).x2_3; replace A0 := hide ((unhide A0).later hbx); replace A1 := hide ((unhide A1).later hbx); replace A2 := hide ((unhide A2).later hbx); clear hb hbx))
  clear A0 DA A1 A2 ka0 ka1 ka2 ka3 ka4 ka5 ka6 ka7
  go_wp2_with fail
  refine (unhide TT0 _ ((unhide HS0).later (unhide T).bel)).mono ?_
  rintro e wx0 ⟨lX, rfl, hb, zX, dX, oX⟩
  replace T := hide ((unhide T).later hb)
  have OX := hide oX
  have DX := hide dX
  clear hb zX dX oX
  have p0 := (unhide T).x1_0
  have p1 := (unhide T).x1_1
  have p2 := (unhide T).x1_2
  have p3 := (unhide T).x1_3
  go_wp2_with fail
  refine (toQ_at v1 d1 _ (unhide T).s1 l1_0 l1_1).mono ?_
  rintro e wx1 ⟨y1, rfl, hb, hnn, ow, ar⟩
  have hn1 := hide hnn
  have VX1 := hide (VarQ.start 32 ow)
  have AX1 := hide (ar.later ((Below.refl _ _).alloc (Nat.le_refl _) (.cells #[.bool y1.num.g, .slice y1.num.a y1.num.n y1.num.c, .bool y1.den.g, .slice y1.den.a y1.den.n y1.den.c] 32)))
  replace T := hide (((unhide T).later hb).later ((Below.refl _ _).alloc (Nat.le_refl _) (.cells #[.bool y1.num.g, .slice y1.num.a y1.num.n y1.num.c, .bool y1.den.g, .slice y1.den.a y1.den.n y1.den.c] 32)))
  replace OX := hide (((unhide OX).later hb).later ((Below.refl _ _).alloc (Nat.le_refl _) (.cells #[.bool y1.num.g, .slice y1.num.a y1.num.n y1.num.c, .bool y1.den.g, .slice y1.den.a y1.den.n y1.den.c] 32)))
  clear hb hnn ow ar p0 p1 p2 p3
  have p0 := (unhide T).x2_0
  have p1 := (unhide T).x2_1
  have p2 := (unhide T).x2_2
  have p3 := (unhide T).x2_3
  go_wp2_with fail
  refine (toQ_at v2 d2 _ (unhide T).s2 l2_0 l2_1).mono ?_
  rintro e wx2 ⟨y2, rfl, hb, hnn, ow, ar⟩
  have hn2 := hide hnn
  have VX2 := hide (VarQ.start 32 ow)
  have AX2 := hide (ar.later ((Below.refl _ _).alloc (Nat.le_refl _) (.cells #[.bool y2.num.g, .slice y2.num.a y2.num.n y2.num.c, .bool y2.den.g, .slice y2.den.a y2.den.n y2.den.c] 32)))
  replace T := hide (((unhide T).later hb).later ((Below.refl _ _).alloc (Nat.le_refl _) (.cells #[.bool y2.num.g, .slice y2.num.a y2.num.n y2.num.c, .bool y2.den.g, .slice y2.den.a y2.den.n y2.den.c] 32)))
  replace OX := hide (((unhide OX).later hb).later ((Below.refl _ _).alloc (Nat.le_refl _) (.cells #[.bool y2.num.g, .slice y2.num.a y2.num.n y2.num.c, .bool y2.den.g, .slice y2.den.a y2.den.n y2.den.c] 32)))
  replace VX1 := hide (((unhide VX1).later hb).later ((Below.refl _ _).alloc (Nat.le_refl _) (.cells #[.bool y2.num.g, .slice y2.num.a y2.num.n y2.num.c, .bool y2.den.g, .slice y2.den.a y2.den.n y2.den.c] 32)))
  replace AX1 := hide (((unhide AX1).later hb).later ((Below.refl _ _).alloc (Nat.le_refl _) (.cells #[.bool y2.num.g, .slice y2.num.a y2.num.n y2.num.c, .bool y2.den.g, .slice y2.den.a y2.den.n y2.den.c] 32)))
  clear hb hnn ow ar p0 p1 p2 p3
  have p1_0 := (unhide VX1).c0
  have p1_1 := (unhide VX1).c1
  have p1_2 := (unhide VX1).c2
  have p1_3 := (unhide VX1).c3
  go_wp2_with fail
  refine (unhide CI _ _ _ lX y1 y2 _ (unhide OX).arg (unhide DX) (unhide AX1) (unhide AX2)).mono ?_
  rintro e w6 ⟨rfl, hb⟩
  clear AX1 AX2 p1_0 p1_1 p1_2 p1_3
  replace T := hide ((unhide T).later hb)
  replace OX := hide ((unhide OX).later hb)
  replace VX1 := hide ((unhide VX1).later hb)
  replace VX2 := hide ((unhide VX2).later hb)
  clear hb
  generalize wx1.heap.size = GX1 at *
  generalize wx2.heap.size = GX2 at *
  have ie : (g0 == g0) = true := by simp
  have be : (g1 == g1) = true := by simp
  go_wp2_with fail
  refine (unhide TT0 _ ((unhide HS0).later (unhide T).bel)).mono ?_
  rintro e wy0 ⟨lY, rfl, hb, zY, dY, oY⟩
  replace T := hide ((unhide T).later hb)
  replace OX := hide ((unhide OX).later hb)
  replace VX1 := hide ((unhide VX1).later hb)
  replace VX2 := hide ((unhide VX2).later hb)
  have OY := hide oY
  have DY := hide dY
  clear hb zY dY oY
  go_wp2_with fail
  refine (eqPQ _ _ n0 _ _ lX lY _ (unhide OX).arg.sl (unhide OY).arg.sl (unhide OX).len ((unhide DX).trans (unhide DY).symm) (Nat.le_trans (unhide OX).arg.cap (unhide OX).arg.top) (fun p hp => ⟨Nat.le_trans ((unhide OX).ar p hp).head.ar.cap ((unhide OX).ar p hp).head.ar.top, Nat.le_trans ((unhide OX).ar p hp).tail.head.ar.cap ((unhide OX).ar p hp).tail.head.ar.top⟩)).mono ?_
  rintro e wy1 ⟨rfl, hb⟩
  replace T := hide ((unhide T).later hb)
  replace OX := hide ((unhide OX).later hb)
  replace VX1 := hide ((unhide VX1).later hb)
  replace VX2 := hide ((unhide VX2).later hb)
  clear hb OY DY
  go_wp2_with fail
  have ka0 := (unhide T).x1_0
  have kx0 := (unhide VX1).c0
  have ka1 := (unhide T).x1_1
  have kx1 := (unhide VX1).c1
  have ka2 := (unhide T).x1_2
  have kx2 := (unhide VX1).c2
  have ka3 := (unhide T).x1_3
  have kx3 := (unhide VX1).c3
  go_region_held3 (fun w' => w'.cell? ⟨w.heap.size, 0, none⟩ = some (.bool v1.num.g) ∧ w'.cell? ⟨w.heap.size, 1, none⟩ = some (.slice v1.num.a v1.num.n v1.num.c) ∧ w'.cell? ⟨w.heap.size, 2, none⟩ = some (.bool v1.den.g) ∧ w'.cell? ⟨w.heap.size, 3, none⟩ = some (.slice v1.den.a v1.den.n v1.den.c) ∧ w'.cell? ⟨GX1, 0, none⟩ = some (.bool y1.num.g) ∧ w'.cell? ⟨GX1, 1, none⟩ = some (.slice y1.num.a y1.num.n y1.num.c) ∧ w'.cell? ⟨GX1, 2, none⟩ = some (.bool y1.den.g) ∧ w'.cell? ⟨GX1, 3, none⟩ = some (.slice y1.den.a y1.den.n y1.den.c)) (with_reducible (first | exact ⟨ka0, ka1, ka2, ka3, kx0, kx1, kx2, kx3⟩ | exact ⟨cd_other ka0, cd_other ka1, cd_other ka2, cd_other ka3, cd_other kx0, cd_other kx1, cd_other kx2, cd_other kx3⟩ | fail))
    (first
    | (go_at_call 17; refine (toQ_at v1 d1 _ ?_ l1_0 l1_1).mono ?_; exact (unhide T).s1.later (Below.refl _ _).drew; rintro e w7 ⟨u7, rfl, hb', hn7, ow7, ar7⟩; have hb := below_of_drew hb'; replace T := hide ((unhide T).later hb); replace OX := hide ((unhide OX).later hb); replace VX1 := hide ((unhide VX1).later hb); replace VX2 := hide ((unhide VX2).later hb); replace ka0 := (unhide T).x1_0; replace kx0 := (unhide VX1).c0; replace ka1 := (unhide T).x1_1; replace kx1 := (unhide VX1).c1; replace ka2 := (unhide T).x1_2; replace kx2 := (unhide VX1).c2; replace ka3 := (unhide T).x1_3; replace kx3 := (unhide VX1).c3; have S7 := hide ow7.sl; clear hb hb' ow7 ar7 hn7)
    | (go_at_call 20; refine (eqQ_at y1 u7 d1 _ (unhide VX1).own.sl (unhide S7) (by rw [(unhide hn1).1]; exact (unhide MM1).1) (by rw [(unhide hn1).2]; exact (unhide MM1).2)).mono ?_; rintro e w8 ⟨rfl, hb⟩; replace T := hide ((unhide T).later hb); replace OX := hide ((unhide OX).later hb); replace VX1 := hide ((unhide VX1).later hb); replace VX2 := hide ((unhide VX2).later hb); replace ka0 := (unhide T).x1_0; replace kx0 := (unhide VX1).c0; replace ka1 := (unhide T).x1_1; replace kx1 := (unhide VX1).c1; replace ka2 := (unhide T).x1_2; replace kx2 := (unhide VX1).c2; replace ka3 := (unhide T).x1_3; replace kx3 := (unhide VX1).c3; clear hb))
  clear S7 ka0 kx0 ka1 kx1 ka2 kx2 ka3 kx3
  go_wp2_with fail
  have ka0 := (unhide T).x2_0
  have kx0 := (unhide VX2).c0
  have ka1 := (unhide T).x2_1
  have kx1 := (unhide VX2).c1
  have ka2 := (unhide T).x2_2
  have kx2 := (unhide VX2).c2
  have ka3 := (unhide T).x2_3
  have kx3 := (unhide VX2).c3
  go_region_held3 (fun w' => w'.cell? ⟨w.heap.size + 1, 0, none⟩ = some (.bool v2.num.g) ∧ w'.cell? ⟨w.heap.size + 1, 1, none⟩ = some (.slice v2.num.a v2.num.n v2.num.c) ∧ w'.cell? ⟨w.heap.size + 1, 2, none⟩ = some (.bool v2.den.g) ∧ w'.cell? ⟨w.heap.size + 1, 3, none⟩ = some (.slice v2.den.a v2.den.n v2.den.c) ∧ w'.cell? ⟨GX2, 0, none⟩ = some (.bool y2.num.g) ∧ w'.cell? ⟨GX2, 1, none⟩ = some (.slice y2.num.a y2.num.n y2.num.c) ∧ w'.cell? ⟨GX2, 2, none⟩ = some (.bool y2.den.g) ∧ w'.cell? ⟨GX2, 3, none⟩ = some (.slice y2.den.a y2.den.n y2.den.c)) (with_reducible (first | exact ⟨ka0, ka1, ka2, ka3, kx0, kx1, kx2, kx3⟩ | exact ⟨cd_other ka0, cd_other ka1, cd_other ka2, cd_other ka3, cd_other kx0, cd_other kx1, cd_other kx2, cd_other kx3⟩ | fail))
    (first
    | (go_at_call 17; refine (toQ_at v2 d2 _ ?_ l2_0 l2_1).mono ?_; exact (unhide T).s2.later (Below.refl _ _).drew; rintro e w7 ⟨u7, rfl, hb', hn7, ow7, ar7⟩; have hb := below_of_drew hb'; replace T := hide ((unhide T).later hb); replace OX := hide ((unhide OX).later hb); replace VX1 := hide ((unhide VX1).later hb); replace VX2 := hide ((unhide VX2).later hb); replace ka0 := (unhide T).x2_0; replace kx0 := (unhide VX2).c0; replace ka1 := (unhide T).x2_1; replace kx1 := (unhide VX2).c1; replace ka2 := (unhide T).x2_2; replace kx2 := (unhide VX2).c2; replace ka3 := (unhide T).x2_3; replace kx3 := (unhide VX2).c3; have S7 := hide ow7.sl; clear hb hb' ow7 ar7 hn7)
    | (go_at_call 20; refine (eqQ_at y2 u7 d2 _ (unhide VX2).own.sl (unhide S7) (by rw [(unhide hn2).1]; exact (unhide MM2).1) (by rw [(unhide hn2).2]; exact (unhide MM2).2)).mono ?_; rintro e w8 ⟨rfl, hb⟩; replace T := hide ((unhide T).later hb); replace OX := hide ((unhide OX).later hb); replace VX1 := hide ((unhide VX1).later hb); replace VX2 := hide ((unhide VX2).later hb); replace ka0 := (unhide T).x2_0; replace kx0 := (unhide VX2).c0; replace ka1 := (unhide T).x2_1; replace kx1 := (unhide VX2).c1; replace ka2 := (unhide T).x2_2; replace kx2 := (unhide VX2).c2; replace ka3 := (unhide T).x2_3; replace kx3 := (unhide VX2).c3; clear hb))
  clear S7 ka0 kx0 ka1 kx1 ka2 kx2 ka3 kx3
  go_wp2
  go_ret
  exact ⟨rfl, (unhide T).bel⟩
end Go.Proofs.YtcbmecnipldcfaaGreat
namespace Go.Proofs.YtcbmecnipldcfaaGreat
open Go.ChangeShapes Go.WideShapes Go.ChangeAt Go.RowKit Go.Joins
set_option linter.unusedVariables false
set_option maxRecDepth 100000
set_option linter.unusedSimpArgs false

theorem open_ratc {H : Type} {enc : TypeId × Value → H} {W : World} {m : Nat} {c0 c1 c2 c3 : Value} {x : DataW H × List MemPlace}
    (hf : DataW.trod enc Tryz.prog W 0 (fun _ => true) true m 26 [c0, c1, c2, c3] = some x) :
    ∃ p : QV × QD, (c0 = .bool p.1.num.g ∧ c1 = .slice p.1.num.a p.1.num.n p.1.num.c ∧ c2 = .bool p.1.den.g ∧ c3 = .slice p.1.den.a p.1.den.n p.1.den.c) ∧ AllSl W [(p.1.num, p.2.num), (p.1.den, p.2.den)] ∧ p.1.num.n ≤ maxLen ∧ p.1.den.n ≤ maxLen := by
  obtain ⟨y0, y1, n, hx, _, h0, h1⟩ := trod_struct2 Tryz.underlying26 hf
  have k0 : DataW.trod enc Tryz.prog W 0 (fun _ => true) true n 24 [c0, c1] = some y0 := by simpa [Value.cells, Tryz.cells24] using h0
  have k1 : DataW.trod enc Tryz.prog W 0 (fun _ => true) true n 24 [c2, c3] = some y1 := by simpa [Value.cells, Tryz.cells24] using h1
  obtain ⟨z0, z1, n1, _, _, p0, p1⟩ := trod_struct2 Tryz.underlying24 k0
  obtain ⟨z2, z3, n2, _, _, p2, p3⟩ := trod_struct2 Tryz.underlying24 k1
  have c_b : Tryz.prog.cellsOf 4 = 1 := by kernel_rfl
  have c_s : Tryz.prog.cellsOf 22 = 1 := by kernel_rfl
  obtain ⟨g, a, n', c, xs, rfl, rfl, s1, s2, s3, _⟩ := open_two (c0 := c0) (c1 := c1) (by simpa [c_b] using p0) (by simpa [c_s] using p1)
  obtain ⟨h, b, q, e, us, rfl, rfl, t1, t2, t3, _⟩ := open_two (c0 := c2) (c1 := c3) (by simpa [c_b] using p2) (by simpa [c_s] using p3)
  exact ⟨(⟨⟨g, a, n', c⟩, ⟨h, b, q, e⟩⟩, ⟨⟨g, xs⟩, ⟨h, us⟩⟩), ⟨rfl, rfl, rfl, rfl⟩, AllSl.cons ⟨rfl, s1, s2⟩ (AllSl.cons ⟨rfl, t1, t2⟩ (AllSl.nil _)), s3, t3⟩
theorem addr_add (b off k : Nat) : (⟨b, off, none⟩ : Addr).add k = ⟨b, off + k, none⟩ := by
  unfold Addr.add
  split
  · rename_i h; subst h; rfl
  · rfl
theorem open_PQ {H : Type} {enc : TypeId × Value → H} {W : World} {r : Reach} {b0 : Nat} {v : Value} {d : DataW H} {p : List MemPlace}
    (hv : Value.okWide Tryz.prog W r b0 41 v) (h : DataW.Trod enc Tryz.prog W 0 (fun _ => true) true 41 v d p) :
    ∃ (a : Option Addr) (n c : Nat) (l : List (QV × QD)), v = .slice a n c ∧ PSlQ W a l ∧ l.length = n ∧ n ≤ maxLen ∧ ∀ p ∈ l, p.1.num.n ≤ maxLen ∧ p.1.den.n ≤ maxLen := by
  obtain ⟨a, n, c, rfl⟩ := okWide_slice Tryz.underlying41 hv
  obtain ⟨fuel, hf⟩ := h
  rcases Go.Deep.open_slice Tryz.underlying41 hf with ⟨hcs, _⟩ | ⟨a', len, cap, m, n', D, Pl, hcs, _, hl, hm, hmm, _, hx⟩
  · simp only [Value.cells, List.cons.injEq, Value.slice.injEq, and_true] at hcs
    obtain ⟨rfl, rfl, rfl⟩ := hcs
    exact ⟨none, 0, 0, [], rfl, ⟨.inl rfl, fun p hp => by cases hp⟩, rfl, Nat.zero_le _, fun p hp => by cases hp⟩
  · simp only [Value.cells, List.cons.injEq, Value.slice.injEq, and_true] at hcs
    obtain ⟨rfl, rfl, rfl⟩ := hcs
    simp only [if_true] at hmm
    subst hmm
    have each : ∀ i, i < n → ∃ p : QV × QD, (W.cell? ((a'.add (i * 4)).add 0) = some (.bool p.1.num.g) ∧ W.cell? ((a'.add (i * 4)).add 1) = some (.slice p.1.num.a p.1.num.n p.1.num.c) ∧ W.cell? ((a'.add (i * 4)).add 2) = some (.bool p.1.den.g) ∧ W.cell? ((a'.add (i * 4)).add 3) = some (.slice p.1.den.a p.1.den.n p.1.den.c)) ∧ AllSl W [(p.1.num, p.2.num), (p.1.den, p.2.den)] ∧ p.1.num.n ≤ maxLen ∧ p.1.den.n ≤ maxLen := by
      intro i hi
      obtain ⟨cs, h1, h2⟩ := hx i (by omega)
      rw [Tryz.cells26] at h1
      obtain ⟨_, h3, h4⟩ := World.cells?_some h1
      match cs, h3 with
      | [c0, c1, c2, c3], _ =>
        obtain ⟨p, ⟨rfl, rfl, rfl, rfl⟩, hp⟩ := open_ratc h2
        exact ⟨p, ⟨h4 0 (by omega), h4 1 (by omega), h4 2 (by omega), h4 3 (by omega)⟩, hp⟩
    have inh : Inhabited (QV × QD) := ⟨(⟨⟨false, none, 0, 0⟩, ⟨false, none, 0, 0⟩⟩, ⟨⟨false, []⟩, ⟨false, []⟩⟩)⟩
    obtain ⟨f, hf⟩ := Go.Deep.choose_lt each
    refine ⟨some a', n, m, (List.range n).map f, rfl, ⟨?_, ?_⟩, by simp, Nat.le_trans hl hm, ?_⟩
    · by_cases h0 : n = 0
      · subst h0; exact .inl rfl
      · obtain ⟨b, off, spot⟩ := a'
        have hc := (hf 0 (by omega)).1.1
        have hspot : spot = none := by simpa [Addr.add] using World.cell?_spot hc
        subst hspot
        refine .inr ⟨b, off, rfl, ?_, fun i hi => ?_⟩
        · have := World.block_lt_of_cell? _ _ hc
          rw [addr_add, addr_add] at this
          exact this
        · have hi' : i < n := by simpa using hi
          have h1 := (hf i hi').1
          rw [addr_add, addr_add, addr_add, addr_add, addr_add] at h1
          simpa using h1
    · intro p hp
      obtain ⟨i, hi, rfl⟩ := List.mem_map.1 hp
      exact (hf i (List.mem_range.1 hi)).2.1
    · intro p hp
      obtain ⟨i, hi, rfl⟩ := List.mem_map.1 hp
      exact (hf i (List.mem_range.1 hi)).2.2
end Go.Proofs.YtcbmecnipldcfaaGreat
namespace Go.Proofs.YtcbmecnipldcfaaGreat
open Go.ChangeShapes Go.WideShapes Go.ChangeAt Go.RowKit Go.Joins
set_option linter.unusedVariables false
set_option maxRecDepth 100000
set_option linter.unusedSimpArgs false

set_option maxRecDepth 100000 in
theorem bud_holds_lifted (os : Os) (started : os.Started) (H : Type) (enc : TypeId × Value → H) :
    ReturnsInHanded {} Tryz.checked os 5 .any (Rows.fnExactBudanCountSpec.pre6 enc Tryz.prog Tryz.f5 Rows.fnExactBudanCountRow.domain false) (Rows.fnExactBudanCountSpec.post enc Tryz.prog Tryz.f5 false true false false) := by
  refine returnsInHanded_of_change (C := Tryz.checked) own started (by kernel_rfl) Tryz.func5
    (ChangeSpec.witness6 (enc := enc) (C := Tryz.checked) false ⟨#[], #[.slice none 0 0, .agg #[.bool false, .slice none 0 0, .bool false, .slice none 0 0], .agg #[.bool false, .slice none 0 0, .bool false, .slice none 0 0]], []⟩ 8 (by kernel_rfl) (by kernel_rfl) (by kernel_rfl) (by kernel_rfl)) ?_
  intro W base args ds gs before hval0 hW hcnd _
  have hval : ∀ (j : Nat) t v, Tryz.f5.params[j]? = some t → args[j]? = some v → Value.okWide Tryz.prog W .any base t v := hval0
  have hW' := hW
  obtain ⟨p, q, hA0, hV, rfl, hfz, hnd⟩ := hW
  have hA : DataW.TrodAll enc Tryz.prog W 0 (fun _ => true) true Tryz.f5.params.toList args.toList ds p := hA0
  rw [Tryz.params5] at hA hval
  obtain ⟨v0, vs0, d0, ds0, p0, q0, hargs, rfl, rfl, h0, r0⟩ := trodAll_cons hA
  obtain ⟨v1, vs1, d1, ds1, p1, q1, rfl, rfl, rfl, h1, r1⟩ := trodAll_cons r0
  obtain ⟨v2, vs2, d2, ds2, p2, q2, rfl, rfl, rfl, h2, r2⟩ := trodAll_cons r1
  obtain ⟨rfl, rfl, rfl⟩ := trodAll_nil r2
  obtain rfl : args = #[v0, v1, v2] := by cases args; simp_all
  obtain ⟨rfl, rfl⟩ := trodVars_none hV
  have lt0 : ∀ x ∈ p0, x.block < W.heap.size := by obtain ⟨m, hm⟩ := h0; exact DataW.trod_lt m _ _ _ hm
  obtain ⟨a0, n0, c0, l0, rfl, sl0, hn0, hm0, ml0⟩ := open_PQ (hval 0 41 v0 rfl rfl) h0
  have lt1 : ∀ x ∈ p1, x.block < W.heap.size := by obtain ⟨m, hm⟩ := h1; exact DataW.trod_lt m _ _ _ hm
  obtain ⟨u1, e1, rfl, sl1, m1_0, m1_1⟩ := open_Q (hval 1 26 v1 rfl rfl) h1
  have lt2 : ∀ x ∈ p2, x.block < W.heap.size := by obtain ⟨m, hm⟩ := h2; exact DataW.trod_lt m _ _ _ hm
  obtain ⟨u2, e2, rfl, sl2, m2_0, m2_1⟩ := open_Q (hval 2 26 v2 rfl rfl) h2
  clear hA0 hval0
  refine (lawBud_walk a0 n0 c0 l0 u1 u2 e1 e2 W sl0 hn0 sl1 sl2 hm0 ml0 m1_0 m1_1 m2_0 m2_1).mono fun e W' ⟨he, bel⟩ => ?_
  subst he
  exact ⟨_, rfl, _, _, _, [], _, [], hW', trodAll_mk1 (shut_bool Tryz.underlying4 _), (trodAll_cons_mk (Below.trod laidOut (by kernel_rfl) (of_decide_eq_true (by kernel_rfl)) h0 bel lt0) (trodAll_cons_mk (Below.trod laidOut (by kernel_rfl) (of_decide_eq_true (by kernel_rfl)) h1 bel lt1) (trodAll_cons_mk (Below.trod laidOut (by kernel_rfl) (of_decide_eq_true (by kernel_rfl)) h2 bel lt2) trodAll_mk0))), rfl, bel.frame _, fun h => by cases h⟩

theorem bud_holds_c0 : (Rows.fnExactBudanCountRow.wf (OpenSpec.ofChange Rows.fnExactBudanCountSpec)) = true := by kernel_rfl
theorem bud_holds_c1 : (laidOutB Tryz.pinned.checked.prog) = true := by kernel_rfl
theorem bud_holds_c2 : (mapsRowed Tryz.pinned.checked.prog) = true := by kernel_rfl
theorem bud_holds_c3 : (Tryz.f5.params.all (Tryz.pinned.checked.prog.readableRec ·)) = true := by kernel_rfl
theorem bud_holds_c4 : (namedTie Tryz.pinned.checked.prog Rows.fnExactBudanCountRow.named Rows.fnExactBudanCountSpec.vars) = true := by kernel_rfl
theorem bud_holds_c5 : (Rows.fnExactBudanCountRow.stops == []) = true := by kernel_rfl
theorem bud_holds_c6 : (Tryz.pinned.checked.prog.stops == []) = true := by kernel_rfl
theorem bud_holds_c7 : (Rows.fnExactBudanCountRow.knobs == []) = true := by kernel_rfl
theorem bud_holds_c8 : (Tryz.pinned.checked.prog.stopKnobs == []) = true := by kernel_rfl
theorem bud_holds_c9 : (Rows.fnExactBudanCountRow.inPlace == Tryz.pinned.checked.prog.inPlace 5) = true := by kernel_rfl
theorem bud_holds_c10 : (Rows.fnExactBudanCountRow.unfollowed == Tryz.pinned.checked.prog.unfollowed 5) = true := by kernel_rfl
theorem bud_holds_c11 : (Rows.fnExactBudanCountRow.recurses == Tryz.pinned.checked.prog.recurses 5) = true := by kernel_rfl
theorem bud_holds_c12 : (Rows.fnExactBudanCountRow.named == Tryz.pinned.checked.prog.varsNamed 5) = true := by kernel_rfl
theorem bud_holds_c13 : (Rows.fnExactBudanCountRow.maps == (Tryz.f5.params.toList ++ Rows.fnExactBudanCountSpec.plain.varTypes Tryz.pinned.checked.prog).any (Tryz.pinned.checked.prog.mapsRec ·)) = true := by kernel_rfl
theorem bud_holds_c14 : (Rows.fnExactBudanCountRow.ifaces == (Tryz.f5.params.toList ++ Rows.fnExactBudanCountSpec.plain.varTypes Tryz.pinned.checked.prog).any (Tryz.pinned.checked.prog.ifacesRec ·)) = true := by kernel_rfl
theorem bud_holds_c15 : (Rows.fnExactBudanCountRow.mapsOut == Tryz.pinned.checked.prog.mapsAmong Tryz.f5.resultTypes.toList) = true := by kernel_rfl
theorem bud_holds_c16 : (Rows.fnExactBudanCountRow.loops == (Tryz.f5.params.toList ++ Rows.fnExactBudanCountSpec.plain.varTypes Tryz.pinned.checked.prog).any (Tryz.pinned.checked.prog.loopsFrom ·)) = true := by kernel_rfl
theorem bud_holds_c17 : (Rows.fnExactBudanCountRow.wideKeys == (Tryz.f5.params.toList ++ Rows.fnExactBudanCountSpec.plain.varTypes Tryz.pinned.checked.prog ++ Tryz.f5.resultTypes.toList).any (Tryz.pinned.checked.prog.wideKeysFrom ·)) = true := by kernel_rfl
theorem bud_holds_c18 : (Rows.fnExactBudanCountSpec.vars.all (Tryz.pinned.checked.prog.varReadable ·)) = true := by kernel_rfl
theorem bud_holds_c19 : (Tryz.f5.resultTypes.all (fun t => Tryz.pinned.checked.prog.readableRec t && decide (t < Tryz.pinned.checked.prog.types.size))) = true := by kernel_rfl
theorem bud_holds_c20 : (Rows.fnExactBudanCountRow.ifacesOut == Tryz.f5.resultTypes.toList.any (Tryz.pinned.checked.prog.ifacesRec ·)) = true := by kernel_rfl
theorem bud_holds_c21 : (Rows.fnExactBudanCountRow.loopsOut == Tryz.f5.resultTypes.toList.any (Tryz.pinned.checked.prog.loopsFrom ·)) = true := by kernel_rfl
theorem bud_holds_c22 : (Rows.fnExactBudanCountRow.plainKeys == Tryz.pinned.checked.prog.plainKeys) = true := by kernel_rfl
theorem bud_holds_c23 : (Rows.fnExactBudanCountRow.shortTexts.isNone) = true := by kernel_rfl
theorem bud_holds_c24 : (Tryz.pinned.checked.prog.stopsHeard) = true := by kernel_rfl
theorem bud_holds_c25 : (Tryz.pinned.checked.prog.mayEnter) = true := io_enter
theorem bud_holds_c26 : (Rows.fnExactBudanCountRow.lifted == Tryz.pinned.checked.prog.liftsFinal) = true := by rw [io_lifts]; kernel_rfl
theorem bud_holds_c27 : (Tryz.pinned.checked.prog.make == some Rows.fnExactBudanCountRow.make) = true := by rw [io_make]; kernel_rfl
theorem bud_holds_c28 : (Rows.fnExactBudanCountRow.kinds == (if Rows.fnExactBudanCountRow.domain.isEmpty then [] else Tryz.f5.params.toList.map fun t => match Tryz.pinned.checked.prog.underlying t with | some (.int k) => some k | _ => none)) = true := by kernel_rfl
theorem bud_holds_c29 : (Rows.fnExactBudanCountRow.pinned == Rows.fnExactBudanCountRow.pinnedBy) = true := by kernel_rfl
theorem bud_holds_c30 : (Rows.fnExactBudanCountRow.veiled == (Tryz.f5.params.toList ++ Rows.fnExactBudanCountSpec.plain.varTypes Tryz.pinned.checked.prog ++ Tryz.f5.resultTypes.toList).any (Tryz.pinned.checked.prog.veiledRec ·)) = true := by kernel_rfl
theorem bud_holds_c31 : (Rows.fnExactBudanCountRow.veiledFits Tryz.pinned.checked.prog Tryz.f5.params.toList (Tryz.f5.params.toList ++ Rows.fnExactBudanCountSpec.plain.varTypes Tryz.pinned.checked.prog ++ Tryz.f5.resultTypes.toList)) = true := by kernel_rfl
theorem bud_holds_and {a b : Bool} (h : a = true) (k : b = true) : (a && b) = true := by rw [h, k]; rfl
theorem bud_holds_closed : joinedFacts Tryz.pinned.checked.prog 5 Tryz.f5 Rows.fnExactBudanCountSpec Rows.fnExactBudanCountRow = true := (bud_holds_and (bud_holds_and (bud_holds_and (bud_holds_and (bud_holds_and (bud_holds_and (bud_holds_and (bud_holds_and (bud_holds_and (bud_holds_and (bud_holds_and (bud_holds_and (bud_holds_and (bud_holds_and (bud_holds_and (bud_holds_and (bud_holds_and (bud_holds_and (bud_holds_and (bud_holds_and (bud_holds_and (bud_holds_and (bud_holds_and (bud_holds_and (bud_holds_and (bud_holds_and (bud_holds_and (bud_holds_and (bud_holds_and (bud_holds_and (bud_holds_and bud_holds_c0 bud_holds_c1) bud_holds_c2) bud_holds_c3) bud_holds_c4) bud_holds_c5) bud_holds_c6) bud_holds_c7) bud_holds_c8) bud_holds_c9) bud_holds_c10) bud_holds_c11) bud_holds_c12) bud_holds_c13) bud_holds_c14) bud_holds_c15) bud_holds_c16) bud_holds_c17) bud_holds_c18) bud_holds_c19) bud_holds_c20) bud_holds_c21) bud_holds_c22) bud_holds_c23) bud_holds_c24) bud_holds_c25) bud_holds_c26) bud_holds_c27) bud_holds_c28) bud_holds_c29) bud_holds_c30) bud_holds_c31)
theorem bud_holds_named : Tryz.pinned.checked.prog.funcNamed Rows.fnExactBudanCountRow.func = some 5 := by kernel_rfl
theorem bud_holds_inst : Tryz.f5.isInstance Tryz.pinned.checked.prog Rows.fnExactBudanCountRow.origin Rows.fnExactBudanCountRow.targs := of_decide_eq_true (by kernel_rfl)
theorem bud_holds_wrap : Tryz.f5.isWrapper Tryz.pinned.checked.prog Rows.fnExactBudanCountRow.wrapper Rows.fnExactBudanCountRow.mainSum := by unfold Func.isWrapper; first | (rw [if_pos (by decide +kernel)]; kernel_rfl) | (rw [if_neg (by decide +kernel)]; exact ⟨rfl, rfl⟩)
theorem bud_holds : Rows.FnExactBudanCountSaid :=
  OpenClaim.holds_of_wide 5 Tryz.f5 rfl rfl rfl rfl rfl rfl rfl ⟨rfl, rfl, rfl, rfl, rfl⟩ rfl rfl rfl rfl rfl bud_holds_named Tryz.func5 bud_holds_closed bud_holds_inst bud_holds_wrap
    (fun os started H enc _ => bud_holds_lifted os started H enc)
#print axioms bud_holds
end Go.Proofs.YtcbmecnipldcfaaGreat
