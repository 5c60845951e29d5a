/- l12Sweep of the specification, at every good list of points. No condition beyond those typed. Written by mksw13.py. -/
import Derived.Test.YtikllcoekcglcaaGreatPkR5
import Derived.Test.YtikllcoekcglcaaGreatPkR4
import Derived.Deep.Slices
namespace Go.Proofs.YtikllcoekcglcaaGreat
open Go.ChangeShapes Go.WideShapes Go.ChangeAt Go.RowKit Go.Joins
set_option linter.unusedVariables false
set_option maxRecDepth 100000
set_option linter.unusedSimpArgs false

theorem open_spanc {H : Type} {enc : TypeId × Value → H} {W : World} {m : Nat} {c0 c1 c2 c3 c4 c5 c6 c7 : Value} {x : DataW H × List MemPlace}
    (hf : DataW.trod enc Tryz.prog W 0 (fun _ => true) true m 80 [c0, c1, c2, c3, c4, c5, c6, c7] = some x) :
    ∃ p : SV × SD, (c0 = .bool p.1.lo.num.g ∧ c1 = .slice p.1.lo.num.a p.1.lo.num.n p.1.lo.num.c ∧ c2 = .bool p.1.lo.den.g ∧ c3 = .slice p.1.lo.den.a p.1.lo.den.n p.1.lo.den.c ∧ c4 = .bool p.1.hi.num.g ∧ c5 = .slice p.1.hi.num.a p.1.hi.num.n p.1.hi.num.c ∧ c6 = .bool p.1.hi.den.g ∧ c7 = .slice p.1.hi.den.a p.1.hi.den.n p.1.hi.den.c) ∧ AllSl W [(p.1.lo.num, p.2.lo.num), (p.1.lo.den, p.2.lo.den), (p.1.hi.num, p.2.hi.num), (p.1.hi.den, p.2.hi.den)] ∧ p.1.lo.num.n ≤ maxLen ∧ p.1.lo.den.n ≤ maxLen ∧ p.1.hi.num.n ≤ maxLen ∧ p.1.hi.den.n ≤ maxLen := by
  obtain ⟨y0, y1, n, hx, _, h0, h1⟩ := trod_struct2 Tryz.underlying80 hf
  have k0 : DataW.trod enc Tryz.prog W 0 (fun _ => true) true n 69 [c0, c1, c2, c3] = some y0 := by simpa [Value.cells, Tryz.cells69] using h0
  have k1 : DataW.trod enc Tryz.prog W 0 (fun _ => true) true n 69 [c4, c5, c6, c7] = some y1 := by simpa [Value.cells, Tryz.cells69] using h1
  obtain ⟨p, ⟨rfl, rfl, rfl, rfl⟩, hp, s1, s2⟩ := open_ratc k0
  obtain ⟨q, ⟨rfl, rfl, rfl, rfl⟩, hq, t1, t2⟩ := open_ratc k1
  exact ⟨(⟨p.1, q.1⟩, ⟨p.2, q.2⟩), ⟨rfl, rfl, rfl, rfl, rfl, rfl, rfl, rfl⟩, AllSl.cons hp.head (AllSl.cons hp.tail.head hq), s1, s2, t1, t2⟩
theorem open_PS {H : Type} {enc : TypeId × Value → H} {W : World} {r : Reach} {b0 : Nat} {v : Value} {d : DataW H} {p : List MemPlace}
    (hv : Value.okWide Tryz.prog W r b0 66 v) (h : DataW.Trod enc Tryz.prog W 0 (fun _ => true) true 66 v d p) :
    ∃ (a : Option Addr) (n c : Nat) (l : List (SV × SD)), v = .slice a n c ∧ PSlS W a l ∧ l.length = n ∧ n ≤ maxLen ∧ ∀ p ∈ l, p.1.lo.num.n ≤ maxLen ∧ p.1.lo.den.n ≤ maxLen ∧ p.1.hi.num.n ≤ maxLen ∧ p.1.hi.den.n ≤ maxLen := by
  obtain ⟨a, n, c, rfl⟩ := okWide_slice Tryz.underlying66 hv
  obtain ⟨fuel, hf⟩ := h
  rcases Go.Deep.open_slice Tryz.underlying66 hf with ⟨hcs, _⟩ | ⟨a', len, cap, m, n', D, Pl, hcs, _, hl, hm, hmm, _, hx⟩
  · simp only [Value.cells, List.cons.injEq, Value.slice.injEq, and_true] at hcs
    obtain ⟨rfl, rfl, rfl⟩ := hcs
    exact ⟨none, 0, 0, [], rfl, ⟨.inl rfl, fun p hp => by cases hp⟩, rfl, Nat.zero_le _, fun p hp => by cases hp⟩
  · simp only [Value.cells, List.cons.injEq, Value.slice.injEq, and_true] at hcs
    obtain ⟨rfl, rfl, rfl⟩ := hcs
    simp only [if_true] at hmm
    subst hmm
    have each : ∀ i, i < n → ∃ p : SV × SD, (W.cell? ((a'.add (i * 8)).add 0) = some (.bool p.1.lo.num.g) ∧ W.cell? ((a'.add (i * 8)).add 1) = some (.slice p.1.lo.num.a p.1.lo.num.n p.1.lo.num.c) ∧ W.cell? ((a'.add (i * 8)).add 2) = some (.bool p.1.lo.den.g) ∧ W.cell? ((a'.add (i * 8)).add 3) = some (.slice p.1.lo.den.a p.1.lo.den.n p.1.lo.den.c) ∧ W.cell? ((a'.add (i * 8)).add 4) = some (.bool p.1.hi.num.g) ∧ W.cell? ((a'.add (i * 8)).add 5) = some (.slice p.1.hi.num.a p.1.hi.num.n p.1.hi.num.c) ∧ W.cell? ((a'.add (i * 8)).add 6) = some (.bool p.1.hi.den.g) ∧ W.cell? ((a'.add (i * 8)).add 7) = some (.slice p.1.hi.den.a p.1.hi.den.n p.1.hi.den.c)) ∧ AllSl W [(p.1.lo.num, p.2.lo.num), (p.1.lo.den, p.2.lo.den), (p.1.hi.num, p.2.hi.num), (p.1.hi.den, p.2.hi.den)] ∧ p.1.lo.num.n ≤ maxLen ∧ p.1.lo.den.n ≤ maxLen ∧ p.1.hi.num.n ≤ maxLen ∧ p.1.hi.den.n ≤ maxLen := by
      intro i hi
      obtain ⟨cs, h1, h2⟩ := hx i (by omega)
      rw [Tryz.cells80] at h1
      obtain ⟨_, h3, h4⟩ := World.cells?_some h1
      match cs, h3 with
      | [c0, c1, c2, c3, c4, c5, c6, c7], _ =>
        obtain ⟨p, ⟨rfl, rfl, rfl, rfl, rfl, rfl, rfl, rfl⟩, hp⟩ := open_spanc h2
        exact ⟨p, ⟨h4 0 (by omega), h4 1 (by omega), h4 2 (by omega), h4 3 (by omega), h4 4 (by omega), h4 5 (by omega), h4 6 (by omega), h4 7 (by omega)⟩, hp⟩
    have inh : Inhabited (SV × SD) := ⟨(⟨⟨⟨false, none, 0, 0⟩, ⟨false, none, 0, 0⟩⟩, ⟨⟨false, none, 0, 0⟩, ⟨false, none, 0, 0⟩⟩⟩, ⟨⟨⟨false, []⟩, ⟨false, []⟩⟩, ⟨⟨false, []⟩, ⟨false, []⟩⟩⟩)⟩
    obtain ⟨f, hf⟩ := Go.Deep.choose_lt each
    refine ⟨some a', n, m, (List.range n).map f, rfl, ⟨?_, ?_⟩, by simp, Nat.le_trans hl hm, ?_⟩
    · by_cases h0 : n = 0
      · subst h0; exact .inl rfl
      · obtain ⟨b, off, spot⟩ := a'
        have hc := (hf 0 (by omega)).1.1
        have hspot : spot = none := by simpa [Addr.add] using World.cell?_spot hc
        subst hspot
        refine .inr ⟨b, off, rfl, ?_, fun i hi => ?_⟩
        · have := World.block_lt_of_cell? _ _ hc
          rw [addr_add, addr_add] at this
          exact this
        · have hi' : i < n := by simpa using hi
          have h1 := (hf i hi').1
          rw [addr_add, addr_add, addr_add, addr_add, addr_add, addr_add, addr_add, addr_add, addr_add] at h1
          simpa using h1
    · intro p hp
      obtain ⟨i, hi, rfl⟩ := List.mem_map.1 hp
      exact (hf i (List.mem_range.1 hi)).2.1
    · intro p hp
      obtain ⟨i, hi, rfl⟩ := List.mem_map.1 hp
      exact (hf i (List.mem_range.1 hi)).2.2
end Go.Proofs.YtikllcoekcglcaaGreat
namespace Go.Proofs.YtikllcoekcglcaaGreat
open Go.RowKit
set_option linter.unusedVariables false
set_option maxRecDepth 100000
set_option linter.unusedSimpArgs false

/-- A row of n points at block B, whose limbs lie below block E. -/
structure GrE (B n E : Nat) (w : World) (us : List (SV × SD)) : Prop where
  row : ∃ M, w.ownsRow B 34 8 (.slice (some ⟨B, 0, none⟩) n n) n M ∧ ∀ i (h : i < us.length), M[i * 8]? = some (.bool us[i].1.lo.num.g) ∧ M[i * 8 + 1]? = some (.slice us[i].1.lo.num.a us[i].1.lo.num.n us[i].1.lo.num.c) ∧ M[i * 8 + 2]? = some (.bool us[i].1.lo.den.g) ∧ M[i * 8 + 3]? = some (.slice us[i].1.lo.den.a us[i].1.lo.den.n us[i].1.lo.den.c) ∧ M[i * 8 + 4]? = some (.bool us[i].1.hi.num.g) ∧ M[i * 8 + 5]? = some (.slice us[i].1.hi.num.a us[i].1.hi.num.n us[i].1.hi.num.c) ∧ M[i * 8 + 6]? = some (.bool us[i].1.hi.den.g) ∧ M[i * 8 + 7]? = some (.slice us[i].1.hi.den.a us[i].1.hi.den.n us[i].1.hi.den.c)
  own : AllOwn (B + 1) E w (zipPS us)
  ar : ∀ p ∈ us, AllAr w [(p.1.lo.num, p.2.lo.num), (p.1.lo.den, p.2.lo.den), (p.1.hi.num, p.2.hi.num), (p.1.hi.den, p.2.hi.den)]
  lt : B < E
  le : E ≤ w.heap.size
  len : us.length = n
theorem GrZ.e {B n : Nat} {w w' : World} {us : List (SV × SD)} (h : GrZ B n w us) (hb : Below w.heap.size w w') : GrE B n w.heap.size w' us := by
  have h2 := h.later hb
  exact ⟨h2.row, h.own.later hb, h2.ar, h.lt, hb.size, h.len⟩
theorem GrE.z {B n E : Nat} {w : World} {us : List (SV × SD)} (h : GrE B n E w us) : GrZ B n w us := ⟨h.row, h.own.wide (Nat.le_refl _) h.le, h.ar, Nat.lt_of_lt_of_le h.lt h.le, h.len⟩
theorem GrE.put {B n E E' k : Nat} {w : World} {us : List (SV × SD)} {u : SV} {d : SD} (h : GrE B n E w us) (hk : k < n) (hE : E ≤ E') (hE' : E' ≤ w.heap.size) (ho : AllOwn E E' w [(u.lo.num, d.lo.num), (u.lo.den, d.lo.den), (u.hi.num, d.hi.num), (u.hi.den, d.hi.den)]) (ha : AllAr w [(u.lo.num, d.lo.num), (u.lo.den, d.lo.den), (u.hi.num, d.hi.num), (u.hi.den, d.hi.den)]) : GrE B n E' ((((((((w.setCell ⟨B, k * 8, none⟩ (.bool u.lo.num.g)).setCell ⟨B, k * 8 + 1, none⟩ (.slice u.lo.num.a u.lo.num.n u.lo.num.c)).setCell ⟨B, k * 8 + 2, none⟩ (.bool u.lo.den.g)).setCell ⟨B, k * 8 + 3, none⟩ (.slice u.lo.den.a u.lo.den.n u.lo.den.c)).setCell ⟨B, k * 8 + 4, none⟩ (.bool u.hi.num.g)).setCell ⟨B, k * 8 + 5, none⟩ (.slice u.hi.num.a u.hi.num.n u.hi.num.c)).setCell ⟨B, k * 8 + 6, none⟩ (.bool u.hi.den.g)).setCell ⟨B, k * 8 + 7, none⟩ (.slice u.hi.den.a u.hi.den.n u.hi.den.c)) (us.set k (u, d)) := by
  obtain ⟨M, hM, hL⟩ := h.row
  have bt : But B (B + 1) w ((((((((w.setCell ⟨B, k * 8, none⟩ (.bool u.lo.num.g)).setCell ⟨B, k * 8 + 1, none⟩ (.slice u.lo.num.a u.lo.num.n u.lo.num.c)).setCell ⟨B, k * 8 + 2, none⟩ (.bool u.lo.den.g)).setCell ⟨B, k * 8 + 3, none⟩ (.slice u.lo.den.a u.lo.den.n u.lo.den.c)).setCell ⟨B, k * 8 + 4, none⟩ (.bool u.hi.num.g)).setCell ⟨B, k * 8 + 5, none⟩ (.slice u.hi.num.a u.hi.num.n u.hi.num.c)).setCell ⟨B, k * 8 + 6, none⟩ (.bool u.hi.den.g)).setCell ⟨B, k * 8 + 7, none⟩ (.slice u.hi.den.a u.hi.den.n u.hi.den.c)) := but_rowS
  have hkl : k < us.length := by rw [h.len]; exact hk
  have own := AllOwn.replZ (U := zipPS [(u, d)]) (by have := h.own; rw [(zipS_set (u := (u, d)) hkl).1] at this; exact this) (by rw [zipPS_one]; exact ho) (Nat.succ_le_of_lt h.lt) hE
  rw [← (zipS_set (u := (u, d)) hkl).2] at own
  have ar : AllAr w (zipPS (us.set k (u, d))) := allSl_ar_mem (fun p hp => by
    rcases List.mem_or_eq_of_mem_set hp with hp | rfl
    · exact h.ar p hp
    · exact ha)
  exact ⟨⟨_, (World.ownsRow.stored (World.ownsRow.stored (World.ownsRow.stored (World.ownsRow.stored (World.ownsRow.stored (World.ownsRow.stored (World.ownsRow.stored (World.ownsRow.stored hM (k * 8) (.bool u.lo.num.g)).1 (k * 8 + 1) (.slice u.lo.num.a u.lo.num.n u.lo.num.c)).1 (k * 8 + 2) (.bool u.lo.den.g)).1 (k * 8 + 3) (.slice u.lo.den.a u.lo.den.n u.lo.den.c)).1 (k * 8 + 4) (.bool u.hi.num.g)).1 (k * 8 + 5) (.slice u.hi.num.a u.hi.num.n u.hi.num.c)).1 (k * 8 + 6) (.bool u.hi.den.g)).1 (k * 8 + 7) (.slice u.hi.den.a u.hi.den.n u.hi.den.c)).1, rep_rowS hM.1 h.len hk hL⟩, own.but bt (.inr (Nat.le_refl _)), fun p hp x hx => ar_fin bt own ar (Nat.le_refl _) x (zipPS_mem hp hx), Nat.lt_of_lt_of_le h.lt hE, Nat.le_trans hE' bt.size, by rw [List.length_set]; exact h.len⟩
theorem GwZ.one {w : World} {u : SV} {d : SD} (ht : TypZ w [(u.lo.num, d.lo.num), (u.lo.den, d.lo.den), (u.hi.num, d.hi.num), (u.hi.den, d.hi.den)]) (ha : AllAr w [(u.lo.num, d.lo.num), (u.lo.den, d.lo.den), (u.hi.num, d.hi.num), (u.hi.den, d.hi.den)]) : GwZ w.heap.size (w.alloc (.cells #[.bool u.lo.num.g, .slice u.lo.num.a u.lo.num.n u.lo.num.c, .bool u.lo.den.g, .slice u.lo.den.a u.lo.den.n u.lo.den.c, .bool u.hi.num.g, .slice u.hi.num.a u.hi.num.n u.hi.num.c, .bool u.hi.den.g, .slice u.hi.den.a u.hi.den.n u.hi.den.c] 34)) (.slice (some ⟨w.heap.size, 0, none⟩) 1 1) [(u, d)] := by
  have al : Below w.heap.size w (w.alloc (.cells #[.bool u.lo.num.g, .slice u.lo.num.a u.lo.num.n u.lo.num.c, .bool u.lo.den.g, .slice u.lo.den.a u.lo.den.n u.lo.den.c, .bool u.hi.num.g, .slice u.hi.num.a u.hi.num.n u.hi.num.c, .bool u.hi.den.g, .slice u.hi.den.a u.hi.den.n u.hi.den.c] 34)) := (Below.refl _ _).alloc (Nat.le_refl _) _
  refine ⟨⟨rfl, .inr ⟨w.heap.size, 1, #[.bool u.lo.num.g, .slice u.lo.num.a u.lo.num.n u.lo.num.c, .bool u.lo.den.g, .slice u.lo.den.a u.lo.den.n u.lo.den.c, .bool u.hi.num.g, .slice u.hi.num.a u.hi.num.n u.hi.num.c, .bool u.hi.den.g, .slice u.hi.den.a u.hi.den.n u.hi.den.c], rfl, Nat.le_refl _, heap_alloc_new _ _, Nat.le_refl _, by unfold maxLen; omega, rfl, rfl⟩⟩, ?_, ?_⟩
  · rw [zipPS_one]; exact ht.later al
  · rw [zipPS_one]; exact ha.later al

end Go.Proofs.YtikllcoekcglcaaGreat
namespace Go.Proofs.YtikllcoekcglcaaGreat
open Go.RowKit
set_option linter.unusedVariables false
set_option maxRecDepth 100000
set_option linter.unusedSimpArgs false

/-- Differences, and of these again; how many choices there are; what each power has. -/
def dfK (ps : List (Rat × Rat)) : Nat → List (Rat × Rat)
  | 0 => ps
  | k + 1 => dfR (dfK ps k)
def hdP (qs : List (Rat × Rat)) : Rat × Rat := (qs[0]?).getD (0, 0)
def cho (n : Nat) : Nat → Int
  | 0 => 1
  | i + 1 => (cho n i * ((n : Int) - 1 - (i : Int))).tdiv ((i : Int) + 1)
def tmP (p : Rat × Rat) (c : Int) : Rat × Rat := (p.1 * (c : Rat), p.2 * (c : Rat))
def pwP (ps : List (Rat × Rat)) (i : Nat) : Rat × Rat := tmP (hdP (dfK ps i)) (cho ps.length i)
def pwL (ps : List (Rat × Rat)) : List (Rat × Rat) := (List.range ps.length).map (pwP ps)
theorem cho_all : ∀ n : Fin 5, ∀ i : Fin 6, 0 ≤ cho (n.val + 1) i.val ∧ cho (n.val + 1) i.val ≤ 6 := by decide
theorem cho_bd {n i : Nat} (h1 : 1 ≤ n) (hn : n ≤ 5) (hi : i ≤ 5) : 0 ≤ cho n i ∧ cho n i ≤ 6 := by
  have h := cho_all ⟨n - 1, by omega⟩ ⟨i, by omega⟩
  rw [show n - 1 + 1 = n by omega] at h
  exact h
def dK : Nat → Nat
  | 0 => 40
  | k + 1 => 2 * dK k + 1
theorem dK_le {k : Nat} (h : k ≤ 5) : dK k ≤ 1400 := by
  match k, h with
  | 0, _ => decide
  | 1, _ => decide
  | 2, _ => decide
  | 3, _ => decide
  | 4, _ => decide
  | 5, _ => decide
theorem dfK_bd {ps : List (Rat × Rat)} (h : BdC ps 40) : ∀ k, BdC (dfK ps k) (dK k)
  | 0 => h
  | k + 1 => (dfK_bd h k).dfR
theorem dfK_len (ps : List (Rat × Rat)) : ∀ k, (dfK ps k).length = ps.length - k
  | 0 => rfl
  | k + 1 => by show (dfR (dfK ps k)).length = _; unfold dfR; rw [zw_len, dfK_len ps k]; omega
theorem pwL_len (ps : List (Rat × Rat)) : (pwL ps).length = ps.length := by unfold pwL; simp
theorem pwL_get {ps : List (Rat × Rat)} {i : Nat} {p : Rat × Rat} (h : (pwL ps)[i]? = some p) : i < ps.length ∧ p = pwP ps i := by
  unfold pwL at h
  rw [List.getElem?_map] at h
  by_cases hi : i < ps.length
  · rw [List.getElem?_range hi] at h
    exact ⟨hi, (Option.some.inj h).symm⟩
  · rw [List.getElem?_eq_none (by simp; omega)] at h
    cases h
theorem pwL_bd {ps : List (Rat × Rat)} (h : BdC ps 40) (h5 : ps.length ≤ 5) : BdC (pwL ps) 1401 := fun x hx => by
  obtain ⟨i, hi, rfl⟩ := List.mem_map.1 hx
  have hi := List.mem_range.1 hi
  have hl := dfK_len ps i
  have hd : BdP (hdP (dfK ps i)) (dK i) := by unfold hdP; rw [List.getElem?_eq_getElem (by omega)]; exact dfK_bd h i _ (List.getElem_mem _)
  have hk := dK_le (show i ≤ 5 by omega)
  have hc := cho_bd (show 1 ≤ ps.length by omega) h5 (show i ≤ 5 by omega)
  have hb := bdR_int (n := cho ps.length i) (by omega) (by omega)
  exact ⟨(hd.x.mul hb).mono (by omega), (hd.y.mul hb).mono (by omega)⟩
/-- A row that is read, apart from block B: an argument, or a call's own. -/
def RdF (w0 : World) (B : Nat) (w : World) (a : Option Addr) (n c : Nat) (l : List (SV × SD)) (ps : List (Rat × Rat)) : Prop := RdC w a n c l ps ∧ ((RdC w0 a n c l ps ∧ Below w0.heap.size w0 w) ∨ ∃ E, PRoZ (B + 1) E w a n c l)
theorem RdF.later {w0 w w' : World} {B : Nat} {a : Option Addr} {n c : Nat} {l : List (SV × SD)} {ps : List (Rat × Rat)} (h : RdF w0 B w a n c l ps) (hb : Below w.heap.size w w') : RdF w0 B w' a n c l ps := by
  refine ⟨h.1.later hb, ?_⟩
  rcases h.2 with ⟨h1, h2⟩ | ⟨E, h1⟩
  · exact .inl ⟨h1, below_on h2 hb⟩
  · exact .inr ⟨E, h1.later hb⟩
theorem RdF.but {w0 w w' : World} {B : Nat} {a : Option Addr} {n c : Nat} {l : List (SV × SD)} {ps : List (Rat × Rat)} (h : RdF w0 B w a n c l ps) (hB : w0.heap.size ≤ B) (bt : But B (B + 1) w w') : RdF w0 B w' a n c l ps := by
  rcases h.2 with ⟨h1, h2⟩ | ⟨E, h1⟩
  · have hb := bt.below h2 hB h2.size
    exact ⟨h1.later hb, .inl ⟨h1, hb⟩⟩
  · have k1 := h1.but bt (.inr (Nat.le_refl _))
    have sl := k1.sl
    refine ⟨⟨⟨sl.at_, fun p hp x hx => ?_, h.1.ar.len, h.1.ar.cap, h.1.ar.top⟩, h.1.is⟩, .inr ⟨E, k1⟩⟩
    have a0 := h.1.ar.rd p hp x hx
    have s0 := sl.rd p hp x hx
    exact ⟨a0.sg, ⟨s0.sl, a0.ar.len, a0.ar.cap, a0.ar.top, a0.ar.addr⟩⟩

set_option maxHeartbeats 8000000 in
theorem powI (a : Option Addr) (n c : Nat) (l : List (SV × SD)) (ps : List (Rat × Rat)) (w : World) (h : RdC w a n c l ps) (hb : BdC ps 40) (h1 : 1 ≤ n) (h5 : n ≤ 5) :
    Calls Tryz.prog 109 #[.slice a n c] w (OutCz w (pwL ps)) := by
  have RD := hide h
  have BD := hide hb
  have LP : Hid (ps.length = n) := hide h.len
  have NB : Hid (n ≤ maxLen) := hide (Nat.le_trans h.ar.cap h.ar.top)
  clear h hb
  obtain ⟨i0, hi, hz0, hz1, hz2⟩ := info_parts Tryz.info34
  go_enter Tryz.func109, Tryz.ntmps109
  go_wp2_with (at_make; refine wpList_make_full _ rfl _ _ 23 rfl w.heap.size 34 i0 (.agg #[.bool false, .slice none 0 0, .bool false, .slice none 0 0, .bool false, .slice none 0 0, .bool false, .slice none 0 0]) 8 Tryz.underlying23 hi hz0 hz1 .i64 .i64 _ _ n rfl rfl rfl rfl ?c1 ?c2 ?c3 ?_)
  case c1 => rw [hz2]; omega
  case c2 => unfold maxLen; omega
  case c3 => exact Nat.le_refl _
  intro wm hown hgrow
  have hbm : Below w.heap.size w wm := (Below.refl _ _).grown hgrow (Nat.le_refl _) (fun k e => by cases e)
  have G0 := hide (GrZ.start hown hbm)
  have HBm := hide hbm
  clear hown hgrow hi hz0 hz1 hz2 hbm
  have RS : Hid (RdF w w.heap.size wm a n c l ps) := hide ⟨(unhide RD).later (unhide HBm), .inl ⟨unhide RD, unhide HBm⟩⟩
  go_wp2
  go_loopw [4, 5, 13] (fun x cv iv wr => ∃ (i : Nat) (q : Int) (us : List (SV × SD)) (a' : Option Addr) (m c' : Nat) (l' : List (SV × SD)), i ≤ n ∧ iv = .int .i64 i ∧ cv = .int .i64 q ∧ x = .slice a' m c' ∧ Hid (q = cho n i) ∧ Hid (m + i = n) ∧ Hid (RdF w w.heap.size wr a' m c' l' (dfK ps i)) ∧ Hid (GrZ w.heap.size n wr us) ∧ Hid (∀ j, j < i → AtZ us j (pwP ps j)) ∧ Hid (Below w.heap.size w wr)) (fun _ _ iv _ => n - (intOf iv).toNat)
  case atStart => exact ⟨0, 1, _, a, n, c, l, Nat.zero_le _, rfl, rfl, rfl, hide rfl, hide rfl, RS, G0, hide (fun j hj => absurd hj (Nat.not_lt_zero _)), HBm⟩
  case round =>
    clear G0 HBm RS
    obtain ⟨i, q, us, a', m, c', l', hi', rfl, rfl, rfl, HQ, HM, RF, GR, AT, HB⟩ := hrel
    by_cases hlt : i < n
    · have hlt' : (i : Int) < (n : Int) := by omega
      have hm0 : 0 < m := by have := unhide HM; omega
      have hmx : m ≤ maxLen := Nat.le_trans (unhide RF).1.ar.cap (unhide RF).1.ar.top
      unfold maxLen at hmx
      have hq := cho_bd (n := n) (i := i) h1 (by omega) (by omega)
      rw [← unhide HQ] at hq
      have dk := dK_le (k := i) (by omega)
      have HS2 := hide (unhide RF).1.ar
      have HN2 := hide (unhide RF).1.ar.len
      rcases (unhide HS2).at_ with e | ⟨b, off, rfl, hbb, hcb⟩
      · exact absurd (unhide HN2) (by rw [e]; simp <;> omega)
      have e0 := hcb 0 (by rw [unhide HN2]; exact hm0)
      obtain ⟨y, hy⟩ : ∃ y, y = l'[0]'(by rw [unhide HN2]; exact hm0) := ⟨_, rfl⟩
      rw [← hy] at e0
      obtain ⟨p, hp1, hp2, hp3, hp4⟩ := (unhide RF).1.pt (i := 0) (y := y) (by rw [hy]; exact List.getElem?_eq_getElem _)
      have PP : Hid (pwP ps i = tmP p q) := hide (by unfold pwP hdP; rw [hp1, unhide LP, ← unhide HQ]; rfl)
      have BP := hide ((dfK_bd (unhide BD) i) p hp2)
      have IP := hide hp4
      clear hy hp1 hp2 hp3 hp4 hcb
      have E0 : wr.cell? ⟨b, off, none⟩ = some (.bool y.1.lo.num.g) := by have h := e0.1; simpa using h
      have E1 : wr.cell? ⟨b, off + 1, none⟩ = some (.slice y.1.lo.num.a y.1.lo.num.n y.1.lo.num.c) := by have h := e0.2.1; simpa using h
      have E2 : wr.cell? ⟨b, off + 2, none⟩ = some (.bool y.1.lo.den.g) := by have h := e0.2.2.1; simpa using h
      have E3 : wr.cell? ⟨b, off + 3, none⟩ = some (.slice y.1.lo.den.a y.1.lo.den.n y.1.lo.den.c) := by have h := e0.2.2.2.1; simpa using h
      have E4 : wr.cell? ⟨b, off + 4, none⟩ = some (.bool y.1.hi.num.g) := by have h := e0.2.2.2.2.1; simpa using h
      have E5 : wr.cell? ⟨b, off + 5, none⟩ = some (.slice y.1.hi.num.a y.1.hi.num.n y.1.hi.num.c) := by have h := e0.2.2.2.2.2.1; simpa using h
      have E6 : wr.cell? ⟨b, off + 6, none⟩ = some (.bool y.1.hi.den.g) := by have h := e0.2.2.2.2.2.2.1; simpa using h
      have E7 : wr.cell? ⟨b, off + 7, none⟩ = some (.slice y.1.hi.den.a y.1.hi.den.n y.1.hi.den.c) := by have h := e0.2.2.2.2.2.2.2; simpa using h
      clear e0
      go_wp2_with fail
      refine (calls_dp (timP y.1 q p _ (unhide IP) ((unhide BP).mono (by omega)) (by omega) (by omega))).mono ?_
      rintro e w2 ⟨u, d, rfl, hbx, ho, ha, hd⟩
      have s2 := hbx.size
      have zb := (unhide GR).lt
      have G2 := hide ((unhide GR).later hbx)
      have GP : Hid (GrZ w.heap.size n ((((((((w2.setCell ⟨w.heap.size, i * 8, none⟩ (.bool u.lo.num.g)).setCell ⟨w.heap.size, i * 8 + 1, none⟩ (.slice u.lo.num.a u.lo.num.n u.lo.num.c)).setCell ⟨w.heap.size, i * 8 + 2, none⟩ (.bool u.lo.den.g)).setCell ⟨w.heap.size, i * 8 + 3, none⟩ (.slice u.lo.den.a u.lo.den.n u.lo.den.c)).setCell ⟨w.heap.size, i * 8 + 4, none⟩ (.bool u.hi.num.g)).setCell ⟨w.heap.size, i * 8 + 5, none⟩ (.slice u.hi.num.a u.hi.num.n u.hi.num.c)).setCell ⟨w.heap.size, i * 8 + 6, none⟩ (.bool u.hi.den.g)).setCell ⟨w.heap.size, i * 8 + 7, none⟩ (.slice u.hi.den.a u.hi.den.n u.hi.den.c)) (us.set i (u, d))) := hide ((unhide GR).put hbx hlt ho ha)
      have HB2 := hide (below_on (unhide HB) hbx)
      have HB3 : Hid (Below w.heap.size w ((((((((w2.setCell ⟨w.heap.size, i * 8, none⟩ (.bool u.lo.num.g)).setCell ⟨w.heap.size, i * 8 + 1, none⟩ (.slice u.lo.num.a u.lo.num.n u.lo.num.c)).setCell ⟨w.heap.size, i * 8 + 2, none⟩ (.bool u.lo.den.g)).setCell ⟨w.heap.size, i * 8 + 3, none⟩ (.slice u.lo.den.a u.lo.den.n u.lo.den.c)).setCell ⟨w.heap.size, i * 8 + 4, none⟩ (.bool u.hi.num.g)).setCell ⟨w.heap.size, i * 8 + 5, none⟩ (.slice u.hi.num.a u.hi.num.n u.hi.num.c)).setCell ⟨w.heap.size, i * 8 + 6, none⟩ (.bool u.hi.den.g)).setCell ⟨w.heap.size, i * 8 + 7, none⟩ (.slice u.hi.den.a u.hi.den.n u.hi.den.c))) := hide (GrZ.bel (n := 0) (B := w.heap.size) (k := i) (u := u) (unhide HB2) (Nat.le_refl _))
      have RF3 : Hid (RdF w w.heap.size ((((((((w2.setCell ⟨w.heap.size, i * 8, none⟩ (.bool u.lo.num.g)).setCell ⟨w.heap.size, i * 8 + 1, none⟩ (.slice u.lo.num.a u.lo.num.n u.lo.num.c)).setCell ⟨w.heap.size, i * 8 + 2, none⟩ (.bool u.lo.den.g)).setCell ⟨w.heap.size, i * 8 + 3, none⟩ (.slice u.lo.den.a u.lo.den.n u.lo.den.c)).setCell ⟨w.heap.size, i * 8 + 4, none⟩ (.bool u.hi.num.g)).setCell ⟨w.heap.size, i * 8 + 5, none⟩ (.slice u.hi.num.a u.hi.num.n u.hi.num.c)).setCell ⟨w.heap.size, i * 8 + 6, none⟩ (.bool u.hi.den.g)).setCell ⟨w.heap.size, i * 8 + 7, none⟩ (.slice u.hi.den.a u.hi.den.n u.hi.den.c)) (some ⟨b, off, none⟩) m c' l' (dfK ps i)) := hide (((unhide RF).later hbx).but (Nat.le_refl _) but_rowS)
      have AT2 : Hid (∀ j, j < i + 1 → AtZ (us.set i (u, d)) j (pwP ps j)) := hide (fun j hj => by
        by_cases e : j = i
        · subst e
          rw [unhide PP]
          exact AtZ.here (by rw [(unhide GR).len]; exact hlt) hd
        · exact ((unhide AT) j (by omega)).keep (by omega))
      obtain ⟨x0, o0⟩ := (unhide G2).old (o := i * 8) (by omega)
      obtain ⟨x1, o1⟩ := (unhide G2).old (o := i * 8 + 1) (by omega)
      obtain ⟨x2, o2⟩ := (unhide G2).old (o := i * 8 + 2) (by omega)
      obtain ⟨x3, o3⟩ := (unhide G2).old (o := i * 8 + 3) (by omega)
      obtain ⟨x4, o4⟩ := (unhide G2).old (o := i * 8 + 4) (by omega)
      obtain ⟨x5, o5⟩ := (unhide G2).old (o := i * 8 + 5) (by omega)
      obtain ⟨x6, o6⟩ := (unhide G2).old (o := i * 8 + 6) (by omega)
      obtain ⟨x7, o7⟩ := (unhide G2).old (o := i * 8 + 7) (by omega)
      have fr := (unhide G2).fz
      clear ho ha hd hbx E0 E1 E2 E3 E4 E5 E6 E7 IP BP G2 HB2 GR AT RF HS2 HN2
      go_upto_region 7 with fail
      clear x0 o0 x1 o1 x2 o2 x3 o3 x4 o4 x5 o5 x6 o6 x7 o7 fr
      generalize ((((((((w2.setCell ⟨w.heap.size, i * 8, none⟩ (.bool u.lo.num.g)).setCell ⟨w.heap.size, i * 8 + 1, none⟩ (.slice u.lo.num.a u.lo.num.n u.lo.num.c)).setCell ⟨w.heap.size, i * 8 + 2, none⟩ (.bool u.lo.den.g)).setCell ⟨w.heap.size, i * 8 + 3, none⟩ (.slice u.lo.den.a u.lo.den.n u.lo.den.c)).setCell ⟨w.heap.size, i * 8 + 4, none⟩ (.bool u.hi.num.g)).setCell ⟨w.heap.size, i * 8 + 5, none⟩ (.slice u.hi.num.a u.hi.num.n u.hi.num.c)).setCell ⟨w.heap.size, i * 8 + 6, none⟩ (.bool u.hi.den.g)).setCell ⟨w.heap.size, i * 8 + 7, none⟩ (.slice u.hi.den.a u.hi.den.n u.hi.den.c)) = w3 at *
      generalize us.set i (u, d) = us2 at *
      have s3 := (unhide GP).lt
      go_wp2_with fail
      refine (difRI (some ⟨b, off, none⟩) m c' l' (dfK ps i) (dK i) _ (unhide RF3).1 (dfK_bd (unhide BD) i) (by omega) hm0 (by have := unhide HM; omega)).mono ?_
      rintro e w4 ⟨a4, m4, c4, l4, rfl, hb4, ro4, rd4⟩
      have HM4 : Hid (m4 + (i + 1) = n) := hide (by
        have e1 := rd4.len
        unfold dfR at e1
        rw [zw_len, dfK_len, unhide LP] at e1
        have := unhide HM
        omega)
      have RF4 : Hid (RdF w w.heap.size w4 a4 m4 c4 l4 (dfK ps (i + 1))) := hide ⟨rd4, .inr ⟨_, ro4.wide (B' := w.heap.size + 1) (by omega) (Nat.le_refl _)⟩⟩
      have GP4 := hide ((unhide GP).later hb4)
      have HB4 := hide (below_on (unhide HB3) hb4)
      clear hb4 ro4 rd4 RF3 GP HB3
      have m1 : 0 ≤ q * ((n : Int) - 1 - (i : Int)) := Int.mul_nonneg hq.1 (by omega)
      have m2 : q * ((n : Int) - 1 - (i : Int)) ≤ 6 * 5 := Int.mul_le_mul hq.2 (by omega) (by omega) (by omega)
      have HQ4 : Hid ((q * ((n : Int) - 1 - (i : Int))).tdiv ((i : Int) + 1) = cho n (i + 1)) := hide (by rw [unhide HQ]; rfl)
      have hc4 := cho_bd (n := n) (i := i + 1) h1 (by omega) (by omega)
      rw [← unhide HQ4] at hc4
      have iw1 : IntKind.i64.wrap (q * ((n : Int) - 1 - (i : Int))) = q * ((n : Int) - 1 - (i : Int)) := by rw [IntKind.wrap_i64] <;> omega
      have iw2 : IntKind.i64.wrap ((q * ((n : Int) - 1 - (i : Int))).tdiv ((i : Int) + 1)) = (q * ((n : Int) - 1 - (i : Int))).tdiv ((i : Int) + 1) := by rw [IntKind.wrap_i64] <;> omega
      have iw3 : IntKind.i64.wrap ((i : Int) + 1) = (i : Int) + 1 := by rw [IntKind.wrap_i64] <;> omega
      have iw4 : IntKind.i64.wrap ((n : Int) - 1 - (i : Int)) = (n : Int) - 1 - (i : Int) := by rw [IntKind.wrap_i64] <;> omega
      have nz : ((i : Int) + 1 == 0) = false := by simp; omega
      have nz2 : ¬ ((i : Int) + 1 = 0) := by omega
      go_wp2
      go_roundw
      case rel => exact ⟨i + 1, _, us2, a4, m4, c4, l4, by omega, by go_num, rfl, rfl, HQ4, HM4, RF4, GP4, AT2, HB4⟩
      case measure => simp [intOf]; omega
    · obtain rfl : i = n := by omega
      have IC : Hid (IsC (pwL ps) (us.map Prod.snd)) := hide (atZ_isC (by rw [(unhide GR).len, pwL_len, unhide LP]) (fun k p hp => by
        obtain ⟨h1, rfl⟩ := pwL_get hp
        rw [unhide LP] at h1
        exact (unhide AT) k h1))
      obtain ⟨r1, r2⟩ := GrZ.fin (w0 := w) (unhide GR) (unhide IC) (pwL_bd (unhide BD) (by rw [unhide LP]; omega)) (by omega) (by omega) (Nat.le_refl _)
      have R1 := hide r1
      have R2 := hide r2
      clear r1 r2
      go_wp2
      go_ret
      exact ⟨_, _, _, us, rfl, unhide HB, unhide R1, unhide R2⟩
end Go.Proofs.YtikllcoekcglcaaGreat
namespace Go.Proofs.YtikllcoekcglcaaGreat
open Go.RowKit
set_option linter.unusedVariables false
set_option maxRecDepth 100000
set_option linter.unusedSimpArgs false

theorem fit_f40 {w : World} {v : SV} {p : Rat × Rat} {d : SD} (h : IsDP p d) (ha : AllAr w [(v.lo.num, d.lo.num), (v.lo.den, d.lo.den), (v.hi.num, d.hi.num), (v.hi.den, d.hi.den)]) : decide ((v.lo.den.n ≠ 0 ∧ v.lo.num.n ≤ 40 ∧ v.lo.den.n ≤ 40) ∧ (v.hi.den.n ≠ 0 ∧ v.hi.num.n ≤ 40 ∧ v.hi.den.n ≤ 40)) = f40 d := by
  have e1 := ha.head.ar.len
  have e2 := ha.tail.head.ar.len
  have e3 := ha.tail.tail.head.ar.len
  have e4 := ha.tail.tail.tail.head.ar.len
  have z1 : d.lo.den.xs.length ≠ 0 := fun e => by have := h.n2.nil_iff.1 (List.length_eq_zero_iff.1 e); have := dR_pos p.1; omega
  have z2 : d.hi.den.xs.length ≠ 0 := fun e => by have := h.n4.nil_iff.1 (List.length_eq_zero_iff.1 e); have := dR_pos p.2; omega
  unfold f40
  rw [← Bool.decide_and, ← Bool.decide_and, ← Bool.decide_and]
  apply decide_eq_decide.2
  omega
set_option maxHeartbeats 2000000 in
theorem rptsF (a : Option Addr) (n c : Nat) (l : List (SV × SD)) (ps : List (Rat × Rat)) (w : World) (h : RdC w a n c l ps) :
    Calls Tryz.prog 110 #[.slice a n c] w fun e w' => e = .returned (.bool ((l.map Prod.snd).all f40)) ∧ Below w.heap.size w w' := by
  have RD := hide h
  have HS := hide h.ar
  have HN := hide h.ar.len
  have hm : n ≤ maxLen := Nat.le_trans h.ar.cap h.ar.top
  clear h
  unfold maxLen at hm
  go_enter Tryz.func110, Tryz.ntmps110
  go_wp2
  go_loopw [7] (fun iv wr => ∃ (i : Nat), i ≤ n ∧ iv = .int .i64 i ∧ Hid (((l.take i).map Prod.snd).all f40 = true) ∧ Hid (Below w.heap.size w wr)) (fun iv _ => n - (intOf iv).toNat)
  case atStart => exact ⟨0, Nat.zero_le _, rfl, hide (by simp), hide (Below.refl _ _)⟩
  case round =>
    obtain ⟨i, hi, rfl, EA, HB⟩ := hrel
    by_cases hlt : i < n
    · have hlt' : (i : Int) < (n : Int) := by omega
      have hlx : i < n := hlt
      rcases (unhide HS).at_ with e | ⟨b, off, rfl, hb, hcb⟩
      · exact absurd (unhide HN) (by rw [e]; simp <;> omega)
      have e0 := hcb i (by rw [unhide HN]; exact hlx)
      obtain ⟨y, hy⟩ : ∃ y, y = l[i]'(by rw [unhide HN]; exact hlx) := ⟨_, rfl⟩
      rw [← hy] at e0
      have My : Hid (l[i]? = some y) := hide (by rw [hy]; exact List.getElem?_eq_getElem _)
      clear hy
      have E0 : wr.cell? ⟨b, off + i * 8, none⟩ = some (.bool y.1.lo.num.g) := ((unhide HB).cell (p := ⟨b, off + i * 8, none⟩) hb).trans (e0.1)
      have E1 : wr.cell? ⟨b, off + i * 8 + 1, none⟩ = some (.slice y.1.lo.num.a y.1.lo.num.n y.1.lo.num.c) := ((unhide HB).cell (p := ⟨b, off + i * 8 + 1, none⟩) hb).trans (e0.2.1)
      have E2 : wr.cell? ⟨b, off + i * 8 + 2, none⟩ = some (.bool y.1.lo.den.g) := ((unhide HB).cell (p := ⟨b, off + i * 8 + 2, none⟩) hb).trans (e0.2.2.1)
      have E3 : wr.cell? ⟨b, off + i * 8 + 3, none⟩ = some (.slice y.1.lo.den.a y.1.lo.den.n y.1.lo.den.c) := ((unhide HB).cell (p := ⟨b, off + i * 8 + 3, none⟩) hb).trans (e0.2.2.2.1)
      have E4 : wr.cell? ⟨b, off + i * 8 + 4, none⟩ = some (.bool y.1.hi.num.g) := ((unhide HB).cell (p := ⟨b, off + i * 8 + 4, none⟩) hb).trans (e0.2.2.2.2.1)
      have E5 : wr.cell? ⟨b, off + i * 8 + 5, none⟩ = some (.slice y.1.hi.num.a y.1.hi.num.n y.1.hi.num.c) := ((unhide HB).cell (p := ⟨b, off + i * 8 + 5, none⟩) hb).trans (e0.2.2.2.2.2.1)
      have E6 : wr.cell? ⟨b, off + i * 8 + 6, none⟩ = some (.bool y.1.hi.den.g) := ((unhide HB).cell (p := ⟨b, off + i * 8 + 6, none⟩) hb).trans (e0.2.2.2.2.2.2.1)
      have E7 : wr.cell? ⟨b, off + i * 8 + 7, none⟩ = some (.slice y.1.hi.den.a y.1.hi.den.n y.1.hi.den.c) := ((unhide HB).cell (p := ⟨b, off + i * 8 + 7, none⟩) hb).trans (e0.2.2.2.2.2.2.2)
      clear e0
      clear hcb
      obtain ⟨p, hp1, hp2, hp3, hp4⟩ := (unhide RD).pt (unhide My)
      have MZ : Hid (y ∈ l) := hide (List.mem_of_getElem? (unhide My))
      have TK : Hid (l.take (i + 1) = l.take i ++ [y]) := hide (by rw [List.take_add_one, unhide My]; rfl)
      have al : Below wr.heap.size wr (wr.alloc (.cells #[.bool y.1.lo.num.g, .slice y.1.lo.num.a y.1.lo.num.n y.1.lo.num.c, .bool y.1.lo.den.g, .slice y.1.lo.den.a y.1.lo.den.n y.1.lo.den.c, .bool y.1.hi.num.g, .slice y.1.hi.num.a y.1.hi.num.n y.1.hi.num.c, .bool y.1.hi.den.g, .slice y.1.hi.den.a y.1.hi.den.n y.1.hi.den.c] 34)) := (Below.refl _ _).alloc (Nat.le_refl _) _
      have HA := hide (below_on (unhide HB) al)
      have ar := (unhide HS).rd y (unhide MZ)
      have CC := hide (fun w1 => spanFits_v y.1 w1 (Nat.le_trans ar.tail.head.ar.cap ar.tail.head.ar.top) (Nat.le_trans ar.tail.tail.tail.head.ar.cap ar.tail.tail.tail.head.ar.top))
      rw [fit_f40 hp3 ar] at CC
      clear al ar hp1 hp2 hp3 hp4
      cases hp : f40 y.2
      · rw [hp] at CC
        have AN := hide (show (l.map Prod.snd).all f40 = false from List.all_eq_false.2 ⟨y.2, List.mem_map.2 ⟨y, unhide MZ, rfl⟩, by rw [hp]; simp⟩)
        go_wp2_with fail
        refine (unhide CC _).mono ?_
        rintro e w1 ⟨rfl, hb1⟩
        have HB1 := hide (below_on (unhide HA) hb1)
        clear hb1 E0 E1 E2 E3 E4 E5 E6 E7 CC
        go_wp2
        go_ret
        exact ⟨by rw [unhide AN]; rfl, unhide HB1⟩
      · rw [hp] at CC
        go_wp2_with fail
        refine (unhide CC _).mono ?_
        rintro e w1 ⟨rfl, hb1⟩
        have HB1 := hide (below_on (unhide HA) hb1)
        clear hb1 E0 E1 E2 E3 E4 E5 E6 E7 CC
        go_wp2
        go_roundw
        case rel => exact ⟨i + 1, by omega, by go_num, hide (by rw [unhide TK, List.map_append, List.all_append, unhide EA]; simp only [List.map_cons, List.map_nil, List.all_cons, List.all_nil]; rw [hp]; rfl), HB1⟩
        case measure => simp [intOf]; omega
    · obtain rfl : i = n := by omega
      have EL := hide (show (l.map Prod.snd).all f40 = true from by have := unhide EA; rw [← unhide HN, List.take_length] at this; exact this)
      go_wp2
      go_ret
      exact ⟨by rw [unhide EL]; rfl, unhide HB⟩

set_option maxHeartbeats 2000000 in
theorem whereF (a : Option Addr) (n c : Nat) (l : List (SV × SD)) (ps : List (Rat × Rat)) (B : Nat) (w : World) (h : RdC w a n c l ps) (ho : PRoZ B w.heap.size w a n c l) :
    Calls Tryz.prog 106 #[.slice a n c, .func (Fn.func 110) #[] #[]] w fun e w' => ∃ (a' : Option Addr) (n' c' : Nat) (l' : List (SV × SD)) (ok : Bool), e = .returned (.tuple #[.slice a' n' c', .bool ok]) ∧ Below w.heap.size w w' ∧ PRoZ B w'.heap.size w' a' n' c' l' ∧ AnsC true (fun es => es.all f40) ps (l'.map Prod.snd) ok := by
  have CF := hide (fun w1 (k : PArS w1 a n c l) => rptsF a n c l ps w1 ⟨k, h.is⟩)
  have HR := hide h
  have HO := hide ho
  clear h ho
  cases hf : (l.map Prod.snd).all f40
  · have HF := hide hf
    rw [hf] at CF
    clear hf
    go_enter Tryz.func106, Tryz.ntmps106
    go_wp2_with fail
    refine (unhide CF _ (unhide HR).ar).mono ?_
    rintro e w1 ⟨rfl, hb⟩
    have HB := hide hb
    clear hb CF
    go_wp2
    go_ret2
    exact ⟨none, 0, 0, [], false, rfl, unhide HB, PRoZ.none _ _ _, .inl ⟨rfl, _, (unhide HR).is, .inr ⟨unhide HF, rfl, rfl⟩⟩⟩
  · have HF := hide hf
    rw [hf] at CF
    clear hf
    go_enter Tryz.func106, Tryz.ntmps106
    go_wp2_with fail
    refine (unhide CF _ (unhide HR).ar).mono ?_
    rintro e w1 ⟨rfl, hb⟩
    have HB := hide hb
    have OO := hide (((unhide HO).later hb).wide (Nat.le_refl _) hb.size)
    clear hb CF
    go_wp2
    go_ret2
    exact ⟨a, n, c, l, true, rfl, unhide HB, unhide OO, .inl ⟨rfl, _, (unhide HR).is, .inl ⟨unhide HF, rfl, rfl⟩⟩⟩

set_option maxHeartbeats 8000000 in
theorem PowI (a : Option Addr) (n c : Nat) (l : List (SV × SD)) (w : World) (h : PArS w a n c l) :
    Calls Tryz.prog 31 #[.slice a n c] w (RetPoZ w (AnsC (gCv (l.map Prod.snd)) (fun es => es.all f40) (pwL (vC l)))) := by
  have GC := hide (fun w1 (k : PArS w1 a n c l) => GoodCI a n c l w1 k)
  have HS := hide h
  have HN := hide h.len
  clear h
  cases hg : gCv (l.map Prod.snd)
  · rw [hg] at GC
    go_enter Tryz.func31, Tryz.ntmps31
    go_wp2_with fail
    refine (unhide GC _ (unhide HS)).mono ?_
    rintro e w1 ⟨rfl, hb⟩
    have HB := hide hb
    clear hb GC
    go_wp2
    go_ret2
    exact ⟨none, 0, 0, [], false, rfl, unhide HB, PRoZ.none _ _ _, .inr ⟨rfl, rfl, rfl⟩⟩
  · rw [hg] at GC
    have HG := hide hg
    have n5 : 1 ≤ n ∧ n ≤ 5 := by have := (gCv_mem hg).1; rw [List.length_map, unhide HN] at this; exact this
    clear hg
    have RD := hide (rdC_good (unhide HS) (unhide HG))
    have BD := hide (bdC_good (unhide HG))
    go_enter Tryz.func31, Tryz.ntmps31
    go_wp2_with fail
    refine (unhide GC _ (unhide HS)).mono ?_
    rintro e w1 ⟨rfl, hb⟩
    have HB1 := hide hb
    have s1 := hb.size
    clear hb GC
    go_wp2_with fail
    refine (powI a n c l (vC l) _ ((unhide RD).later (unhide HB1)) (unhide BD) n5.1 n5.2).mono ?_
    rintro e w2 ⟨a2, n2, c2, l2, rfl, hb2, ro2, rd2⟩
    have HB2 := hide (below_on (unhide HB1) hb2)
    have s2 := hb2.size
    have RO2 := hide ro2
    have RD2 := hide rd2
    clear hb2 ro2 rd2
    go_wp2_with fail
    refine (whereF a2 n2 c2 l2 _ w1.heap.size _ (unhide RD2) (unhide RO2)).mono ?_
    rintro e w3 ⟨a3, n3, c3, l3, ok3, rfl, hb3, ro3, an3⟩
    have HB3 := hide (below_on (unhide HB2) hb3)
    have RO3 := hide (ro3.wide (B' := w.heap.size) s1 (Nat.le_refl _))
    have AN3 := hide an3
    clear hb3 ro3 an3
    go_wp2
    go_ret2
    exact ⟨_, _, _, l3, ok3, rfl, unhide HB3, unhide RO3, unhide AN3⟩
theorem appZ2 {ops : Array Oper} {rest : List Oper} {o : Oper} {a : Act} {Q : Exit → Act → World → Prop} {w : World} (hgd : o.guard = none) (s x : Operand)
    (ho : o.op = .call { callee := .builtin .append, args := #[s, x], argTypes := #[23, 23] }) (B : Nat) (v : Value) (us : List (SV × SD)) (hs : a.eval s = v) (hG : GwZ B w v us) (G : Nat) (u : SV) (d : SD) (hx : a.eval x = .slice (some ⟨G, 0, none⟩) 1 1)
    (hblk : w.heap[G]? = some (.cells #[.bool u.lo.num.g, .slice u.lo.num.a u.lo.num.n u.lo.num.c, .bool u.lo.den.g, .slice u.lo.den.a u.lo.den.n u.lo.den.c, .bool u.hi.num.g, .slice u.hi.num.a u.hi.num.n u.hi.num.c, .bool u.hi.den.g, .slice u.hi.den.a u.hi.den.n u.hi.den.c] 34 (0, 0))) (ht : TypZ w [(u.lo.num, d.lo.num), (u.lo.den, d.lo.den), (u.hi.num, d.hi.num), (u.hi.den, d.hi.den)]) (ha : AllAr w [(u.lo.num, d.lo.num), (u.lo.den, d.lo.den), (u.hi.num, d.hi.num), (u.hi.den, d.hi.den)]) (hlen : us.length ≤ 100000) (hB : B ≤ w.heap.size)
    (h : ∀ g cap w', GwZ B w' (.slice (some ⟨g, 0, none⟩) (us.length + 1) cap) (us ++ [(u, d)]) → w.grownBy w' v.ownBlock → g < w'.heap.size → wpList Tryz.prog ops Q rest (a.put o.dst (.slice (some ⟨g, 0, none⟩) (us.length + 1) cap)) w') : wpList Tryz.prog ops Q (o :: rest) a w := by
  obtain ⟨i0, hi, hz0, hz1, hz2⟩ := info_parts Tryz.info34
  refine wpList_append_lies w hgd s x 23 ho B 34 i0 (.agg #[.bool false, .slice none 0 0, .bool false, .slice none 0 0, .bool false, .slice none 0 0, .bool false, .slice none 0 0]) 8 128 Tryz.underlying23 hi hz0 hz1 hz2 rfl (by decide) v us.length (flatZ us) hs hG.row ⟨G, 0, none⟩ 1 1 [.bool u.lo.num.g, .slice u.lo.num.a u.lo.num.n u.lo.num.c, .bool u.lo.den.g, .slice u.lo.den.a u.lo.den.n u.lo.den.c, .bool u.hi.num.g, .slice u.hi.num.a u.hi.num.n u.hi.num.c, .bool u.hi.den.g, .slice u.hi.den.a u.hi.den.n u.hi.den.c] hx rfl (World.news_of_block hblk) oneZ (by omega) (by unfold maxLen; omega) (by omega) hB _ rfl ?_
  intro g cap w' hown hgrow _ hlt
  exact h g cap w' (hG.grow ht ha hown hgrow) hgrow hlt
theorem PArS.grown {w w' : World} {a : Option Addr} {n c B : Nat} {l us : List (SV × SD)} {v : Value} (h : PArS w a n c l) (ht : TypZ w (zipPS l)) (hG : GwZ B w v us) (hg : w.grownBy w' v.ownBlock) (hne : ∀ b off, a = some ⟨b, off, none⟩ → v.ownBlock ≠ some b) : PArS w' a n c l ∧ TypZ w' (zipPS l) := by
  have t1 := ht.grown hg hG.row
  refine ⟨⟨?_, fun p hp => ?_, h.len, h.cap, h.top⟩, t1⟩
  · rcases h.at_ with e | ⟨b, off, rfl, hb, hc⟩
    · exact .inl e
    · have nb : some b ≠ v.ownBlock := fun e => hne b off rfl e.symm
      have ce : ∀ o, w'.cell? ⟨b, o, none⟩ = w.cell? ⟨b, o, none⟩ := fun o => hg.cell_far ⟨b, o, none⟩ hb nb
      refine .inr ⟨b, off, rfl, Nat.lt_of_lt_of_le hb hg.size, fun i hi => ?_⟩
      have h1 := hc i hi
      simp only [ce]
      exact h1
  · have a1 := t1.ar (allSl_ar_mem h.rd)
    exact fun x hx => a1 x (zipPS_mem hp hx)
theorem dfP_eq (p q : Rat × Rat) : (q.1 + p.1 * ((-1 : Int) : Rat), q.2 + p.2 * ((-1 : Int) : Rat)) = dfP p q := by
  unfold dfP
  rw [show ((-1 : Int) : Rat) = -1 from rfl]
  congr 1 <;> grind

set_option maxHeartbeats 8000000 in
theorem powS (a : Option Addr) (n c : Nat) (l : List (SV × SD)) (ps : List (Rat × Rat)) (w : World) (h : RdC w a n c l ps) (hb : BdC ps 40) (h1 : 1 ≤ n) (h5 : n ≤ 5) (ht : TypZ w (zipPS l)) :
    Calls Tryz.prog 111 #[.slice a n c] w (OutGz w (pwL ps)) := by
  have RD := hide h
  have BD := hide hb
  have HT := hide ht
  have LP : Hid (ps.length = n) := hide h.len
  clear h hb ht
  go_enter Tryz.func111, Tryz.ntmps111
  go_wp2
  go_loopw [3, 4, 6, 7] (fun x cv y iv wr => ∃ (k : Nat) (q : Int) (us : List (SV × SD)) (a' : Option Addr) (m c' : Nat) (l' : List (SV × SD)), k ≤ n ∧ iv = .int .i64 k ∧ cv = .int .i64 q ∧ y = .slice a' m c' ∧ us.length = k ∧ Hid (q = cho n k) ∧ Hid (m + k = n) ∧ Hid (RdC wr a' m c' l' (dfK ps k)) ∧ Hid (TypZ wr (zipPS l')) ∧ Hid (GwZ w.heap.size wr x us) ∧ Hid (∀ b off, a' = some ⟨b, off, none⟩ → x.ownBlock ≠ some b) ∧ Hid (∀ j, j < k → AtZ us j (pwP ps j)) ∧ Hid (Below w.heap.size w wr)) (fun _ _ _ iv _ => n - (intOf iv).toNat)
  case atStart => exact ⟨0, 1, [], a, n, c, l, Nat.zero_le _, rfl, rfl, rfl, rfl, hide rfl, hide rfl, RD, HT, hide (GwZ.nil _ _), hide (fun b off _ e => by cases e), hide (fun j hj => absurd hj (Nat.not_lt_zero _)), hide (Below.refl _ _)⟩
  case round =>
    obtain ⟨k, q, us, a', m, c', l', hk, rfl, rfl, rfl, hu, HQ, HM, RK, TK, GW, SE, AT, HB⟩ := hrel
    by_cases hlt : k < n
    · have hlt' : (k : Int) ≤ (n : Int) - 1 := by omega
      have hm0 : 0 < m := by have := unhide HM; omega
      have hm5 : m ≤ 5 := by have := unhide HM; omega
      have hq := cho_bd (n := n) (i := k) h1 (by omega) (by omega)
      rw [← unhide HQ] at hq
      have dk := dK_le (k := k) (by omega)
      have szr := (unhide HB).size
      have HN2 := hide (unhide RK).ar.len
      rcases (unhide RK).ar.at_ with e | ⟨b, off, rfl, hbb0, hcb⟩
      · exact absurd (unhide HN2) (by rw [e]; simp <;> omega)
      have e0 := hcb 0 (by rw [unhide HN2]; exact hm0)
      obtain ⟨y, hy⟩ : ∃ y, y = l'[0]'(by rw [unhide HN2]; exact hm0) := ⟨_, rfl⟩
      rw [← hy] at e0
      obtain ⟨p, hp1, hp2, hp3, hp4⟩ := (unhide RK).pt (i := 0) (y := y) (by rw [hy]; exact List.getElem?_eq_getElem _)
      have PP : Hid (pwP ps k = tmP p q) := hide (by unfold pwP hdP; rw [hp1, unhide LP, ← unhide HQ]; rfl)
      have BP := hide ((dfK_bd (unhide BD) k) p hp2)
      have IP := hide hp4
      clear hy hp1 hp2 hp3 hp4 hcb
      have E0 : wr.cell? ⟨b, off, none⟩ = some (.bool y.1.lo.num.g) := by have h := e0.1; simpa using h
      have E1 : wr.cell? ⟨b, off + 1, none⟩ = some (.slice y.1.lo.num.a y.1.lo.num.n y.1.lo.num.c) := by have h := e0.2.1; simpa using h
      have E2 : wr.cell? ⟨b, off + 2, none⟩ = some (.bool y.1.lo.den.g) := by have h := e0.2.2.1; simpa using h
      have E3 : wr.cell? ⟨b, off + 3, none⟩ = some (.slice y.1.lo.den.a y.1.lo.den.n y.1.lo.den.c) := by have h := e0.2.2.2.1; simpa using h
      have E4 : wr.cell? ⟨b, off + 4, none⟩ = some (.bool y.1.hi.num.g) := by have h := e0.2.2.2.2.1; simpa using h
      have E5 : wr.cell? ⟨b, off + 5, none⟩ = some (.slice y.1.hi.num.a y.1.hi.num.n y.1.hi.num.c) := by have h := e0.2.2.2.2.2.1; simpa using h
      have E6 : wr.cell? ⟨b, off + 6, none⟩ = some (.bool y.1.hi.den.g) := by have h := e0.2.2.2.2.2.2.1; simpa using h
      have E7 : wr.cell? ⟨b, off + 7, none⟩ = some (.slice y.1.hi.den.a y.1.hi.den.n y.1.hi.den.c) := by have h := e0.2.2.2.2.2.2.2; simpa using h
      clear e0
      go_wp2_with fail
      refine (timPS y.1 q p _ (unhide IP) ((unhide BP).mono (by omega)) (by omega) (by omega)).mono ?_
      rintro e w2 ⟨u, rfl, hbx, o1, o2⟩
      obtain ⟨d, ty, ar, hd⟩ := owV_data (p := tmP p q) o1 o2
      have s2 := hbx.size
      have al : Below w2.heap.size w2 (w2.alloc (.cells #[.bool u.lo.num.g, .slice u.lo.num.a u.lo.num.n u.lo.num.c, .bool u.lo.den.g, .slice u.lo.den.a u.lo.den.n u.lo.den.c, .bool u.hi.num.g, .slice u.hi.num.a u.hi.num.n u.hi.num.c, .bool u.hi.den.g, .slice u.hi.den.a u.hi.den.n u.hi.den.c] 34)) := (Below.refl _ _).alloc (Nat.le_refl _) _
      have fr2 := below_on hbx al
      have GW3 := hide ((unhide GW).later fr2)
      have RK3 := hide ((unhide RK).later fr2)
      have TK3 := hide ((unhide TK).later fr2)
      have TY3 := hide (ty.later al)
      have AR3 := hide (ar.later al)
      have HB3 := hide (below_on (unhide HB) fr2)
      have HD := hide hd
      clear hbx o1 o2 ty ar hd al fr2 E0 E1 E2 E3 E4 E5 E6 E7 IP BP GW RK TK HB
      go_wp2_with (at_builtin; refine appZ2 rfl (.tmp 19) (.tmp 25) rfl w.heap.size _ us rfl (unhide GW3) w2.heap.size u d rfl (heap_alloc_new _ _) (unhide TY3) (unhide AR3) (by omega) (by simp; omega) ?_)
      intro g cap w3 hG hgrow hg3
      obtain ⟨pr3, ty3⟩ := (unhide RK3).ar.grown (unhide TK3) (unhide GW3) hgrow (unhide SE)
      have HB4 := hide (GwZ.bel (unhide GW3) (unhide HB3) (Nat.le_refl _) hgrow)
      have GW4 := hide hG
      have RD3 : Hid (RdC w3 (some ⟨b, off, none⟩) m c' l' (dfK ps k)) := hide ⟨pr3, (unhide RK3).is⟩
      have bl : b < w3.heap.size := Nat.lt_of_lt_of_le (Nat.lt_of_lt_of_le hbb0 (Nat.le_trans s2 (by simp))) hgrow.size
      have AT4 : Hid (∀ j, j < k + 1 → AtZ (us ++ [(u, d)]) j (pwP ps j)) := hide (fun j hj => by
        by_cases e : j = k
        · subst e
          rw [unhide PP]
          exact atZ_new hu (unhide HD)
        · exact ((unhide AT) j (by omega)).left)
      clear hG hgrow pr3 ty3 RK3 TK3 GW3 HB3 TY3 AR3 AT SE HD hbb0
      have HSi := hide (unhide RD3).ar
      have HNi := hide (unhide RD3).ar.len
      have HC : Hid (∀ i (h : i < l'.length), w3.cell? ⟨b, off + i * 8, none⟩ = some (.bool l'[i].1.lo.num.g) ∧ w3.cell? ⟨b, off + i * 8 + 1, none⟩ = some (.slice l'[i].1.lo.num.a l'[i].1.lo.num.n l'[i].1.lo.num.c) ∧ w3.cell? ⟨b, off + i * 8 + 2, none⟩ = some (.bool l'[i].1.lo.den.g) ∧ w3.cell? ⟨b, off + i * 8 + 3, none⟩ = some (.slice l'[i].1.lo.den.a l'[i].1.lo.den.n l'[i].1.lo.den.c) ∧ w3.cell? ⟨b, off + i * 8 + 4, none⟩ = some (.bool l'[i].1.hi.num.g) ∧ w3.cell? ⟨b, off + i * 8 + 5, none⟩ = some (.slice l'[i].1.hi.num.a l'[i].1.hi.num.n l'[i].1.hi.num.c) ∧ w3.cell? ⟨b, off + i * 8 + 6, none⟩ = some (.bool l'[i].1.hi.den.g) ∧ w3.cell? ⟨b, off + i * 8 + 7, none⟩ = some (.slice l'[i].1.hi.den.a l'[i].1.hi.den.n l'[i].1.hi.den.c)) := hide (by
        rcases (unhide HSi).at_ with e | ⟨b', off', e, _, hc⟩
        · exact absurd (unhide HNi) (by rw [e]; simp <;> omega)
        · simp only [Option.some.injEq, Addr.mk.injEq, and_true] at e
          obtain ⟨rfl, rfl⟩ := e
          exact hc)
      have hbb : b < w3.heap.size := bl
      have hul : us.length + 1 = k + 1 := by omega
      (try rw [hul] at GW4)
      (try rw [hul])
      have m1 : 0 ≤ q * ((n : Int) - 1 - (k : Int)) := Int.mul_nonneg hq.1 (by omega)
      have m2 : q * ((n : Int) - 1 - (k : Int)) ≤ 6 * 5 := Int.mul_le_mul hq.2 (by omega) (by omega) (by omega)
      have HQ4 : Hid ((q * ((n : Int) - 1 - (k : Int))).tdiv ((k : Int) + 1) = cho n (k + 1)) := hide (by rw [unhide HQ]; rfl)
      have hc4 := cho_bd (n := n) (i := k + 1) h1 (by omega) (by omega)
      rw [← unhide HQ4] at hc4
      have iw1 : IntKind.i64.wrap (q * ((n : Int) - 1 - (k : Int))) = q * ((n : Int) - 1 - (k : Int)) := by rw [IntKind.wrap_i64] <;> omega
      have iw2 : IntKind.i64.wrap ((q * ((n : Int) - 1 - (k : Int))).tdiv ((k : Int) + 1)) = (q * ((n : Int) - 1 - (k : Int))).tdiv ((k : Int) + 1) := by rw [IntKind.wrap_i64] <;> omega
      have iw3 : IntKind.i64.wrap ((k : Int) + 1) = (k : Int) + 1 := by rw [IntKind.wrap_i64] <;> omega
      have iw4 : IntKind.i64.wrap ((n : Int) - 1 - (k : Int)) = (n : Int) - 1 - (k : Int) := by rw [IntKind.wrap_i64] <;> omega
      have nz : ((k : Int) + 1 == 0) = false := by simp; omega
      have nz2 : ¬ ((k : Int) + 1 = 0) := by omega
      go_wp2
      go_loopw [8, 9] (fun x iv wr => ∃ (j : Nat) (vs : List (SV × SD)), j + 1 ≤ m ∧ iv = .int .i64 j ∧ vs.length = j ∧ Hid (∀ t p q, t < j → (dfK ps k)[t]? = some p → (dfK ps k)[t + 1]? = some q → AtZ vs t (dfP p q)) ∧ Hid (GwZ w3.heap.size wr x vs) ∧ Hid (Below w3.heap.size w3 wr)) (fun _ iv _ => m - (intOf iv).toNat)
      case atStart => exact ⟨0, [], by omega, rfl, rfl, hide (fun t p q ht => absurd ht (Nat.not_lt_zero _)), hide (GwZ.nil _ _), hide (Below.refl _ _)⟩
      case round =>
        obtain ⟨j, vs, hj', rfl, hv, ATi, GWi, HBi⟩ := hrel
        by_cases hjl : j + 1 < m
        · have hjl' : (j : Int) + 1 < (m : Int) := by omega
          have hlx : j < m := by omega
          have hly : j + 1 < m := hjl
          have hcb := unhide HC
          have hb := hbb
          have e0 := hcb j (by rw [unhide HNi]; exact hlx)
          obtain ⟨y, hy⟩ : ∃ y, y = l'[j]'(by rw [unhide HNi]; exact hlx) := ⟨_, rfl⟩
          rw [← hy] at e0
          have My : Hid (l'[j]? = some y) := hide (by rw [hy]; exact List.getElem?_eq_getElem _)
          clear hy
          have k0_0 : wr.cell? ⟨b, off + j * 8, none⟩ = some (.bool y.1.lo.num.g) := ((unhide HBi).cell (p := ⟨b, off + j * 8, none⟩) hb).trans (e0.1)
          have k0_1 : wr.cell? ⟨b, off + j * 8 + 1, none⟩ = some (.slice y.1.lo.num.a y.1.lo.num.n y.1.lo.num.c) := ((unhide HBi).cell (p := ⟨b, off + j * 8 + 1, none⟩) hb).trans (e0.2.1)
          have k0_2 : wr.cell? ⟨b, off + j * 8 + 2, none⟩ = some (.bool y.1.lo.den.g) := ((unhide HBi).cell (p := ⟨b, off + j * 8 + 2, none⟩) hb).trans (e0.2.2.1)
          have k0_3 : wr.cell? ⟨b, off + j * 8 + 3, none⟩ = some (.slice y.1.lo.den.a y.1.lo.den.n y.1.lo.den.c) := ((unhide HBi).cell (p := ⟨b, off + j * 8 + 3, none⟩) hb).trans (e0.2.2.2.1)
          have k0_4 : wr.cell? ⟨b, off + j * 8 + 4, none⟩ = some (.bool y.1.hi.num.g) := ((unhide HBi).cell (p := ⟨b, off + j * 8 + 4, none⟩) hb).trans (e0.2.2.2.2.1)
          have k0_5 : wr.cell? ⟨b, off + j * 8 + 5, none⟩ = some (.slice y.1.hi.num.a y.1.hi.num.n y.1.hi.num.c) := ((unhide HBi).cell (p := ⟨b, off + j * 8 + 5, none⟩) hb).trans (e0.2.2.2.2.2.1)
          have k0_6 : wr.cell? ⟨b, off + j * 8 + 6, none⟩ = some (.bool y.1.hi.den.g) := ((unhide HBi).cell (p := ⟨b, off + j * 8 + 6, none⟩) hb).trans (e0.2.2.2.2.2.2.1)
          have k0_7 : wr.cell? ⟨b, off + j * 8 + 7, none⟩ = some (.slice y.1.hi.den.a y.1.hi.den.n y.1.hi.den.c) := ((unhide HBi).cell (p := ⟨b, off + j * 8 + 7, none⟩) hb).trans (e0.2.2.2.2.2.2.2)
          have Y0 := hide e0
          clear e0
          have e0 := hcb (j + 1) (by rw [unhide HNi]; exact hly)
          obtain ⟨v, hv⟩ : ∃ y, y = l'[(j + 1)]'(by rw [unhide HNi]; exact hly) := ⟨_, rfl⟩
          rw [← hv] at e0
          have Mv : Hid (l'[(j + 1)]? = some v) := hide (by rw [hv]; exact List.getElem?_eq_getElem _)
          clear hv
          have k1_0 : wr.cell? ⟨b, off + (j + 1) * 8, none⟩ = some (.bool v.1.lo.num.g) := ((unhide HBi).cell (p := ⟨b, off + (j + 1) * 8, none⟩) hb).trans (e0.1)
          have k1_1 : wr.cell? ⟨b, off + (j + 1) * 8 + 1, none⟩ = some (.slice v.1.lo.num.a v.1.lo.num.n v.1.lo.num.c) := ((unhide HBi).cell (p := ⟨b, off + (j + 1) * 8 + 1, none⟩) hb).trans (e0.2.1)
          have k1_2 : wr.cell? ⟨b, off + (j + 1) * 8 + 2, none⟩ = some (.bool v.1.lo.den.g) := ((unhide HBi).cell (p := ⟨b, off + (j + 1) * 8 + 2, none⟩) hb).trans (e0.2.2.1)
          have k1_3 : wr.cell? ⟨b, off + (j + 1) * 8 + 3, none⟩ = some (.slice v.1.lo.den.a v.1.lo.den.n v.1.lo.den.c) := ((unhide HBi).cell (p := ⟨b, off + (j + 1) * 8 + 3, none⟩) hb).trans (e0.2.2.2.1)
          have k1_4 : wr.cell? ⟨b, off + (j + 1) * 8 + 4, none⟩ = some (.bool v.1.hi.num.g) := ((unhide HBi).cell (p := ⟨b, off + (j + 1) * 8 + 4, none⟩) hb).trans (e0.2.2.2.2.1)
          have k1_5 : wr.cell? ⟨b, off + (j + 1) * 8 + 5, none⟩ = some (.slice v.1.hi.num.a v.1.hi.num.n v.1.hi.num.c) := ((unhide HBi).cell (p := ⟨b, off + (j + 1) * 8 + 5, none⟩) hb).trans (e0.2.2.2.2.2.1)
          have k1_6 : wr.cell? ⟨b, off + (j + 1) * 8 + 6, none⟩ = some (.bool v.1.hi.den.g) := ((unhide HBi).cell (p := ⟨b, off + (j + 1) * 8 + 6, none⟩) hb).trans (e0.2.2.2.2.2.2.1)
          have k1_7 : wr.cell? ⟨b, off + (j + 1) * 8 + 7, none⟩ = some (.slice v.1.hi.den.a v.1.hi.den.n v.1.hi.den.c) := ((unhide HBi).cell (p := ⟨b, off + (j + 1) * 8 + 7, none⟩) hb).trans (e0.2.2.2.2.2.2.2)
          have V0 := hide e0
          clear e0
          clear hcb
          obtain ⟨p, hp1, hp2, hp3, hp4⟩ := (unhide RD3).pt (unhide My)
          obtain ⟨r, hr1, hr2, hr3, hr4⟩ := (unhide RD3).pt (unhide Mv)
          have IP := hide (hp4.later (unhide HBi))
          have IQ := hide (hr4.later (unhide HBi))
          have BP := hide ((dfK_bd (unhide BD) k) p hp2)
          have BQ := hide ((dfK_bd (unhide BD) k) r hr2)
          have PV := hide (And.intro hp1 hr1)
          clear hp1 hp2 hp3 hp4 hr1 hr2 hr3 hr4
          have GW0 := GWi
          have HBq := HBi
          have szr := (unhide HBi).size
          have iw : IntKind.i64.wrap ((j : Int) + 1) = (j : Int) + 1 := by rw [IntKind.wrap_i64] <;> omega
          have j1 : (0 : Int) ≤ (j : Int) + 1 := by omega
          have j2 : (j : Int) + 1 < (m : Int) := by omega
          have j2' : (j : Int) < (m : Int) := by omega
          have j3 : ((j : Int) + 1).toNat = j + 1 := by omega
          have j4 : (0 : Int) ≤ (j : Int) := by omega
          have BT : Hid (BdP (p.1 * ((-1 : Int) : Rat), p.2 * ((-1 : Int) : Rat)) (dK k + 1)) := hide ⟨(unhide BP).x.mul (bdR_int (by omega) (by omega)), (unhide BP).y.mul (bdR_int (by omega) (by omega))⟩
          go_upto_region 14 with fail
          go_region_held3 (fun w' => w'.cell? ⟨b, off + j * 8, none⟩ = some (.bool y.1.lo.num.g) ∧ w'.cell? ⟨b, off + j * 8 + 1, none⟩ = some (.slice y.1.lo.num.a y.1.lo.num.n y.1.lo.num.c) ∧ w'.cell? ⟨b, off + j * 8 + 2, none⟩ = some (.bool y.1.lo.den.g) ∧ w'.cell? ⟨b, off + j * 8 + 3, none⟩ = some (.slice y.1.lo.den.a y.1.lo.den.n y.1.lo.den.c) ∧ w'.cell? ⟨b, off + j * 8 + 4, none⟩ = some (.bool y.1.hi.num.g) ∧ w'.cell? ⟨b, off + j * 8 + 5, none⟩ = some (.slice y.1.hi.num.a y.1.hi.num.n y.1.hi.num.c) ∧ w'.cell? ⟨b, off + j * 8 + 6, none⟩ = some (.bool y.1.hi.den.g) ∧ w'.cell? ⟨b, off + j * 8 + 7, none⟩ = some (.slice y.1.hi.den.a y.1.hi.den.n y.1.hi.den.c) ∧ w'.cell? ⟨b, off + (j + 1) * 8, none⟩ = some (.bool v.1.lo.num.g) ∧ w'.cell? ⟨b, off + (j + 1) * 8 + 1, none⟩ = some (.slice v.1.lo.num.a v.1.lo.num.n v.1.lo.num.c) ∧ w'.cell? ⟨b, off + (j + 1) * 8 + 2, none⟩ = some (.bool v.1.lo.den.g) ∧ w'.cell? ⟨b, off + (j + 1) * 8 + 3, none⟩ = some (.slice v.1.lo.den.a v.1.lo.den.n v.1.lo.den.c) ∧ w'.cell? ⟨b, off + (j + 1) * 8 + 4, none⟩ = some (.bool v.1.hi.num.g) ∧ w'.cell? ⟨b, off + (j + 1) * 8 + 5, none⟩ = some (.slice v.1.hi.num.a v.1.hi.num.n v.1.hi.num.c) ∧ w'.cell? ⟨b, off + (j + 1) * 8 + 6, none⟩ = some (.bool v.1.hi.den.g) ∧ w'.cell? ⟨b, off + (j + 1) * 8 + 7, none⟩ = some (.slice v.1.hi.den.a v.1.hi.den.n v.1.hi.den.c)) (with_reducible (first | exact ⟨k0_0, k0_1, k0_2, k0_3, k0_4, k0_5, k0_6, k0_7, k1_0, k1_1, k1_2, k1_3, k1_4, k1_5, k1_6, k1_7⟩ | exact ⟨cd_other k0_0, cd_other k0_1, cd_other k0_2, cd_other k0_3, cd_other k0_4, cd_other k0_5, cd_other k0_6, cd_other k0_7, cd_other k1_0, cd_other k1_1, cd_other k1_2, cd_other k1_3, cd_other k1_4, cd_other k1_5, cd_other k1_6, cd_other k1_7⟩ | exact ⟨ca_other k0_0, ca_other k0_1, ca_other k0_2, ca_other k0_3, ca_other k0_4, ca_other k0_5, ca_other k0_6, ca_other k0_7, ca_other k1_0, ca_other k1_1, ca_other k1_2, ca_other k1_3, ca_other k1_4, ca_other k1_5, ca_other k1_6, ca_other k1_7⟩ | fail))
            (first
            | (go_at_call 188; refine (timPS y.1 (-1) p _ ?_ ((unhide BP).mono (by omega)) (by omega) (by omega)).mono ?_; exact (unhide IP).later (Below.refl _ _).drew; rintro e wa ⟨x1, rfl, hb, o1, o2⟩; have hbx : Below wr.heap.size wr wa := below_of_drew hb; have szwa := hbx.size; replace k0_0 := cell_later hbx k0_0; replace k0_1 := cell_later hbx k0_1; replace k0_2 := cell_later hbx k0_2; replace k0_3 := cell_later hbx k0_3; replace k0_4 := cell_later hbx k0_4; replace k0_5 := cell_later hbx k0_5; replace k0_6 := cell_later hbx k0_6; replace k0_7 := cell_later hbx k0_7; replace k1_0 := cell_later hbx k1_0; replace k1_1 := cell_later hbx k1_1; replace k1_2 := cell_later hbx k1_2; replace k1_3 := cell_later hbx k1_3; replace k1_4 := cell_later hbx k1_4; replace k1_5 := cell_later hbx k1_5; replace k1_6 := cell_later hbx k1_6; replace k1_7 := cell_later hbx k1_7; replace IP := hide ((unhide IP).later hbx); replace IQ := hide ((unhide IQ).later hbx); have F1 := hide hbx; have fs1 := hbx.size; have IX := hide (IsPt.mk (p := (p.1 * ((-1 : Int) : Rat), p.2 * ((-1 : Int) : Rat))) o1.is o2.is); have HBr := hide hbx; clear hbx hb o1 o2)
            | (go_at_call 189; refine (addPS v.1 x1 r (p.1 * ((-1 : Int) : Rat), p.2 * ((-1 : Int) : Rat)) _ ?_ ((unhide BQ).mono (by omega)) ?_ ((unhide BT).mono (by omega))).mono ?_; exact (unhide IQ).later (Below.refl _ _); exact (unhide IX).later (Below.refl _ _); rintro e wb ⟨u, rfl, hb, o1, o2⟩; have hbx : Below wa.heap.size wa wb := hb; have szwb := hbx.size; replace k0_0 := cell_later hbx k0_0; replace k0_1 := cell_later hbx k0_1; replace k0_2 := cell_later hbx k0_2; replace k0_3 := cell_later hbx k0_3; replace k0_4 := cell_later hbx k0_4; replace k0_5 := cell_later hbx k0_5; replace k0_6 := cell_later hbx k0_6; replace k0_7 := cell_later hbx k0_7; replace k1_0 := cell_later hbx k1_0; replace k1_1 := cell_later hbx k1_1; replace k1_2 := cell_later hbx k1_2; replace k1_3 := cell_later hbx k1_3; replace k1_4 := cell_later hbx k1_4; replace k1_5 := cell_later hbx k1_5; replace k1_6 := cell_later hbx k1_6; replace k1_7 := cell_later hbx k1_7; replace IP := hide ((unhide IP).later hbx); replace IQ := hide ((unhide IQ).later hbx); replace IX := hide ((unhide IX).later hbx); obtain ⟨d, ty, ar, hd⟩ := owV_data (p := (r.1 + p.1 * ((-1 : Int) : Rat), r.2 + p.2 * ((-1 : Int) : Rat))) o1 o2; rw [dfP_eq] at hd; have al : Below wb.heap.size wb (wb.alloc (.cells #[.bool u.lo.num.g, .slice u.lo.num.a u.lo.num.n u.lo.num.c, .bool u.lo.den.g, .slice u.lo.den.a u.lo.den.n u.lo.den.c, .bool u.hi.num.g, .slice u.hi.num.a u.hi.num.n u.hi.num.c, .bool u.hi.den.g, .slice u.hi.den.a u.hi.den.n u.hi.den.c] 34)) := (Below.refl _ _).alloc (Nat.le_refl _) _; have FR := hide (below_on (unhide F1) hbx); have GW3 := hide (((unhide GW0).later (unhide FR)).later al); have TY3 := hide (ty.later al); have AR3 := hide (ar.later al); have HB3 := hide (below_on (below_on (unhide HBq) (unhide FR)) al); have HD := hide hd; have fs2 := hbx.size; clear al ty ar hd; have HBr := hide (below_on (unhide HBr) hbx); clear hbx hb o1 o2)
            | (refine stepZ rfl (.tmp 42) (.tmp 54) rfl w3.heap.size _ vs rfl (unhide GW3) wb.heap.size u d rfl (heap_alloc_new _ _) (unhide TY3) (unhide AR3) (by omega) (by simp; omega) ?_; intro g2 cap2 wy hG hgrow; have HB4 := hide (GwZ.bel (unhide GW3) (unhide HB3) (Nat.le_refl _) hgrow); have GW4 := hide hG; replace k0_0 := ((unhide HB4).cell (p := ⟨b, off + j * 8, none⟩) hb).trans ((unhide Y0).1); replace k0_1 := ((unhide HB4).cell (p := ⟨b, off + j * 8 + 1, none⟩) hb).trans ((unhide Y0).2.1); replace k0_2 := ((unhide HB4).cell (p := ⟨b, off + j * 8 + 2, none⟩) hb).trans ((unhide Y0).2.2.1); replace k0_3 := ((unhide HB4).cell (p := ⟨b, off + j * 8 + 3, none⟩) hb).trans ((unhide Y0).2.2.2.1); replace k0_4 := ((unhide HB4).cell (p := ⟨b, off + j * 8 + 4, none⟩) hb).trans ((unhide Y0).2.2.2.2.1); replace k0_5 := ((unhide HB4).cell (p := ⟨b, off + j * 8 + 5, none⟩) hb).trans ((unhide Y0).2.2.2.2.2.1); replace k0_6 := ((unhide HB4).cell (p := ⟨b, off + j * 8 + 6, none⟩) hb).trans ((unhide Y0).2.2.2.2.2.2.1); replace k0_7 := ((unhide HB4).cell (p := ⟨b, off + j * 8 + 7, none⟩) hb).trans ((unhide Y0).2.2.2.2.2.2.2); replace k1_0 := ((unhide HB4).cell (p := ⟨b, off + (j + 1) * 8, none⟩) hb).trans ((unhide V0).1); replace k1_1 := ((unhide HB4).cell (p := ⟨b, off + (j + 1) * 8 + 1, none⟩) hb).trans ((unhide V0).2.1); replace k1_2 := ((unhide HB4).cell (p := ⟨b, off + (j + 1) * 8 + 2, none⟩) hb).trans ((unhide V0).2.2.1); replace k1_3 := ((unhide HB4).cell (p := ⟨b, off + (j + 1) * 8 + 3, none⟩) hb).trans ((unhide V0).2.2.2.1); replace k1_4 := ((unhide HB4).cell (p := ⟨b, off + (j + 1) * 8 + 4, none⟩) hb).trans ((unhide V0).2.2.2.2.1); replace k1_5 := ((unhide HB4).cell (p := ⟨b, off + (j + 1) * 8 + 5, none⟩) hb).trans ((unhide V0).2.2.2.2.2.1); replace k1_6 := ((unhide HB4).cell (p := ⟨b, off + (j + 1) * 8 + 6, none⟩) hb).trans ((unhide V0).2.2.2.2.2.2.1); replace k1_7 := ((unhide HB4).cell (p := ⟨b, off + (j + 1) * 8 + 7, none⟩) hb).trans ((unhide V0).2.2.2.2.2.2.2); clear hG hgrow))
          have AT2 : Hid (∀ t p q, t < j + 1 → (dfK ps k)[t]? = some p → (dfK ps k)[t + 1]? = some q → AtZ (vs ++ [(u, d)]) t (dfP p q)) := hide (fun t p' q' ht hp hq => by
            by_cases e : t = j
            · subst e
              rw [(unhide PV).1] at hp
              rw [(unhide PV).2] at hq
              obtain rfl := Option.some.inj hp
              obtain rfl := Option.some.inj hq
              exact atZ_new hv (unhide HD)
            · exact ((unhide ATi) t p' q' (by omega) hp hq).left)
          clear k0_0 k0_1 k0_2 k0_3 k0_4 k0_5 k0_6 k0_7 k1_0 k1_1 k1_2 k1_3 k1_4 k1_5 k1_6 k1_7 HBr IP IQ GW0 GW3 HB3 HBq
          have hul : vs.length + 1 = j + 1 := by omega
          rw [hul] at GW4 ⊢
          go_wp2
          go_roundw
          case rel => exact ⟨j + 1, vs ++ [(u, d)], by omega, by go_num, by simp [hv], AT2, GW4, HB4⟩
          case measure => simp [intOf]; omega
        · have hm : Hid (m = j + 1) := hide (by omega)
          have hjl' : ¬ ((j : Int) + 1 < (m : Int)) := by omega
          have iw : IntKind.i64.wrap ((j : Int) + 1) = (j : Int) + 1 := by rw [IntKind.wrap_i64] <;> omega
          have hld : (dfK ps k).length = m := (unhide RD3).len
          have IC : Hid (IsC (dfK ps (k + 1)) (vs.map Prod.snd)) := hide (atZ_isC (by show _ = (dfR (dfK ps k)).length; unfold dfR; rw [hv, zw_len, hld]; have := unhide hm; omega) (fun t x hx => by
            have hx : (dfR (dfK ps k))[t]? = some x := hx
            have ht : t < j := by have := (List.getElem?_eq_some_iff.1 hx).1; unfold dfR at this; rw [zw_len, hld] at this; have := unhide hm; omega
            obtain ⟨p, hp⟩ : ∃ p, (dfK ps k)[t]? = some p := ⟨_, List.getElem?_eq_getElem (by rw [hld]; omega)⟩
            obtain ⟨q', hq'⟩ : ∃ q, (dfK ps k)[t + 1]? = some q := ⟨_, List.getElem?_eq_getElem (by rw [hld]; omega)⟩
            unfold dfR at hx
            rw [zw_get _ (dfK ps k) hp hq'] at hx
            obtain rfl := Option.some.inj hx
            exact (unhide ATi) t p q' ht hp hq'))
          have TY := hide (unhide GWi).typ
          have BA := hide (unhide GWi).base
          obtain ⟨a4, c4, e4, _, p4⟩ := (unhide GWi).arg
          rw [hv] at e4 p4
          subst e4
          have RK4 : Hid (RdC wr a4 j c4 vs (dfK ps (k + 1))) := hide ⟨p4, unhide IC⟩
          have SE4 : Hid (∀ b off, a4 = some ⟨b, off, none⟩ → Value.ownBlock (.slice (some ⟨g, 0, none⟩) (k + 1) cap) ≠ some b) := hide (fun b' off' e e2 => by
            subst e
            have h3 := (unhide BA) b' rfl
            simp only [Value.ownBlock, Option.some.injEq] at e2
            omega)
          have GW5 := hide ((unhide GW4).later (unhide HBi))
          have HB5 := hide (below_on (unhide HB4) (unhide HBi))
          have HM5 : Hid (j + (k + 1) = n) := hide (by have := unhide HM; have := unhide hm; omega)
          clear p4 GWi hld
          go_wp2
          go_roundw
          case rel => exact ⟨k + 1, _, us ++ [(u, d)], a4, j, c4, vs, by omega, by go_num, rfl, rfl, by simp [hu], HQ4, HM5, RK4, TY, GW5, SE4, AT4, HB5⟩
          case measure => simp [intOf]; omega
    · obtain rfl : k = n := by omega
      have hlt' : ¬ ((k : Int) ≤ (k : Int) - 1) := by omega
      have hlt2 : (k : Int) - 1 < (k : Int) := by omega
      have IC : Hid (IsC (pwL ps) (us.map Prod.snd)) := hide (atZ_isC (by rw [hu, pwL_len, unhide LP]) (fun j p hp => by
        obtain ⟨h1, rfl⟩ := pwL_get hp
        rw [unhide LP] at h1
        exact (unhide AT) j h1))
      have TY := hide (unhide GW).typ
      obtain ⟨a3, c3, e3, _, p3⟩ := (unhide GW).arg
      rw [hu] at e3 p3
      subst e3
      have P3 := hide p3
      clear p3 GW
      go_wp2
      go_ret
      exact ⟨_, _, _, us, rfl, unhide HB, ⟨unhide P3, unhide IC⟩, unhide TY⟩

set_option maxHeartbeats 8000000 in
theorem PowS (a : Option Addr) (n c : Nat) (l : List (SV × SD)) (w : World) (h : PArS w a n c l) (ht : TypZ w (zipPS l)) :
    Calls Tryz.prog 32 #[.slice a n c] w (RetPrZ w (AnsC (gCv (l.map Prod.snd)) (fun es => es.all f40) (pwL (vC l)))) := by
  have HT := hide ht
  clear ht
  have GC := hide (fun w1 (k : PArS w1 a n c l) => GoodCS a n c l w1 k)
  have HS := hide h
  have HN := hide h.len
  clear h
  cases hg : gCv (l.map Prod.snd)
  · rw [hg] at GC
    go_enter Tryz.func32, Tryz.ntmps32
    go_wp2_with fail
    refine (unhide GC _ (unhide HS)).mono ?_
    rintro e w1 ⟨rfl, hb⟩
    have HB := hide hb
    clear hb GC
    go_wp2
    go_ret2
    exact ⟨none, 0, 0, [], false, rfl, unhide HB, ⟨.inl rfl, fun p hp => (by cases hp)⟩, rfl, .inr ⟨rfl, rfl, rfl⟩⟩
  · rw [hg] at GC
    have HG := hide hg
    have n5 : 1 ≤ n ∧ n ≤ 5 := by have := (gCv_mem hg).1; rw [List.length_map, unhide HN] at this; exact this
    clear hg
    have RD := hide (rdC_good (unhide HS) (unhide HG))
    have BD := hide (bdC_good (unhide HG))
    go_enter Tryz.func32, Tryz.ntmps32
    go_wp2_with fail
    refine (unhide GC _ (unhide HS)).mono ?_
    rintro e w1 ⟨rfl, hb⟩
    have HB1 := hide hb
    have s1 := hb.size
    clear hb GC
    go_wp2_with fail
    refine (powS a n c l (vC l) _ ((unhide RD).later (unhide HB1)) (unhide BD) n5.1 n5.2 ((unhide HT).later (unhide HB1))).mono ?_
    rintro e w2 ⟨a2, n2, c2, l2, rfl, hb2, rd2, ty2⟩
    have HB2 := hide (below_on (unhide HB1) hb2)
    have RD2 := hide rd2
    have LN : Hid (n2 = n) := hide (by have := rd2.len; rw [pwL_len, (unhide RD).len] at this; omega)
    clear hb2 rd2 ty2
    go_wp2_with fail
    refine (allZ _ _ _ l2 _ _ (unhide RD2).ar (unhide RD2).is (by have := unhide LN; omega)).mono ?_
    rintro e w5 ⟨a5, n5', c5, l5, ok5, rfl, hb5, sl5, ln5, an5⟩
    have HB5 := hide (below_on (unhide HB2) hb5)
    have S5 := hide sl5
    have L5 := hide ln5
    have A5 := hide an5
    clear hb5 sl5 ln5 an5
    go_wp2
    go_ret2
    exact ⟨_, _, _, l5, ok5, rfl, unhide HB5, unhide S5, unhide L5, unhide A5⟩
end Go.Proofs.YtikllcoekcglcaaGreat
namespace Go.Proofs.YtikllcoekcglcaaGreat
open Go.RowKit
set_option linter.unusedVariables false
set_option maxRecDepth 100000
set_option linter.unusedSimpArgs false

/-- A sum's box at block S; its limbs lie behind block R. -/
structure SmB (R S : Nat) (w : World) (q : QV) (x : Rat) : Prop where
  c0 : w.cell? ⟨S, 0, none⟩ = some (.bool q.num.g)
  c1 : w.cell? ⟨S, 1, none⟩ = some (.slice q.num.a q.num.n q.num.c)
  c2 : w.cell? ⟨S, 2, none⟩ = some (.bool q.den.g)
  c3 : w.cell? ⟨S, 3, none⟩ = some (.slice q.den.a q.den.n q.den.c)
  fz : ∀ o, w.frozen? ⟨S, o, none⟩ = false
  ow : OwR (R + 1) w.heap.size w q x
theorem SmB.lt {R S : Nat} {w : World} {q : QV} {x : Rat} (h : SmB R S w q x) : S < w.heap.size := World.block_lt_of_cell? _ _ h.c0
theorem SmB.later {R S : Nat} {w w' : World} {q : QV} {x : Rat} (h : SmB R S w q x) (hb : Below w.heap.size w w') : SmB R S w' q x := ⟨cell_later hb h.c0, cell_later hb h.c1, cell_later hb h.c2, cell_later hb h.c3, fun o => frozen_later hb h.lt (h.fz o), (h.ow.later hb).wide (Nat.le_refl _) hb.size⟩
theorem OwR.but {lo hi lo' hi' : Nat} {w w' : World} {q : QV} {x : Rat} (h : OwR lo hi w q x) (bt : But lo' hi' w w') (hd : hi ≤ lo' ∨ hi' ≤ lo) : OwR lo hi w' q x := by
  obtain ⟨xs, us, k1, k2, k3, k4⟩ := h
  have o := k1.but bt hd
  exact ⟨xs, us, o, fun p hp => ⟨(k2 p hp).sg, ⟨(o.sl p hp).sl, (k2 p hp).ar.len, (k2 p hp).ar.cap, (k2 p hp).ar.top, (k2 p hp).ar.addr⟩⟩, k3, k4⟩
theorem SmB.put {R S lo hi : Nat} {w : World} {q q' : QV} {x x' : Rat} (h : SmB R S w q x) (ho : OwR lo hi w q' x') (h1 : S + 1 ≤ lo) (h2 : hi ≤ w.heap.size) (hR : R + 1 ≤ lo) : SmB R S ((((w.setCell ⟨S, 0, none⟩ (.bool q'.num.g)).setCell ⟨S, 1, none⟩ (.slice q'.num.a q'.num.n q'.num.c)).setCell ⟨S, 2, none⟩ (.bool q'.den.g)).setCell ⟨S, 3, none⟩ (.slice q'.den.a q'.den.n q'.den.c)) q' x' := by
  have bt := metQ_but (w5 := w) (v := q') (G := S)
  have e0 := h.c0
  have e1 := h.c1
  have e2 := h.c2
  have e3 := h.c3
  refine ⟨?_, ?_, ?_, ?_, fun o => ?_, (ho.but bt (.inr h1)).wide hR (Nat.le_trans h2 bt.size)⟩
  · simp [go_sem, e0, e1, e2, e3]
  · simp [go_sem, e0, e1, e2, e3]
  · simp [go_sem, e0, e1, e2, e3]
  · simp [go_sem, e0, e1, e2, e3]
  · have := h.fz o
    simp [go_sem, e0, e1, e2, e3, this]
end Go.Proofs.YtikllcoekcglcaaGreat
namespace Go.Proofs.YtikllcoekcglcaaGreat
open Go.RowKit
set_option linter.unusedVariables false
set_option maxRecDepth 100000
set_option linter.unusedSimpArgs false

/-- A sum's box at block S; its limbs lie behind block R. -/
structure SmV (R S : Nat) (w : World) (q : QV) (x : Rat) : Prop where
  c0 : w.cell? ⟨S, 0, none⟩ = some (.bool q.num.g)
  c1 : w.cell? ⟨S, 1, none⟩ = some (.slice q.num.a q.num.n q.num.c)
  c2 : w.cell? ⟨S, 2, none⟩ = some (.bool q.den.g)
  c3 : w.cell? ⟨S, 3, none⟩ = some (.slice q.den.a q.den.n q.den.c)
  fz : ∀ o, w.frozen? ⟨S, o, none⟩ = false
  ow : OwV (R + 1) w.heap.size w q x
theorem SmV.lt {R S : Nat} {w : World} {q : QV} {x : Rat} (h : SmV R S w q x) : S < w.heap.size := World.block_lt_of_cell? _ _ h.c0
theorem SmV.later {R S : Nat} {w w' : World} {q : QV} {x : Rat} (h : SmV R S w q x) (hb : Below w.heap.size w w') : SmV R S w' q x := ⟨cell_later hb h.c0, cell_later hb h.c1, cell_later hb h.c2, cell_later hb h.c3, fun o => frozen_later hb h.lt (h.fz o), (h.ow.later hb).wide (Nat.le_refl _) hb.size⟩
theorem SmV.put {R S lo hi : Nat} {w : World} {q q' : QV} {x x' : Rat} (h : SmV R S w q x) (ho : OwV lo hi w q' x') (h1 : S + 1 ≤ lo) (h2 : hi ≤ w.heap.size) (hR : R + 1 ≤ lo) : SmV R S ((((w.setCell ⟨S, 0, none⟩ (.bool q'.num.g)).setCell ⟨S, 1, none⟩ (.slice q'.num.a q'.num.n q'.num.c)).setCell ⟨S, 2, none⟩ (.bool q'.den.g)).setCell ⟨S, 3, none⟩ (.slice q'.den.a q'.den.n q'.den.c)) q' x' := by
  have bt := metQ_but (w5 := w) (v := q') (G := S)
  have e0 := h.c0
  have e1 := h.c1
  have e2 := h.c2
  have e3 := h.c3
  refine ⟨?_, ?_, ?_, ?_, fun o => ?_, (ho.but bt (.inr h1)).wide hR (Nat.le_trans h2 bt.size)⟩
  · simp [go_sem, e0, e1, e2, e3]
  · simp [go_sem, e0, e1, e2, e3]
  · simp [go_sem, e0, e1, e2, e3]
  · simp [go_sem, e0, e1, e2, e3]
  · have := h.fz o
    simp [go_sem, e0, e1, e2, e3, this]
end Go.Proofs.YtikllcoekcglcaaGreat
